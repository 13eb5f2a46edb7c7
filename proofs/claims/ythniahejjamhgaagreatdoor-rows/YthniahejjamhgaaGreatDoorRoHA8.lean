import Derived.Test.YthniahejjamhgaaGreatDoorRoHA6
set_option maxRecDepth 100000
set_option maxHeartbeats 6400000
namespace Go.Proofs.YthniahejjamhgaaGreatDoor
open Go.RowKit
set_option linter.unusedSimpArgs false
set_option linter.unusedVariables false
def TldB (n:Nat) (M:Int) (r:Ending):Prop:=∃ a:Nat,a<=n/\(M<=(n:Int)->M<=(a:Int))/\r = .returned (.int .i64 (a:Int))
theorem told_lo (v:Value) (l:List Int) (M:Int) (w:World) (hl:LAt w .u8 v l) (hn:l.length<=1048576) :
  Calls Tryz.prog 157 #[v,.int .i64 M] w fun r w'=>TldB l.length M r/\w'=w:=by
 obtain ⟨p,c,rfl⟩:=hl.form;have HL:Hid (LAt w .u8 (.slice p l.length c) l):=hl;clear hl;go_enter Tryz.func157,Tryz.ntmps157;go_wp2;go_loopw [5] (fun v W=>∃ a:Nat,a<=l.length/\(M<=(l.length:Int)->M<=(a:Int))/\v = .int .i64 (a:Int)/\W=w) (fun v _=>(intOf v).toNat)
 case atStart=>exact ⟨l.length,by omega,fun h=>h,rfl,rfl⟩
 case round=>
  obtain ⟨a,ha,hM,rfl,rfl⟩:=hrel;have HM:Hid (M<=(l.length:Int)->M<=(a:Int)):=hM;clear hM;by_cases c1:M<(a:Int)
  ·by_cases c2:0<a
   ·obtain ⟨d,rfl⟩:∃ d,a=d+1:=⟨a - 1,by omega⟩
    obtain ⟨g,o,rfl,hc⟩:=HL.out.cellAt d (by omega);generalize l.getD d 0=X at *;have j0:(0:Int)<((d+1:Nat):Int):=by omega
    have j1:((d+1:Nat):Int) - 1=(d:Int):=by omega
    have j2:(0:Int)<=(d:Int):=by omega
    have j3:(d:Int)<(l.length:Int):=by omega
    by_cases c3:X=0
    ·subst c3
     go_wp2;exact ⟨⟨d,by omega,fun _=>by omega,val_int (by omega),trivial⟩,by simp [intOf]⟩
    ·have c3':(X == 0)=false:=by rw[beq_eq_false_iff_ne];exact c3
     go_wp2;go_ret;exact ⟨⟨d+1,ha,HM.out,rfl⟩,rfl⟩
   ·have a0:a=0:=by omega
    subst a0;go_wp2;go_ret;exact ⟨⟨0,by omega,HM.out,rfl⟩,rfl⟩
  ·go_wp2
   go_ret;exact ⟨⟨a,ha,HM.out,rfl⟩,rfl⟩
theorem told_any (v:Value) (l:List Int) (M:Int) (w:World) (hl:LAt w .u8 v l) (hn:l.length<=1048576) :
  Calls Tryz.prog 157 #[v,.int .i64 M] w fun r w'=>NumB l.length r/\w'=w:=
 (told_lo v l M w hl hn).mono (fun r w' q=>⟨by obtain ⟨a,h1,_,h2⟩:=q.1;exact ⟨a,h1,h2⟩,q.2⟩)
theorem runat_any (v:Value) (l:List Int) (a:Nat) (w:World) (hl:LAt w .u8 v l) (hn:l.length<=1048576) (ha:a<l.length) :
  Calls Tryz.prog 171 #[v,.int .i64 (a:Int)] w fun r w'=>NumB (l.length - a) r/\Kept w w':=by
 obtain ⟨p,c,rfl⟩:=hl.form;have HL:Hid (∀ W,Kept w W->LAt W .u8 (.slice p l.length c) l):=fun W k=>hl.kept k
 have i1:(0:Int)<=(a:Int):=by omega
 have i2:(a:Int)<(l.length:Int):=by omega
 clear hl;go_enter Tryz.func171,Tryz.ntmps171;go_wp2;go_loopw [5] (fun v W=>∃ n:Nat,a+n<=l.length/\v = .int .i64 (n:Int)/\Kept w W) (fun v _=>l.length - (intOf v).toNat)
 case atStart=>exact ⟨0,by omega,rfl,Kept.refl _⟩
 case round=>
  obtain ⟨n,hn2,rfl,hk⟩:=hrel;have HK:Hid (Kept w wr):=hk;have HL1:Hid (LAt wr .u8 (.slice p l.length c) l):=HL.out wr hk;clear hk;by_cases c2:a+n<l.length
  ·have j2:(a:Int)+(n:Int)<(l.length:Int):=by omega
   obtain ⟨g,o,rfl,k1⟩:=HL1.out.cellAt a ha;obtain ⟨g',o',e,k2⟩:=HL1.out.cellAt (a+n) c2
   injection e with e
   injection e with e1 e2
   subst e1;subst e2;generalize l.getD a 0=X at *;generalize l.getD (a+n) 0=Y at *;have j5:(0:Int)<=(a:Int)+(n:Int):=by omega
   have e4:((a:Int)+(n:Int)).toNat=a+n:=by omega
   by_cases q:Y=X
   ·subst q
    go_wp2_with fail;go_quiet (fail);go_wp2;exact ⟨⟨n+1,by omega,by go_num,HK.out.drewN _⟩,by simp [intOf];omega⟩
   ·have q':(Y == X)=false:=by rw[beq_eq_false_iff_ne];exact q
    go_wp2_with fail;go_quiet (fail);go_wp2;go_ret;exact ⟨⟨n,by omega,rfl⟩,HK.out.drewN _⟩
  ·have j2:¬ (a:Int)+(n:Int)<(l.length:Int):=by omega
   have j5:(0:Int)<=(a:Int)+(n:Int):=by omega
   have j6:(a:Int)+(n:Int)<=1048576:=by omega
   have j7:decide ((a:Int)+(n:Int)<(l.length:Int))=false:=decide_eq_false j2;go_wp2_with fail;go_quiet (fail);go_wp2;go_ret;exact ⟨⟨n,by omega,rfl⟩,HK.out.drewN _⟩
theorem fits_s (k a b:Int) (R:Int) (w:World) (h:(k=16/\a=3/\b=2)\/(k=17/\a=3/\b=3)\/(k=18/\a=11/\b=7)) :
  Calls Tryz.prog 186 #[.int .i64 k,.int .i64 R] w fun r w'=>r = .returned (.bool (decide (a<=R)))/\w'=w:=by
 have F:Hid (Calls Tryz.prog 173 #[.int .i64 k] w fun r w'=>r = .returned (.tuple #[.int .i64 a,.int .i64 b])/\w'=w):=by
  rcases h with ⟨rfl,rfl,rfl⟩ | ⟨rfl,rfl,rfl⟩ | ⟨rfl,rfl,rfl⟩
  all_goals
   go_enter Tryz.func173,Tryz.ntmps173;go_wp2;go_ret2;exact ⟨rfl,rfl⟩
 clear h;go_enter Tryz.func186,Tryz.ntmps186;go_wp2_with fail;refine F.out.mono ?_;rintro r w' ⟨rfl,rfl⟩;go_wp2;go_ret;exact ⟨rfl,rfl⟩
theorem shortfor_any (v:Value) (l:List Int) (a:Nat) (R:Int) (w:World) (hl:LAt w .u8 v l) (hB:isBytes l) (hn:l.length<=1048576) (ha:a<l.length) :
  Calls Tryz.prog 172 #[v,.int .i64 (a:Int),.int .i64 R] w fun r w'=>NumB 255 r/\Kept w w':=by
 obtain ⟨p,c,rfl⟩:=hl.form;have i1:¬ (a:Int)<0:=by omega
 have i2:¬ (l.length:Int)<=(a:Int):=by omega
 have i3:(0:Int)<=(a:Int):=by omega
 have i4:(a:Int)<(l.length:Int):=by omega
 have F1:Hid (∀ W,Calls Tryz.prog 186 #[.int .i64 16,.int .i64 R] W fun r w'=>r = .returned (.bool (decide (3<=R)))/\w'=W):=fun W=>fits_s 16 3 2 R W (Or.inl ⟨rfl,rfl,rfl⟩)
 have F2:Hid (∀ W,Calls Tryz.prog 186 #[.int .i64 17,.int .i64 R] W fun r w'=>r = .returned (.bool (decide (3<=R)))/\w'=W):=fun W=>fits_s 17 3 3 R W (Or.inr (Or.inl ⟨rfl,rfl,rfl⟩))
 have F3:Hid (∀ W,Calls Tryz.prog 186 #[.int .i64 18,.int .i64 R] W fun r w'=>r = .returned (.bool (decide (11<=R)))/\w'=W):=fun W=>fits_s 18 11 7 R W (Or.inr (Or.inr ⟨rfl,rfl,rfl⟩))
 obtain ⟨g,o,rfl,k1⟩:=hl.cellAt a ha;obtain ⟨x0,x1⟩:=hB _ (getD_mem ha);generalize l.getD a 0=X at *;obtain ⟨x,rfl⟩:∃ x:Nat,X=(x:Int):=⟨X.toNat,by omega⟩;have last:Hid (∀ (b:Nat),0<a->a - 1=b->∃ Y:Int,w.cell? ⟨g,o+b,none⟩=some (.int .u8 Y)):=fun b h1 h2=>by
  obtain ⟨g',o',e,k2⟩:=hl.cellAt b (by omega)
  injection e with e
  injection e with e1 e2
  subst e1;subst e2;exact ⟨_,k2⟩
 clear hl hB;generalize hD3:decide (3<=R)=D3 at *;generalize hD11:decide (11<=R)=D11 at *;clear hD3 hD11;have wx:IntKind.i64.wrap (x:Int)=(x:Int):=by rw[IntKind.wrap_i64];omega
 go_enter Tryz.func172,Tryz.ntmps172;by_cases c0:x=0
 ·subst c0
  go_wp2_with fail;refine (F3.out _).mono ?_;rintro r w' ⟨rfl,rfl⟩;cases D11
  ·go_wp2_with fail
   refine (F2.out _).mono ?_;rintro r w' ⟨rfl,rfl⟩;cases D3
   ·go_wp2_with fail
    by_cases ca:0<a
    ·obtain ⟨b,rfl⟩:∃ b,a=b+1:=⟨a - 1,by omega⟩
     obtain ⟨Y,k2⟩:=last.out b ca (by omega);have j0:(0:Int)<((b+1:Nat):Int):=by omega
     have j1:((b+1:Nat):Int) - 1=(b:Int):=by omega
     have j2:(b:Int)<(l.length:Int):=by omega
     have j3:(0:Int)<=(b:Int):=by omega
     by_cases cy:Y=0
     ·subst cy
      go_quiet ((go_at_call 186;exact Calls.quiet_of_same (F1.out _)))
      go_wp2;go_ret;exact ⟨⟨0,by omega,rfl⟩,(Kept.refl _).drewN _⟩
     ·have cy':(Y == 0)=false:=by rw[beq_eq_false_iff_ne];exact cy
      go_quiet ((go_at_call 186;exact Calls.quiet_of_same (F1.out _)))
      go_wp2;go_ret;exact ⟨⟨0,by omega,rfl⟩,(Kept.refl _).drewN _⟩
    ·have a0:¬ (0:Int)<(a:Int):=by omega
     have a1:decide ((0:Int)<(a:Int))=false:=decide_eq_false a0;go_quiet ((go_at_call 186;exact Calls.quiet_of_same (F1.out _)))
     go_wp2;go_ret;exact ⟨⟨0,by omega,rfl⟩,(Kept.refl _).drewN _⟩
   ·go_wp2
    go_ret;exact ⟨⟨17,by omega,rfl⟩,Kept.refl _⟩
  ·go_wp2
   go_ret;exact ⟨⟨18,by omega,rfl⟩,Kept.refl _⟩
 ·have c0':((x:Int) == 0)=false:=by rw[beq_eq_false_iff_ne];omega
  go_wp2_with fail;by_cases ca:0<a
  ·obtain ⟨b,rfl⟩:∃ b,a=b+1:=⟨a - 1,by omega⟩
   obtain ⟨Y,k2⟩:=last.out b ca (by omega);have j0:(0:Int)<((b+1:Nat):Int):=by omega
   have j1:((b+1:Nat):Int) - 1=(b:Int):=by omega
   have j2:(b:Int)<(l.length:Int):=by omega
   have j3:(0:Int)<=(b:Int):=by omega
   by_cases cy:Y=(x:Int)
   ·subst cy
    go_quiet ((go_at_call 186;exact Calls.quiet_of_same (F1.out _)))
    cases D3
    ·go_wp2
     go_ret;exact ⟨⟨x,by omega,rfl⟩,(Kept.refl _).drewN _⟩
    ·go_wp2
     go_ret;exact ⟨⟨16,by omega,rfl⟩,(Kept.refl _).drewN _⟩
   ·have cy':(Y == (x:Int))=false:=by rw[beq_eq_false_iff_ne];exact cy
    go_quiet ((go_at_call 186;exact Calls.quiet_of_same (F1.out _)))
    go_wp2;go_ret;exact ⟨⟨x,by omega,rfl⟩,(Kept.refl _).drewN _⟩
  ·have a0:¬ (0:Int)<(a:Int):=by omega
   have a1:decide ((0:Int)<(a:Int))=false:=decide_eq_false a0;go_quiet ((go_at_call 186;exact Calls.quiet_of_same (F1.out _)))
   go_wp2;go_ret;exact ⟨⟨x,by omega,rfl⟩,(Kept.refl _).drewN _⟩
theorem infoSt:(Tryz.prog.info? 236).map (fun i=>(i.zero,i.size,i.bytes))=some (some (.agg #[.int .i64 0,.int .i64 0]),2,16):=by kernel_rfl
structure StAt (W:World) (v:Value) (n:Nat):Prop where
 form:∃ p c,v = .slice p n c
 cells:∀ i,i<n->∃ (g c:Nat) (s z:Int),v = .slice (some ⟨g,0,none⟩) n c/\W.cell? ⟨g,i*2,none⟩=some (.int .i64 s)/\W.cell? ⟨g,i*2+1,none⟩=some (.int .i64 z)
theorem StAt.frS {S:Nat->Prop} {w W:World} {v:Value} {n:Nat} (h:StAt w v n) (k:Fr S w W) (hS:∀ g,v.ownBlock=some g->¬ S g):StAt W v n:=by
 refine ⟨h.form,fun i hi => ?_⟩;obtain ⟨g,c,s,z,e,c0,c1⟩:=h.cells i hi;have hg:¬ S g:=hS g (by rw[e];rfl);have hlt:=World.block_lt_of_cell? _ _ c0;exact ⟨g,c,s,z,e,(k.cell hlt hg).trans c0,(k.cell hlt hg).trans c1⟩
theorem StAt.kept {w W:World} {v:Value} {n:Nat} (h:StAt w v n) (k:Kept w W):StAt W v n:=h.frS (S:=fun _=>False) (Fr.of_kept k) (fun _ _ f=>f)
theorem StAt.two {W:World} {p:Option Addr} {n c:Nat} (h:StAt W (.slice p n c) n) {i:Nat} (hi:i<n):∃ (g:Nat) (s z:Int),p=some ⟨g,0,none⟩/\W.cell? ⟨g,i*2,none⟩=some (.int .i64 s)/\W.cell? ⟨g,i*2+1,none⟩=some (.int .i64 z):=by
 obtain ⟨g,c',s,z,e,y0,y1⟩:=h.cells i hi
 injection e with e1 e2 e3
 exact ⟨g,s,z,e1,y0,y1⟩
def StL (xs:List Value):Prop:=∀ (k:Nat) (u:Value),xs[k]? = some u->∃ z:Int,u = .int .i64 z
theorem StL.nil:StL []:=fun k u h=>by simp at h
theorem StL.snoc {s z:Int} {xs:List Value} (h:StL xs):StL (xs++[.int .i64 s,.int .i64 z]):=by
 intro k u hk;by_cases c:k<xs.length
 ·rw[List.getElem?_append_left c] at hk;exact h k u hk
 ·rw[List.getElem?_append_right (by omega)] at hk
  match hq:k - xs.length,hk with
  | 0,hk=>simp at hk;exact ⟨_,hk.symm⟩
  | 1,hk=>simp at hk;exact ⟨_,hk.symm⟩
  | j+2,hk=>simp at hk
theorem StL.at {W:World} {N:Nat} {v:Value} {n:Nat} {xs:List Value} (hx:StL xs) (o:W.ownsRow N 236 2 v n xs):StAt W v n:=by
 obtain ⟨p,c,hv⟩:=own_slice o;refine ⟨⟨p,c,hv⟩,fun i hi => ?_⟩;have hl:=o.1;rcases o.2 with ⟨_,h0⟩ | ⟨g,cap,cur,hv2,r⟩
 ·omega
 ·have ad:∀ j,(Addr.add ⟨g,0,none⟩ j)=⟨g,j,none⟩:=fun j=>by unfold Addr.add;split<;>simp_all
  have hc:∀ j (hj:j<xs.length),W.cell? ⟨g,j,none⟩=some xs[j]:=fun j hj=>by
   have:=o.cells (by rw[hv2];rfl) j xs[j] (List.getElem?_eq_getElem hj)
   rw[ad] at this;exact this
  have a0:i*2<xs.length:=by omega
  have a1:i*2+1<xs.length:=by omega
  obtain ⟨s,e0⟩:=hx _ _ (List.getElem?_eq_getElem a0);obtain ⟨z,e1⟩:=hx _ _ (List.getElem?_eq_getElem a1);exact ⟨g,cap,s,z,hv2,by rw[hc _ a0,e0],by rw[hc _ a1,e1]⟩
def RepX (r:Ending):Prop:=∃ a b:Nat,((a=3/\b=2)\/(a=3/\b=3)\/(a=11/\b=7)\/(a=1/\b=0))/\r = .returned (.tuple #[.int .i64 (a:Int),.int .i64 (b:Int)])
theorem rept_x (k:Int) (w:World) :
  Calls Tryz.prog 173 #[.int .i64 k] w fun r w'=>RepX r/\w'=w:=by
 by_cases a1:k=16
 ·subst a1
  go_enter Tryz.func173,Tryz.ntmps173;go_wp2;go_ret2;exact ⟨⟨3,2,Or.inl ⟨rfl,rfl⟩,rfl⟩,rfl⟩
 by_cases a2:k=17
 ·subst a2
  go_enter Tryz.func173,Tryz.ntmps173;go_wp2;go_ret2;exact ⟨⟨3,3,Or.inr (Or.inl ⟨rfl,rfl⟩),rfl⟩,rfl⟩
 by_cases a3:k=18
 ·subst a3
  go_enter Tryz.func173,Tryz.ntmps173;go_wp2;go_ret2;exact ⟨⟨11,7,Or.inr (Or.inr (Or.inl ⟨rfl,rfl⟩)),rfl⟩,rfl⟩
 ·have g1:(k == 16)=false:=by rw[beq_eq_false_iff_ne];exact a1
  have g2:(k == 17)=false:=by rw[beq_eq_false_iff_ne];exact a2
  have g3:(k == 18)=false:=by rw[beq_eq_false_iff_ne];exact a3
  clear a1 a2 a3;go_enter Tryz.func173,Tryz.ntmps173;go_wp2;go_ret2;exact ⟨⟨1,0,Or.inr (Or.inr (Or.inr ⟨rfl,rfl⟩)),rfl⟩,rfl⟩
def StsP (w:World) (m:Nat) (r:Ending) (w':World):Prop:=∃ lv n,r = .returned lv/\n<=m/\StAt w' lv n/\∀ g,lv.ownBlock=some g->w.heap.size<=g/\g<w'.heap.size
theorem stepsof_any (v:Value) (l:List Int) (w:World) (hl:LAt w .u8 v l) (hB:isBytes l) (hn:l.length<=65536) :
  Calls Tryz.prog 158 #[v] w fun r w'=>StsP w l.length r w'/\Kept w w':=by
 obtain ⟨p,c,rfl⟩:=hl.form;have HL:Hid (∀ W,Kept w W->LAt W .u8 (.slice p l.length c) l):=fun W k=>hl.kept k
 have HB:Hid (isBytes l):=hB;clear hl hB;go_enter Tryz.func158,Tryz.ntmps158;go_wp2;go_loopw [3,4,5,6,7,8,9] (fun v3 v4 _ _ _ _ _ W=>∃ (n a:Nat) (xs:List Value),a<=l.length/\n<=a/\v4 = .int .i64 (a:Int)/\W.ownsRow w.heap.size 236 2 v3 n xs/\StL xs/\Kept w W) (fun _ v4 _ _ _ _ _ _=>l.length - (intOf v4).toNat)
 case atStart=>exact ⟨0,0,[],by omega,by omega,rfl,World.ownsRow_nil _ _ _ _,StL.nil,Kept.refl _⟩
 case round=>
  obtain ⟨n,a,xs,ha,hna,rfl,ho,hx,hK⟩:=hrel;obtain ⟨p3,c3,rfl⟩:=own_slice ho;have HO:Hid (wr.ownsRow w.heap.size 236 2 (.slice p3 n c3) n xs):=ho;have HX:Hid (StL xs):=hx;have HK:Hid (Kept w wr):=hK;clear ho hx hK;by_cases c1:a<l.length
  ·have c1':(a:Int)<(l.length:Int):=by omega
   go_wp2_with fail;refine (runat_any _ l a wr (HL.out wr HK.out) (by omega) c1).mono ?_;rintro r w1 ⟨⟨R,hR,rfl⟩,hk1⟩;have HK1:Hid (Kept w w1):=HK.out.trans hk1;have HO1:Hid (w1.ownsRow w.heap.size 236 2 (.slice p3 n c3) n xs):=own_kept HO.out hk1;clear hk1 HO HK;go_wp2_with fail;refine (shortfor_any _ l a (R:Int) w1 (HL.out w1 HK1.out) HB.out (by omega) c1).mono ?_;rintro r w2 ⟨⟨s,hs,rfl⟩,hk2⟩;have HK2:Hid (Kept w w2):=HK1.out.trans hk2;have HO2:Hid (w2.ownsRow w.heap.size 236 2 (.slice p3 n c3) n xs):=own_kept HO1.out hk2;clear hk2 HO1 HK1;go_wp2_with fail;refine (rept_x (s:Int) w2).mono ?_;rintro r w3 ⟨⟨A,b,hab,rfl⟩,rfl⟩;have HJ:Hid (∀ j,(Value.slice p3 n c3).ownBlock=some j->w.heap.size<=j):=fun j hj=>(HO2.out.lt j hj).1
   rcases hab with ⟨rfl,rfl⟩ | ⟨rfl,rfl⟩ | ⟨rfl,rfl⟩ | ⟨rfl,rfl⟩
   ·go_upto_region 8 with fail
    obtain ⟨T,hT,hTR⟩:∃ T:Nat,(if (6:Int)<(R:Int) then (6:Int) else (R:Int))=(T:Int)/\T<=R:=by
     by_cases q:(6:Int)<(R:Int)
     ·exact ⟨6,by rw[if_pos q];rfl,by omega⟩
     ·exact ⟨R,by rw[if_neg q],Nat.le_refl _⟩
    rw[hT];clear hT;have O1:Hid ((w3.alloc (Obj.cells #[.int .i64 (s:Int),.int .i64 ((T:Int) - 3)] 236)).ownsRow w.heap.size 236 2 (.slice p3 n c3) n xs):=own_kept HO2.out ((Below.refl _ _).alloc (Nat.le_refl _) _);have K1:Hid (Kept w (w3.alloc (Obj.cells #[.int .i64 (s:Int),.int .i64 ((T:Int) - 3)] 236))):=HK2.out.trans ((Below.refl _ _).alloc (Nat.le_refl _) _);have HC:Hid (∀ (j:Nat) (u:Value),[Value.int .i64 (s:Int),.int .i64 ((T:Int) - 3)][j]? = some u->(w3.alloc (Obj.cells #[.int .i64 (s:Int),.int .i64 ((T:Int) - 3)] 236)).cell? (Addr.add ⟨w3.heap.size,0,none⟩ j)=some u):=by
     intro j u hj;have e:(Addr.add ⟨w3.heap.size,0,none⟩ j)=⟨w3.heap.size,j,none⟩:=by unfold Addr.add;split<;>simp_all
     rw[e];refine (World.cell?_alloc_at _ _ _ _ rfl).trans ?_
     simpa using hj
    have HZ:Hid (w.heap.size<=(w3.alloc (Obj.cells #[.int .i64 (s:Int),.int .i64 ((T:Int) - 3)] 236)).heap.size):=K1.out.size;clear HO2 HK2 HL HB;go_wp2_with (at_builtin;refine append_own _ 219 219 236 2 16 (.agg #[.int .i64 0,.int .i64 0]) Tryz.underlying219 infoSt rfl (by omega) rfl _ _ rfl w.heap.size (.slice p3 n c3) n xs rfl O1.out ⟨w3.heap.size,0,none⟩ 1 1 [.int .i64 (s:Int),.int .i64 ((T:Int) - 3)] rfl rfl (by omega) HC.out (by intro u hu;simp at hu;rcases hu with rfl | rfl<;>rfl) (by unfold maxLen;omega) (by omega) HZ.out ?_ rfl)
    intro v' w' o2 gr hat;obtain ⟨p8,c8,rfl⟩:=own_slice o2;have O3:Hid (w'.ownsRow w.heap.size 236 2 (.slice p8 (n+1) c8) (n+1) (xs++[.int .i64 (s:Int),.int .i64 ((T:Int) - 3)])):=o2;have X3:Hid (StL (xs++[.int .i64 (s:Int),.int .i64 ((T:Int) - 3)])):=HX.out.snoc;have K3:Hid (Kept w w'):=K1.out.grown gr HZ.out HJ.out;clear o2 gr hat O1 K1 HC HZ HJ HX;by_cases q:T=0
    ·subst q
     go_wp2;exact ⟨⟨n+1,a+1,_,by omega,by omega,by go_num,O3.out,X3.out,K3.out⟩,by simp [intOf];omega⟩
    ·have q':(1:Int)<=(T:Int):=by omega
     go_wp2;exact ⟨⟨n+1,a+T,_,by omega,by omega,val_int (by omega),O3.out,X3.out,K3.out⟩,by simp [intOf];omega⟩
   ·go_upto_region 8 with fail
    obtain ⟨T,hT,hTR⟩:∃ T:Nat,(if (10:Int)<(R:Int) then (10:Int) else (R:Int))=(T:Int)/\T<=R:=by
     by_cases q:(10:Int)<(R:Int)
     ·exact ⟨10,by rw[if_pos q];rfl,by omega⟩
     ·exact ⟨R,by rw[if_neg q],Nat.le_refl _⟩
    rw[hT];clear hT;have O1:Hid ((w3.alloc (Obj.cells #[.int .i64 (s:Int),.int .i64 ((T:Int) - 3)] 236)).ownsRow w.heap.size 236 2 (.slice p3 n c3) n xs):=own_kept HO2.out ((Below.refl _ _).alloc (Nat.le_refl _) _);have K1:Hid (Kept w (w3.alloc (Obj.cells #[.int .i64 (s:Int),.int .i64 ((T:Int) - 3)] 236))):=HK2.out.trans ((Below.refl _ _).alloc (Nat.le_refl _) _);have HC:Hid (∀ (j:Nat) (u:Value),[Value.int .i64 (s:Int),.int .i64 ((T:Int) - 3)][j]? = some u->(w3.alloc (Obj.cells #[.int .i64 (s:Int),.int .i64 ((T:Int) - 3)] 236)).cell? (Addr.add ⟨w3.heap.size,0,none⟩ j)=some u):=by
     intro j u hj;have e:(Addr.add ⟨w3.heap.size,0,none⟩ j)=⟨w3.heap.size,j,none⟩:=by unfold Addr.add;split<;>simp_all
     rw[e];refine (World.cell?_alloc_at _ _ _ _ rfl).trans ?_
     simpa using hj
    have HZ:Hid (w.heap.size<=(w3.alloc (Obj.cells #[.int .i64 (s:Int),.int .i64 ((T:Int) - 3)] 236)).heap.size):=K1.out.size;clear HO2 HK2 HL HB;go_wp2_with (at_builtin;refine append_own _ 219 219 236 2 16 (.agg #[.int .i64 0,.int .i64 0]) Tryz.underlying219 infoSt rfl (by omega) rfl _ _ rfl w.heap.size (.slice p3 n c3) n xs rfl O1.out ⟨w3.heap.size,0,none⟩ 1 1 [.int .i64 (s:Int),.int .i64 ((T:Int) - 3)] rfl rfl (by omega) HC.out (by intro u hu;simp at hu;rcases hu with rfl | rfl<;>rfl) (by unfold maxLen;omega) (by omega) HZ.out ?_ rfl)
    intro v' w' o2 gr hat;obtain ⟨p8,c8,rfl⟩:=own_slice o2;have O3:Hid (w'.ownsRow w.heap.size 236 2 (.slice p8 (n+1) c8) (n+1) (xs++[.int .i64 (s:Int),.int .i64 ((T:Int) - 3)])):=o2;have X3:Hid (StL (xs++[.int .i64 (s:Int),.int .i64 ((T:Int) - 3)])):=HX.out.snoc;have K3:Hid (Kept w w'):=K1.out.grown gr HZ.out HJ.out;clear o2 gr hat O1 K1 HC HZ HJ HX;by_cases q:T=0
    ·subst q
     go_wp2;exact ⟨⟨n+1,a+1,_,by omega,by omega,by go_num,O3.out,X3.out,K3.out⟩,by simp [intOf];omega⟩
    ·have q':(1:Int)<=(T:Int):=by omega
     go_wp2;exact ⟨⟨n+1,a+T,_,by omega,by omega,val_int (by omega),O3.out,X3.out,K3.out⟩,by simp [intOf];omega⟩
   ·go_upto_region 8 with fail
    obtain ⟨T,hT,hTR⟩:∃ T:Nat,(if (138:Int)<(R:Int) then (138:Int) else (R:Int))=(T:Int)/\T<=R:=by
     by_cases q:(138:Int)<(R:Int)
     ·exact ⟨138,by rw[if_pos q];rfl,by omega⟩
     ·exact ⟨R,by rw[if_neg q],Nat.le_refl _⟩
    rw[hT];clear hT;have O1:Hid ((w3.alloc (Obj.cells #[.int .i64 (s:Int),.int .i64 ((T:Int) - 11)] 236)).ownsRow w.heap.size 236 2 (.slice p3 n c3) n xs):=own_kept HO2.out ((Below.refl _ _).alloc (Nat.le_refl _) _);have K1:Hid (Kept w (w3.alloc (Obj.cells #[.int .i64 (s:Int),.int .i64 ((T:Int) - 11)] 236))):=HK2.out.trans ((Below.refl _ _).alloc (Nat.le_refl _) _);have HC:Hid (∀ (j:Nat) (u:Value),[Value.int .i64 (s:Int),.int .i64 ((T:Int) - 11)][j]? = some u->(w3.alloc (Obj.cells #[.int .i64 (s:Int),.int .i64 ((T:Int) - 11)] 236)).cell? (Addr.add ⟨w3.heap.size,0,none⟩ j)=some u):=by
     intro j u hj;have e:(Addr.add ⟨w3.heap.size,0,none⟩ j)=⟨w3.heap.size,j,none⟩:=by unfold Addr.add;split<;>simp_all
     rw[e];refine (World.cell?_alloc_at _ _ _ _ rfl).trans ?_
     simpa using hj
    have HZ:Hid (w.heap.size<=(w3.alloc (Obj.cells #[.int .i64 (s:Int),.int .i64 ((T:Int) - 11)] 236)).heap.size):=K1.out.size;clear HO2 HK2 HL HB;go_wp2_with (at_builtin;refine append_own _ 219 219 236 2 16 (.agg #[.int .i64 0,.int .i64 0]) Tryz.underlying219 infoSt rfl (by omega) rfl _ _ rfl w.heap.size (.slice p3 n c3) n xs rfl O1.out ⟨w3.heap.size,0,none⟩ 1 1 [.int .i64 (s:Int),.int .i64 ((T:Int) - 11)] rfl rfl (by omega) HC.out (by intro u hu;simp at hu;rcases hu with rfl | rfl<;>rfl) (by unfold maxLen;omega) (by omega) HZ.out ?_ rfl)
    intro v' w' o2 gr hat;obtain ⟨p8,c8,rfl⟩:=own_slice o2;have O3:Hid (w'.ownsRow w.heap.size 236 2 (.slice p8 (n+1) c8) (n+1) (xs++[.int .i64 (s:Int),.int .i64 ((T:Int) - 11)])):=o2;have X3:Hid (StL (xs++[.int .i64 (s:Int),.int .i64 ((T:Int) - 11)])):=HX.out.snoc;have K3:Hid (Kept w w'):=K1.out.grown gr HZ.out HJ.out;clear o2 gr hat O1 K1 HC HZ HJ HX;by_cases q:T=0
    ·subst q
     go_wp2;exact ⟨⟨n+1,a+1,_,by omega,by omega,by go_num,O3.out,X3.out,K3.out⟩,by simp [intOf];omega⟩
    ·have q':(1:Int)<=(T:Int):=by omega
     go_wp2;exact ⟨⟨n+1,a+T,_,by omega,by omega,val_int (by omega),O3.out,X3.out,K3.out⟩,by simp [intOf];omega⟩
   ·go_upto_region 8 with fail
    obtain ⟨T,hT,hTR⟩:∃ T:Nat,(if (1:Int)<(R:Int) then (1:Int) else (R:Int))=(T:Int)/\T<=R:=by
     by_cases q:(1:Int)<(R:Int)
     ·exact ⟨1,by rw[if_pos q];rfl,by omega⟩
     ·exact ⟨R,by rw[if_neg q],Nat.le_refl _⟩
    rw[hT];clear hT;have O1:Hid ((w3.alloc (Obj.cells #[.int .i64 (s:Int),.int .i64 ((T:Int) - 1)] 236)).ownsRow w.heap.size 236 2 (.slice p3 n c3) n xs):=own_kept HO2.out ((Below.refl _ _).alloc (Nat.le_refl _) _);have K1:Hid (Kept w (w3.alloc (Obj.cells #[.int .i64 (s:Int),.int .i64 ((T:Int) - 1)] 236))):=HK2.out.trans ((Below.refl _ _).alloc (Nat.le_refl _) _);have HC:Hid (∀ (j:Nat) (u:Value),[Value.int .i64 (s:Int),.int .i64 ((T:Int) - 1)][j]? = some u->(w3.alloc (Obj.cells #[.int .i64 (s:Int),.int .i64 ((T:Int) - 1)] 236)).cell? (Addr.add ⟨w3.heap.size,0,none⟩ j)=some u):=by
     intro j u hj;have e:(Addr.add ⟨w3.heap.size,0,none⟩ j)=⟨w3.heap.size,j,none⟩:=by unfold Addr.add;split<;>simp_all
     rw[e];refine (World.cell?_alloc_at _ _ _ _ rfl).trans ?_
     simpa using hj
    have HZ:Hid (w.heap.size<=(w3.alloc (Obj.cells #[.int .i64 (s:Int),.int .i64 ((T:Int) - 1)] 236)).heap.size):=K1.out.size;clear HO2 HK2 HL HB;go_wp2_with (at_builtin;refine append_own _ 219 219 236 2 16 (.agg #[.int .i64 0,.int .i64 0]) Tryz.underlying219 infoSt rfl (by omega) rfl _ _ rfl w.heap.size (.slice p3 n c3) n xs rfl O1.out ⟨w3.heap.size,0,none⟩ 1 1 [.int .i64 (s:Int),.int .i64 ((T:Int) - 1)] rfl rfl (by omega) HC.out (by intro u hu;simp at hu;rcases hu with rfl | rfl<;>rfl) (by unfold maxLen;omega) (by omega) HZ.out ?_ rfl)
    intro v' w' o2 gr hat;obtain ⟨p8,c8,rfl⟩:=own_slice o2;have O3:Hid (w'.ownsRow w.heap.size 236 2 (.slice p8 (n+1) c8) (n+1) (xs++[.int .i64 (s:Int),.int .i64 ((T:Int) - 1)])):=o2;have X3:Hid (StL (xs++[.int .i64 (s:Int),.int .i64 ((T:Int) - 1)])):=HX.out.snoc;have K3:Hid (Kept w w'):=K1.out.grown gr HZ.out HJ.out;clear o2 gr hat O1 K1 HC HZ HJ HX;by_cases q:T=0
    ·subst q
     go_wp2;exact ⟨⟨n+1,a+1,_,by omega,by omega,by go_num,O3.out,X3.out,K3.out⟩,by simp [intOf];omega⟩
    ·have q':(1:Int)<=(T:Int):=by omega
     go_wp2;exact ⟨⟨n+1,a+T,_,by omega,by omega,val_int (by omega),O3.out,X3.out,K3.out⟩,by simp [intOf];omega⟩
  ·have c1':¬ (a:Int)<(l.length:Int):=by omega
   go_wp2;go_ret;exact ⟨⟨_,n,rfl,by omega,HX.out.at HO.out,fun g hg=>HO.out.lt g hg⟩,HK.out⟩
