import Derived.Test.YthniahejjamhgaaGreatDoorRoHA1
import Derived.Deep.CutBlock
set_option maxRecDepth 100000
set_option maxHeartbeats 6400000
namespace Go.Proofs.YthniahejjamhgaaGreatDoor
open Go.RowKit
set_option linter.unusedSimpArgs false
set_option linter.unusedVariables false
theorem LfAt.often {W:World} {p:Option Addr} {n c m:Nat} (h:LfAt W (.slice p n c) n m) {i:Nat} (hi:i<n):∃ (g s:Nat) (z:Int),p=some ⟨g,0,none⟩/\s<m/\W.cell? ⟨g,i*2,none⟩=some (.int .i64 (s:Int))/\W.cell? ⟨g,i*2+1,none⟩=some (.int .i64 z):=by
 obtain ⟨g,c',s,z,e,hs,y0,y1⟩:=h.cells i hi
 injection e with e1 e2 e3
 exact ⟨g,s,z,e1,hs,y0,y1⟩
theorem ItAt.often {W:World} {p:Option Addr} {n c:Nat} (h:ItAt W (.slice p n c) n) {i:Nat} (hi:i<n):∃ (g:Nat) (b:Bool) (z:Int),p=some ⟨g,0,none⟩/\W.cell? ⟨g,i*2,none⟩=some (.bool b)/\W.cell? ⟨g,i*2+1,none⟩=some (.int .i64 z):=by
 obtain ⟨g,c',b,z,e,y0,y1⟩:=h.cells i hi
 injection e with e1 e2 e3
 exact ⟨g,b,z,e1,y0,y1⟩
theorem OwnIt.len {W:World} {N:Nat} {v:Value} {n n':Nat} (h:OwnIt W N v n) (e:n=n'):OwnIt W N v n':=e ▸ h
def NxP (w:World) (m:Nat) (r:Ending) (w':World):Prop:=∃ lv n,r = .returned lv/\n<=m/\OwnIt w' w.heap.size lv n
theorem nextrow_any (lv rv:Value) (n m k:Nat) (w:World) (hl:LfAt w lv n k) (hr:ItAt w rv m) (hn:n<=1024) (hm:m<=4096) :
  Calls Tryz.prog 170 #[lv,rv] w fun r w'=>NxP w (n+m / 2) r w'/\Kept w w':=by
 obtain ⟨p,c,rfl⟩:=hl.form;obtain ⟨p2,c2,rfl⟩:=hr.form;have HL:Hid (∀ W,Kept w W->LfAt W (.slice p n c) n k):=fun W k=>hl.kept k
 have HR:Hid (∀ W,Kept w W->ItAt W (.slice p2 m c2) m):=fun W k=>hr.kept k
 clear hl hr;go_enter Tryz.func170,Tryz.ntmps170;go_wp2;go_loopw [5,6,7] (fun v5 v6 v7 W=>∃ i e:Nat,i<=n/\2*e<=m/\v6 = .int .i64 ((2*e+1:Nat):Int)/\v7 = .int .i64 (i:Int)/\OwnIt W w.heap.size v5 (i+e)/\Kept w W) (fun _ _ v7 _=>n - (intOf v7).toNat)
 case atStart=>exact ⟨0,0,by omega,by omega,rfl,rfl,⟨[],World.ownsRow_nil _ _ _ _,ItL.nil⟩,Kept.refl _⟩
 case round=>
  obtain ⟨i,e,hi,he,rfl,rfl,ho,hK⟩:=hrel;obtain ⟨p5,c5,rfl⟩:=ho.slice;have HO:Hid (OwnIt wr w.heap.size (.slice p5 (i+e) c5) (i+e)):=ho;have HK:Hid (Kept w wr):=hK;clear ho;by_cases c1:i<n
  ·have c1':(i:Int)<(n:Int):=by omega
   clear hK;go_wp2_with fail;go_loopw [5,6] (fun v5 v6 W=>∃ e:Nat,2*e<=m/\v6 = .int .i64 ((2*e+1:Nat):Int)/\OwnIt W w.heap.size v5 (i+e)/\Kept w W) (fun _ v6 _=>m - (intOf v6).toNat)
   case atStart=>exact ⟨e,he,rfl,HO.out,HK.out⟩
   case round=>
    clear HO HK he;obtain ⟨e,he,rfl,ho,hK⟩:=hrel;obtain ⟨p5,c5,rfl⟩:=ho.slice;have HO:Hid (OwnIt wr w.heap.size (.slice p5 (i+e) c5) (i+e)):=ho;have HK:Hid (Kept w wr):=hK;obtain ⟨g,s,z3,rfl,hs,y0,y1⟩:=(HL.out wr hK).often c1;clear ho;have i0:(0:Int)<=(i:Int):=by omega
    obtain ⟨E1,hE1⟩:∃ E1,E1=2*e+1:=⟨_,rfl⟩;obtain ⟨E0,hE0⟩:∃ E0,E0=2*e:=⟨_,rfl⟩;rw[<- hE1];have HE1:Hid (E1=2*e+1):=hE1;have HE0:Hid (E0=2*e):=hE0;obtain ⟨NE,hNE⟩:∃ NE,NE=i+e:=⟨_,rfl⟩;rw[<- hNE] at HO ⊢;have HNE:Hid (NE=i+e):=hNE;have hNb:NE+1<=100000000:=by omega
    have HM:Hid (2*e<=m):=he;have HJ:Hid (∀ j,(Value.slice p5 NE c5).ownBlock=some j->w.heap.size<=j):=fun j hj=>by obtain ⟨xs,o,_⟩:=HO.out;exact (o.lt j hj).1
    by_cases c3:E1<m
    ·have c3':(E1:Int)<(m:Int):=by omega
     obtain ⟨g2,b1,z1,rfl,x0,x1⟩:=(HR.out wr hK).often (i:=E0) (by omega);obtain ⟨g3,b2,z2,q,x2,x3⟩:=(HR.out wr hK).often (i:=E1) (by omega)
     injection q with q
     injection q with q1 _ _
     subst q1;have j1:(E1:Int) - 1=(E0:Int):=by omega
     have j2:(E0:Int)<(m:Int):=by omega
     have j3:(0:Int)<=(E0:Int):=by omega
     have j4:(0:Int)<=(E1:Int):=by omega
     clear hK y0 x0 x2 hE0 hE1 hNE he;by_cases D:wrap64 (z1+z2)<z3
     ·have D':decide (wrap64 (z1+z2)<z3)=true:=decide_eq_true D
      go_wp2_with fail;go_quiet (fail);replace HO:Hid (OwnIt (wr.drewN nq) w.heap.size (.slice p5 NE c5) NE):=HO.out.kept ((Kept.refl _).drewN nq);replace HK:Hid (Kept w (wr.drewN nq)):=HK.out.drewN nq;replace x1:(wr.drewN nq).cell? ⟨g2,E0*2+1,none⟩=some (.int .i64 z1):=x1;replace x3:(wr.drewN nq).cell? ⟨g2,E1*2+1,none⟩=some (.int .i64 z2):=x3;replace y1:(wr.drewN nq).cell? ⟨g,i*2+1,none⟩=some (.int .i64 z3):=y1;generalize wr.drewN nq=wd at *;generalize wrap64 (z1+z2)=ZZ at *;have HC0:Hid (∀ (E:TypeId) (Z:Int),(wd.alloc (Obj.cells #[.bool false,.int .i64 Z] E)).cell? ⟨wd.heap.size,0,none⟩=some (.bool false)):=fun E Z=>(World.cell?_alloc_at _ _ _ _ rfl).trans rfl
      have HC1:Hid (∀ (E:TypeId) (Z:Int),(wd.alloc (Obj.cells #[.bool false,.int .i64 Z] E)).cell? ⟨wd.heap.size,1,none⟩=some (.int .i64 Z)):=fun E Z=>(World.cell?_alloc_at _ _ _ _ rfl).trans rfl
      have wE0:IntKind.i64.wrap (E0:Int)=(E0:Int):=by rw[IntKind.wrap_i64];omega
      have hws:=HK.out.size;go_upto_region 7 with fail
      go_region_law ((refine stepIt (by rfl) _ _ (by rfl) w.heap.size (.slice p5 NE c5) NE (by rfl) (by exact HO.out.kept (Kept.drewN ((Below.refl _ _).alloc (Nat.le_refl _) _) 1)) wd.heap.size 1 false _ (by rfl) (by exact HC0.out _ _) (by exact HC1.out _ _) hNb (by simp;omega) ?_;intro g' cap w20 ho2 hf2))
      all_goals
       have KF:Hid (Kept w w20):=Fr.to_kept (HK.out.trans (Kept.drewN ((Below.refl _ _).alloc (Nat.le_refl _) _) 1)) hf2 (fun q hq e2=>by have:=HJ.out q e2;omega);have OF:Hid (OwnIt w20 w.heap.size (.slice (some ⟨g',0,none⟩) (NE+1) cap) (NE+1)):=ho2;clear hf2 ho2 HC0 HC1 HO HK HL HR;go_wp2;have q9:=HNE.out;have q1:=HE1.out;exact ⟨⟨e+1,by omega,by go_num,OF.out.len (by omega),KF.out⟩,by simp [intOf];omega⟩
     ·have D':decide (wrap64 (z1+z2)<z3)=false:=decide_eq_false D
      go_wp2_with fail;go_quiet (fail);replace HO:Hid (OwnIt (wr.drewN nq) w.heap.size (.slice p5 NE c5) NE):=HO.out.kept ((Kept.refl _).drewN nq);replace HK:Hid (Kept w (wr.drewN nq)):=HK.out.drewN nq;replace y1:(wr.drewN nq).cell? ⟨g,i*2+1,none⟩=some (.int .i64 z3):=y1;generalize wr.drewN nq=wd at *;have O1:Hid (OwnIt (wd.alloc (Obj.cells #[.bool true,.int .i64 z3] 234)) w.heap.size (.slice p5 NE c5) NE):=HO.out.kept ((Below.refl _ _).alloc (Nat.le_refl _) _);have K1:Hid (Kept w (wd.alloc (Obj.cells #[.bool true,.int .i64 z3] 234))):=HK.out.trans ((Below.refl _ _).alloc (Nat.le_refl _) _);have HC:Hid (∀ (j:Nat) (u:Value),[Value.bool true,.int .i64 z3][j]? = some u->(wd.alloc (Obj.cells #[.bool true,.int .i64 z3] 234)).cell? (Addr.add ⟨wd.heap.size,0,none⟩ j)=some u):=by
       intro j u hj;have e:(Addr.add ⟨wd.heap.size,0,none⟩ j)=⟨wd.heap.size,j,none⟩:=by unfold Addr.add;split<;>simp_all
       rw[e];refine (World.cell?_alloc_at _ _ _ _ rfl).trans ?_
       simpa using hj
      have HZ:Hid (w.heap.size<=(wd.alloc (Obj.cells #[.bool true,.int .i64 z3] 234)).heap.size):=K1.out.size;obtain ⟨xs,o0,hx0⟩:=O1.out;have HX:Hid (ItL xs):=hx0;have HW:Hid ((wd.alloc (Obj.cells #[.bool true,.int .i64 z3] 234)).ownsRow w.heap.size 234 2 (.slice p5 NE c5) NE xs):=o0;clear o0 hx0 O1;go_wp2_with (at_builtin;refine append_own _ 217 217 234 2 16 (.agg #[.bool false,.int .i64 0]) Tryz.underlying217 infoIt rfl (by omega) rfl _ _ rfl w.heap.size (.slice p5 NE c5) NE xs rfl HW.out ⟨wd.heap.size,0,none⟩ 1 1 [.bool true,.int .i64 z3] rfl rfl (by omega) HC.out (by intro u hu;simp at hu;rcases hu with rfl | rfl<;>rfl) (by unfold maxLen;omega) (by omega) HZ.out ?_ rfl)
      intro v' w' o2 gr hat;obtain ⟨p8,c8,rfl⟩:=own_slice o2;have O3:Hid (OwnIt w' w.heap.size (.slice p8 (NE+1) c8) (NE+1)):=⟨_,o2,HX.out.snoc HW.out.1⟩;have K3:Hid (Kept w w'):=K1.out.grown gr HZ.out HJ.out;clear o2 gr hat HX HW HC K1 HO HK;go_wp2;have q9:=HNE.out;exact ⟨⟨i+1,e,by omega,HM.out,val_int (by rw[HE1.out]),by go_num,O3.out.len (by omega),K3.out⟩,by simp [intOf];omega⟩
    ·have c3':¬ (E1:Int)<(m:Int):=by omega
     have c3'':decide ((E1:Int)<(m:Int))=false:=decide_eq_false c3';clear hE0 hE1 hNE he hK y0;go_wp2_with fail;go_quiet (fail);replace HO:Hid (OwnIt (wr.drewN nq) w.heap.size (.slice p5 NE c5) NE):=HO.out.kept ((Kept.refl _).drewN nq);replace HK:Hid (Kept w (wr.drewN nq)):=HK.out.drewN nq;replace y1:(wr.drewN nq).cell? ⟨g,i*2+1,none⟩=some (.int .i64 z3):=y1;generalize wr.drewN nq=wd at *;have O1:Hid (OwnIt (wd.alloc (Obj.cells #[.bool true,.int .i64 z3] 234)) w.heap.size (.slice p5 NE c5) NE):=HO.out.kept ((Below.refl _ _).alloc (Nat.le_refl _) _);have K1:Hid (Kept w (wd.alloc (Obj.cells #[.bool true,.int .i64 z3] 234))):=HK.out.trans ((Below.refl _ _).alloc (Nat.le_refl _) _);have HC:Hid (∀ (j:Nat) (u:Value),[Value.bool true,.int .i64 z3][j]? = some u->(wd.alloc (Obj.cells #[.bool true,.int .i64 z3] 234)).cell? (Addr.add ⟨wd.heap.size,0,none⟩ j)=some u):=by
      intro j u hj;have e:(Addr.add ⟨wd.heap.size,0,none⟩ j)=⟨wd.heap.size,j,none⟩:=by unfold Addr.add;split<;>simp_all
      rw[e];refine (World.cell?_alloc_at _ _ _ _ rfl).trans ?_
      simpa using hj
     have HZ:Hid (w.heap.size<=(wd.alloc (Obj.cells #[.bool true,.int .i64 z3] 234)).heap.size):=K1.out.size;obtain ⟨xs,o0,hx0⟩:=O1.out;have HX:Hid (ItL xs):=hx0;have HW:Hid ((wd.alloc (Obj.cells #[.bool true,.int .i64 z3] 234)).ownsRow w.heap.size 234 2 (.slice p5 NE c5) NE xs):=o0;clear o0 hx0 O1;go_wp2_with (at_builtin;refine append_own _ 217 217 234 2 16 (.agg #[.bool false,.int .i64 0]) Tryz.underlying217 infoIt rfl (by omega) rfl _ _ rfl w.heap.size (.slice p5 NE c5) NE xs rfl HW.out ⟨wd.heap.size,0,none⟩ 1 1 [.bool true,.int .i64 z3] rfl rfl (by omega) HC.out (by intro u hu;simp at hu;rcases hu with rfl | rfl<;>rfl) (by unfold maxLen;omega) (by omega) HZ.out ?_ rfl)
     intro v' w' o2 gr hat;obtain ⟨p8,c8,rfl⟩:=own_slice o2;have O3:Hid (OwnIt w' w.heap.size (.slice p8 (NE+1) c8) (NE+1)):=⟨_,o2,HX.out.snoc HW.out.1⟩;have K3:Hid (Kept w w'):=K1.out.grown gr HZ.out HJ.out;clear o2 gr hat HX HW HC K1 HO HK;go_wp2;have q9:=HNE.out;exact ⟨⟨i+1,e,by omega,HM.out,val_int (by rw[HE1.out]),by go_num,O3.out.len (by omega),K3.out⟩,by simp [intOf];omega⟩
  ·have c1':¬ (i:Int)<(n:Int):=by omega
   clear HL c1;have c9:i=n:=by omega
   subst c9;go_wp2;go_loopw [5,6] (fun v5 v6 W=>∃ e:Nat,2*e<=m/\v6 = .int .i64 ((2*e+1:Nat):Int)/\OwnIt W w.heap.size v5 (i+e)/\Kept w W) (fun _ v6 _=>m - (intOf v6).toNat)
   case atStart=>exact ⟨e,he,rfl,HO.out,HK.out⟩
   case round=>
    clear HO HK he hK;obtain ⟨e,he,rfl,ho,hK⟩:=hrel;obtain ⟨p5,c5,rfl⟩:=ho.slice;have HO:Hid (OwnIt wr w.heap.size (.slice p5 (i+e) c5) (i+e)):=ho;have HK:Hid (Kept w wr):=hK;clear ho;obtain ⟨E1,hE1⟩:∃ E1,E1=2*e+1:=⟨_,rfl⟩;obtain ⟨E0,hE0⟩:∃ E0,E0=2*e:=⟨_,rfl⟩;rw[<- hE1];have HE1:Hid (E1=2*e+1):=hE1;have HE0:Hid (E0=2*e):=hE0;obtain ⟨NE,hNE⟩:∃ NE,NE=i+e:=⟨_,rfl⟩;rw[<- hNE] at HO ⊢;have HNE:Hid (NE=i+e):=hNE;have hNb:NE+1<=100000000:=by omega
    have HM:Hid (2*e<=m):=he;have HJ:Hid (∀ j,(Value.slice p5 NE c5).ownBlock=some j->w.heap.size<=j):=fun j hj=>by obtain ⟨xs,o,_⟩:=HO.out;exact (o.lt j hj).1
    by_cases c3:E1<m
    ·have c3':(E1:Int)<(m:Int):=by omega
     obtain ⟨g2,b1,z1,rfl,x0,x1⟩:=(HR.out wr hK).often (i:=E0) (by omega);obtain ⟨g3,b2,z2,q,x2,x3⟩:=(HR.out wr hK).often (i:=E1) (by omega)
     injection q with q
     injection q with q1 _ _
     subst q1;have j1:(E1:Int) - 1=(E0:Int):=by omega
     have j2:(E0:Int)<(m:Int):=by omega
     have j3:(0:Int)<=(E0:Int):=by omega
     have j4:(0:Int)<=(E1:Int):=by omega
     have wE0:IntKind.i64.wrap (E0:Int)=(E0:Int):=by rw[IntKind.wrap_i64];omega
     have HC0:Hid (∀ (E:TypeId) (Z:Int),(wr.alloc (Obj.cells #[.bool false,.int .i64 Z] E)).cell? ⟨wr.heap.size,0,none⟩=some (.bool false)):=fun E Z=>(World.cell?_alloc_at _ _ _ _ rfl).trans rfl
     have HC1:Hid (∀ (E:TypeId) (Z:Int),(wr.alloc (Obj.cells #[.bool false,.int .i64 Z] E)).cell? ⟨wr.heap.size,1,none⟩=some (.int .i64 Z)):=fun E Z=>(World.cell?_alloc_at _ _ _ _ rfl).trans rfl
     have hws:=HK.out.size;clear hK x0 x2 hE0 hE1 hNE he;go_upto_region 11 with fail
     go_region_law ((refine stepIt (by rfl) _ _ (by rfl) w.heap.size (.slice p5 NE c5) NE (by rfl) (by exact HO.out.kept (Kept.drewN ((Below.refl _ _).alloc (Nat.le_refl _) _) 1)) wr.heap.size 1 false _ (by rfl) (by exact HC0.out _ _) (by exact HC1.out _ _) hNb (by simp;omega) ?_;intro g' cap w20 ho2 hf2))
     all_goals
      have KF:Hid (Kept w w20):=Fr.to_kept (HK.out.trans (Kept.drewN ((Below.refl _ _).alloc (Nat.le_refl _) _) 1)) hf2 (fun q hq e2=>by have:=HJ.out q e2;omega);have OF:Hid (OwnIt w20 w.heap.size (.slice (some ⟨g',0,none⟩) (NE+1) cap) (NE+1)):=ho2;clear hf2 ho2 HC0 HC1 HO HK HR;go_wp2;have q9:=HNE.out;have q1:=HE1.out;exact ⟨⟨e+1,by omega,by go_num,OF.out.len (by omega),KF.out⟩,by simp [intOf];omega⟩
    ·have c3':¬ (E1:Int)<(m:Int):=by omega
     clear hE0 hE1 hNE he hK;go_wp2;go_ret;have q1:=HNE.out;have q2:=HM.out;exact ⟨⟨_,NE,rfl,by omega,HO.out⟩,HK.out⟩
theorem infoRw:(Tryz.prog.info? 217).map (fun i=>(i.zero,i.size,i.bytes))=some (some (.slice none 0 0),1,24):=by kernel_rfl
def RwsOk (W:World) (N R:Nat) (v u:Value):Prop:=∃ n,n<=R/\ItAt W u n/\∀ g,u.ownBlock=some g->N<=g/\g<W.heap.size/\v.ownBlock≠some g
def RwL (W:World) (N R:Nat) (v:Value) (xs:List Value):Prop:=∀ (k:Nat) (u:Value),xs[k]? = some u->RwsOk W N R v u
theorem RwL.nil (W:World) (N R:Nat) (v:Value):RwL W N R v []:=fun k u h=>by simp at h
theorem RwsOk.go {S:Nat->Prop} {W W':World} {N R:Nat} {v v' u:Value} (h:RwsOk W N R v u) (k:Fr S W W') (hS:∀ g,S g->g<W.heap.size->g<N\/v.ownBlock=some g) (hv:∀ g,v'.ownBlock=some g->v.ownBlock=some g\/W.heap.size<=g):RwsOk W' N R v' u:=by
 obtain ⟨n,hn,hi,hg⟩:=h;refine ⟨n,hn,hi.frS k (fun g e s => ?_),fun g e=>⟨(hg g e).1,Nat.lt_of_lt_of_le (hg g e).2.1 k.size,fun q => ?_⟩⟩
 ·obtain ⟨a,b,c⟩:=hg g e
  rcases hS g s b with q | q
  ·omega
  ·exact c q
 ·obtain ⟨a,b,c⟩:=hg g e
  rcases hv g q with q | q
  ·exact c q
  ·omega
theorem RwL.go {S:Nat->Prop} {W W':World} {N R:Nat} {v v':Value} {xs:List Value} (h:RwL W N R v xs) (k:Fr S W W') (hS:∀ g,S g->g<W.heap.size->g<N\/v.ownBlock=some g) (hv:∀ g,v'.ownBlock=some g->v.ownBlock=some g\/W.heap.size<=g):RwL W' N R v' xs:=
 fun j u hj=>(h j u hj).go k hS hv
theorem RwL.snoc {W:World} {N R:Nat} {v u:Value} {xs:List Value} (h:RwL W N R v xs) (hu:RwsOk W N R v u):RwL W N R v (xs++[u]):=by
 intro k y hk;by_cases c:k<xs.length
 ·rw[List.getElem?_append_left c] at hk;exact h k y hk
 ·rw[List.getElem?_append_right (by omega)] at hk
  match hq:k - xs.length,hk with
  | 0,hk=>simp at hk;subst hk;exact hu
  | j+1,hk=>simp at hk
structure RwsAt (W:World) (N:Nat) (v:Value) (q R:Nat):Prop where
 form:∃ p c,v = .slice p q c
 cells:∀ i,i<q->∃ (g c:Nat) (u:Value) (n:Nat),v = .slice (some ⟨g,0,none⟩) q c/\N<=g/\n<=R/\W.cell? ⟨g,i,none⟩=some u/\ItAt W u n/\∀ g',u.ownBlock=some g'->N<=g'
theorem RwsAt.frS {S:Nat->Prop} {w W:World} {N:Nat} {v:Value} {q R:Nat} (h:RwsAt w N v q R) (k:Fr S w W) (hS:∀ g,S g->g<N):RwsAt W N v q R:=by
 refine ⟨h.form,fun i hi => ?_⟩;obtain ⟨g,c,u,n,e,hN,hn,hc,hI,hg⟩:=h.cells i hi;have hlt:=World.block_lt_of_cell? _ _ hc;exact ⟨g,c,u,n,e,hN,hn,(k.cell hlt (fun s=>by have:=hS g s;omega)).trans hc,hI.frS k (fun g' e' s=>by have:=hS g' s;have:=hg g' e';omega),hg⟩
theorem RwL.at {W:World} {N R:Nat} {v:Value} {q:Nat} {xs:List Value} (h:RwL W N R v xs) (o:W.ownsRow N 217 1 v q xs):RwsAt W N v q R:=by
 obtain ⟨p,c,hv⟩:=own_slice o;refine ⟨⟨p,c,hv⟩,fun i hi => ?_⟩;have hl:=o.1;rcases o.2 with ⟨_,h0⟩ | ⟨g,cap,cur,hv2,r⟩
 ·omega
 ·have ad:∀ j,(Addr.add ⟨g,0,none⟩ j)=⟨g,j,none⟩:=fun j=>by unfold Addr.add;split<;>simp_all
  have a0:i<xs.length:=by omega
  have hc:W.cell? ⟨g,i,none⟩=some xs[i]:=by
   have:=o.cells (by rw[hv2];rfl) i xs[i] (List.getElem?_eq_getElem a0)
   rw[ad] at this;exact this
  obtain ⟨n,hn,hI,hg⟩:=h i _ (List.getElem?_eq_getElem a0);exact ⟨g,cap,xs[i],n,hv2,(o.lt g (by rw[hv2];rfl)).1,hn,hc,hI,fun g' e=>(hg g' e).1⟩
def RwsP (w:World) (R:Nat) (r:Ending) (w':World):Prop:=∃ lv n,r = .returned lv/\n<=15/\RwsAt w' w.heap.size lv n R
theorem rowsof_any (lv:Value) (n k:Nat) (M:Int) (w:World) (hl:LfAt w lv n k) (hn:n<=1024) :
  Calls Tryz.prog 155 #[lv,.int .i64 M] w fun r w'=>RwsP w (2*n) r w'/\Kept w w':=by
 have HL:Hid (∀ W,Kept w W->LfAt W lv n k):=fun W k=>hl.kept k
 clear hl;go_enter Tryz.func155,Tryz.ntmps155;go_wp2;go_loopw [5,6,7] (fun v5 v6 v7 W=>∃ (i:Nat) (xs:List Value),i<=15/\v7 = .int .i64 (i:Int)/\RwsOk W w.heap.size (2*n) v5 v6/\W.ownsRow w.heap.size 217 1 v5 i xs/\RwL W w.heap.size (2*n) v5 xs/\Kept w W) (fun _ _ v7 _=>15 - (intOf v7).toNat)
 case atStart=>exact ⟨0,[],by omega,rfl,⟨0,by omega,⟨⟨none,0,rfl⟩,fun i hi=>by omega⟩,fun g e=>by cases e⟩,World.ownsRow_nil _ _ _ _,RwL.nil _ _ _ _,Kept.refl _⟩
 case round=>
  obtain ⟨i,xs,hi,rfl,hr,ho,hx,hK⟩:=hrel;obtain ⟨p5,c5,rfl⟩:=own_slice ho;obtain ⟨m,hm,hI,hg⟩:=hr;obtain ⟨p6,c6,rfl⟩:=hI.form;have HO:Hid (wr.ownsRow w.heap.size 217 1 (.slice p5 i c5) i xs):=ho;have HX:Hid (RwL wr w.heap.size (2*n) (.slice p5 i c5) xs):=hx;have HK:Hid (Kept w wr):=hK;have F1:Hid (Calls Tryz.prog 170 #[lv,.slice p6 m c6] wr fun r w'=>NxP wr (n+m / 2) r w'/\Kept wr w'):=nextrow_any lv (.slice p6 m c6) n m k wr (HL.out wr hK) hI hn (by omega);clear ho hx hK hI hg HL;by_cases c1:(i:Int)<M
  ·by_cases c2:i<15
   ·have c2':(i:Int)<15:=by omega
    go_wp2_with fail;refine F1.out.mono ?_;rintro r w1 ⟨⟨rv,q,rfl,hq,hO1⟩,hk1⟩;obtain ⟨p7,c7,rfl⟩:=hO1.slice;clear F1;have HO1:Hid (OwnIt w1 wr.heap.size (.slice p7 q c7) q):=hO1;have Hk1:Hid (Kept wr w1):=hk1;have KA:Kept w1 (w1.alloc (Obj.cells #[.slice p7 q c7] 217)):=(Below.refl _ _).alloc (Nat.le_refl _) _;have KB:Hid (Kept wr (w1.alloc (Obj.cells #[.slice p7 q c7] 217))):=hk1.trans KA;have O2:Hid ((w1.alloc (Obj.cells #[.slice p7 q c7] 217)).ownsRow w.heap.size 217 1 (.slice p5 i c5) i xs):=own_kept HO.out KB.out;have HC:Hid (∀ (j:Nat) (u:Value),[Value.slice p7 q c7][j]? = some u->(w1.alloc (Obj.cells #[.slice p7 q c7] 217)).cell? (Addr.add ⟨w1.heap.size,0,none⟩ j)=some u):=by
     intro j u hj;have e:(Addr.add ⟨w1.heap.size,0,none⟩ j)=⟨w1.heap.size,j,none⟩:=by unfold Addr.add;split<;>simp_all
     rw[e];refine (World.cell?_alloc_at _ _ _ _ rfl).trans ?_
     simpa using hj
    have HZ:Hid (w.heap.size<=(w1.alloc (Obj.cells #[.slice p7 q c7] 217)).heap.size):=(HK.out.trans KB.out).size;have R1:Hid (RwsOk (w1.alloc (Obj.cells #[.slice p7 q c7] 217)) w.heap.size (2*n) (.slice p5 i c5) (.slice p7 q c7)):=by
     refine ⟨q,by omega,hO1.at.kept KA,fun g e => ?_⟩;obtain ⟨ys,oy,_⟩:=hO1;have l1:=(oy.lt g e).1;have l2:=(oy.lt g e).2;have l3:=HK.out.size;have l4:=KA.size;exact ⟨by omega,by omega,fun e2=>by have:=(HO.out.lt g e2).2;omega⟩
    have X1:Hid (RwL (w1.alloc (Obj.cells #[.slice p7 q c7] 217)) w.heap.size (2*n) (.slice p5 i c5) xs):=HX.out.go (S:=fun _=>False) (Fr.of_kept KB.out) (fun _ f _=>f.elim) (fun g e=>Or.inl e);have HJ:Hid (∀ j,(Value.slice p5 i c5).ownBlock=some j->w.heap.size<=j):=fun j hj=>(HO.out.lt j hj).1
    have K5:Hid (Kept w (w1.alloc (Obj.cells #[.slice p7 q c7] 217))):=HK.out.trans KB.out;clear hk1 hO1 KA KB HO1 Hk1 HO HX HK;go_wp2_with (at_builtin;refine append_own _ 214 214 217 1 24 (.slice none 0 0) Tryz.underlying214 infoRw rfl (by omega) rfl _ _ rfl w.heap.size (.slice p5 i c5) i xs rfl O2.out ⟨w1.heap.size,0,none⟩ 1 1 [.slice p7 q c7] rfl rfl (by omega) HC.out (by intro u hu;simp at hu;rcases hu with rfl;rfl) (by unfold maxLen;omega) (by omega) HZ.out ?_ rfl)
    intro v' w' o2 gr hat;have FG:Fr (fun g=>(Value.slice p5 i c5).ownBlock=some g) (w1.alloc (Obj.cells #[.slice p7 q c7] 217)) w':=(Fr.refl _ _).grown gr (fun k e=>Or.inl e);obtain ⟨p8,c8,rfl⟩:=own_slice o2;have HA:Hid (∀ g,(Value.slice p8 (i+1) c8).ownBlock=some g->(Value.slice p5 i c5).ownBlock=some g\/(w1.alloc (Obj.cells #[.slice p7 q c7] 217)).heap.size<=g):=fun g e=>by have:=hat g e;simpa using this
    have O3:Hid (w'.ownsRow w.heap.size 217 1 (.slice p8 (i+1) c8) (i+1) (xs++[.slice p7 q c7])):=o2;have R3:Hid (RwsOk w' w.heap.size (2*n) (.slice p8 (i+1) c8) (.slice p7 q c7)):=R1.out.go FG (fun g s _=>Or.inr s) HA.out;have X3:Hid (RwL w' w.heap.size (2*n) (.slice p8 (i+1) c8) (xs++[.slice p7 q c7])):=(X1.out.go FG (fun g s _=>Or.inr s) HA.out).snoc R3.out;have K3:Hid (Kept w w'):=K5.out.grown gr HZ.out HJ.out;clear o2 gr hat FG O2 HC HZ R1 X1 HJ K5;go_wp2;exact ⟨⟨i+1,_,by omega,by go_num,R3.out,O3.out,X3.out,K3.out⟩,by simp [intOf];omega⟩
   ·have c2':¬ (i:Int)<15:=by omega
    clear F1;go_wp2;go_ret;exact ⟨⟨_,i,rfl,by omega,HX.out.at HO.out⟩,HK.out⟩
  ·clear F1
   go_wp2;go_ret;exact ⟨⟨_,i,rfl,by omega,HX.out.at HO.out⟩,HK.out⟩
