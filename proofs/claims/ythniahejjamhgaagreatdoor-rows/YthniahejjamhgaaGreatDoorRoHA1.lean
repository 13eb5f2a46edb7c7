import Derived.Test.YthniahejjamhgaaGreatDoorRoGX
set_option maxRecDepth 100000
set_option maxHeartbeats 6400000
namespace Go.Proofs.YthniahejjamhgaaGreatDoor
open Go.RowKit
set_option linter.unusedSimpArgs false
set_option linter.unusedVariables false
structure ItAt (W:World) (v:Value) (n:Nat):Prop where
 form:∃ p c,v = .slice p n c
 cells:∀ i,i<n->∃ (g c:Nat) (b:Bool) (z:Int),v = .slice (some ⟨g,0,none⟩) n c/\W.cell? ⟨g,i*2,none⟩=some (.bool b)/\W.cell? ⟨g,i*2+1,none⟩=some (.int .i64 z)
theorem ItAt.frS {S:Nat->Prop} {w W:World} {v:Value} {n:Nat} (h:ItAt w v n) (k:Fr S w W) (hS:∀ g,v.ownBlock=some g->¬ S g):ItAt W v n:=by
 refine ⟨h.form,fun i hi => ?_⟩;obtain ⟨g,c,b,z,e,c0,c1⟩:=h.cells i hi;have hg:¬ S g:=hS g (by rw[e];rfl);have hlt:=World.block_lt_of_cell? _ _ c0;exact ⟨g,c,b,z,e,(k.cell hlt hg).trans c0,(k.cell hlt hg).trans c1⟩
theorem ItAt.kept {w W:World} {v:Value} {n:Nat} (h:ItAt w v n) (k:Kept w W):ItAt W v n:=h.frS (S:=fun _=>False) (Fr.of_kept k) (fun _ _ f=>f)
structure LfAt (W:World) (v:Value) (n m:Nat):Prop where
 form:∃ p c,v = .slice p n c
 cells:∀ i,i<n->∃ (g c:Nat) (s:Nat) (z:Int),v = .slice (some ⟨g,0,none⟩) n c/\s<m/\W.cell? ⟨g,i*2,none⟩=some (.int .i64 (s:Int))/\W.cell? ⟨g,i*2+1,none⟩=some (.int .i64 z)
theorem LfAt.frS {S:Nat->Prop} {w W:World} {v:Value} {n m:Nat} (h:LfAt w v n m) (k:Fr S w W) (hS:∀ g,v.ownBlock=some g->¬ S g):LfAt W v n m:=by
 refine ⟨h.form,fun i hi => ?_⟩;obtain ⟨g,c,s,z,e,hs,c0,c1⟩:=h.cells i hi;have hg:¬ S g:=hS g (by rw[e];rfl);have hlt:=World.block_lt_of_cell? _ _ c0;exact ⟨g,c,s,z,e,hs,(k.cell hlt hg).trans c0,(k.cell hlt hg).trans c1⟩
theorem LfAt.kept {w W:World} {v:Value} {n m:Nat} (h:LfAt w v n m) (k:Kept w W):LfAt W v n m:=h.frS (S:=fun _=>False) (Fr.of_kept k) (fun _ _ f=>f)
def LvP (F:Int) (r:Ending):Prop:=∃ n:Nat,(n:Int)<=max F 0/\r = .returned (.int .i64 (n:Int))
theorem leavesof_any (v:Value) (n:Nat) (F:Int) (w:World) (h:ItAt w v n) (hn:n<=1048576) :
  Calls Tryz.prog 156 #[v,.int .i64 F] w fun r w'=>LvP F r/\Kept w w':=by
 obtain ⟨p,c,rfl⟩:=h.form;have HI:Hid (∀ W,Kept w W->ItAt W (.slice p n c) n):=fun W k=>h.kept k
 clear h;go_enter Tryz.func156,Tryz.ntmps156;go_wp2;go_loopw [5,6] (fun v5 v6 W=>∃ k i:Nat,i<=n/\k<=i/\((i:Int)<=max F 0)/\v5 = .int .i64 (k:Int)/\v6 = .int .i64 (i:Int)/\Kept w W) (fun _ v6 _=>n - (intOf v6).toNat)
 case atStart=>exact ⟨0,0,by omega,by omega,by omega,rfl,rfl,Kept.refl _⟩
 case round=>
  obtain ⟨k,i,hi,hk,hF,rfl,rfl,hK⟩:=hrel;have HK:Hid (Kept w wr):=hK;clear hK;by_cases c1:(i:Int)<F
  ·by_cases c2:i<n
   ·have c2':(i:Int)<(n:Int):=by omega
    obtain ⟨g,c',b,z,e,x0,x1⟩:=(HI.out wr HK.out).cells i c2
    injection e with e1 e2 e3
    subst e1;subst e3;clear e2;cases b
    ·go_wp2
     exact ⟨⟨k,i+1,by omega,by omega,by omega,rfl,by go_num,HK.out⟩,by simp [intOf];omega⟩
    ·go_wp2
     exact ⟨⟨k+1,i+1,by omega,by omega,by omega,by go_num,by go_num,HK.out⟩,by simp [intOf];omega⟩
   ·have c2':¬ (i:Int)<(n:Int):=by omega
    go_wp2;go_ret;exact ⟨⟨k,by omega,rfl⟩,HK.out⟩
  ·go_wp2
   go_ret;exact ⟨⟨k,by omega,rfl⟩,HK.out⟩
theorem infoLf:(Tryz.prog.info? 213).map (fun i=>(i.zero,i.size,i.bytes))=some (some (.agg #[.int .i64 0,.int .i64 0]),2,16):=by kernel_rfl
def Lf (m k:Nat) (u:Value):Prop:=(k % 2=0->∃ s:Nat,s<m/\u = .int .i64 (s:Int))/\(k % 2=1->∃ z:Int,u = .int .i64 z)
def LfL (m:Nat) (xs:List Value):Prop:=∀ k u,xs[k]? = some u->Lf m k u
theorem LfL.nil (m:Nat):LfL m []:=fun k u h=>by simp at h
theorem LfL.snoc {m n s:Nat} {z:Int} {xs:List Value} (h:LfL m xs) (hl:xs.length=n*2) (hs:s<m):LfL m (xs++[.int .i64 (s:Int),.int .i64 z]):=by
 intro k u hk;by_cases c:k<xs.length
 ·rw[List.getElem?_append_left c] at hk;exact h k u hk
 ·rw[List.getElem?_append_right (by omega)] at hk
  have hk2:k - xs.length<2:=by
   have:=(List.getElem?_eq_some_iff.1 hk).1
   simpa using this
  by_cases e:k - xs.length=0
  ·rw[e] at hk
   injection hk with hk
   exact ⟨fun _=>⟨s,hs,hk.symm⟩,fun q=>by omega⟩
  ·have e1:k - xs.length=1:=by omega
   rw[e1] at hk
   injection hk with hk
   exact ⟨fun q=>by omega,fun _=>⟨z,hk.symm⟩⟩
theorem LfL.set {m j:Nat} {u:Value} {xs:List Value} (h:LfL m xs) (hu:Lf m j u):LfL m (xs.set j u):=by
 intro k v hk;by_cases e:j=k
 ·subst e
  have hlt:j<xs.length:=by
   have:=(List.getElem?_eq_some_iff.1 hk).1
   simpa using this
  rw[List.getElem?_set_self hlt] at hk
  injection hk with hk
  rw[<- hk];exact hu
 ·rw[List.getElem?_set_ne e] at hk;exact h k v hk
def OwnLf (W:World) (N:Nat) (v:Value) (n m:Nat):Prop:=∃ xs,W.ownsRow N 213 2 v n xs/\LfL m xs
theorem OwnLf.at {W:World} {N:Nat} {v:Value} {n m:Nat} (h:OwnLf W N v n m):LfAt W v n m:=by
 obtain ⟨xs,o,hx⟩:=h;obtain ⟨p,c,hv⟩:=own_slice o;refine ⟨⟨p,c,hv⟩,fun i hi => ?_⟩;have hl:=o.1;rcases o.2 with ⟨_,h0⟩ | ⟨g,cap,cur,hv2,r⟩
 ·omega
 ·have ad:∀ j,(Addr.add ⟨g,0,none⟩ j)=⟨g,j,none⟩:=fun j=>by unfold Addr.add;split<;>simp_all
  have hc:∀ j (hj:j<xs.length),W.cell? ⟨g,j,none⟩=some xs[j]:=fun j hj=>by
   have:=o.cells (by rw[hv2];rfl) j xs[j] (List.getElem?_eq_getElem hj)
   rw[ad] at this;exact this
  have a0:i*2<xs.length:=by omega
  have a1:i*2+1<xs.length:=by omega
  obtain ⟨s,hs,e0⟩:=(hx _ _ (List.getElem?_eq_getElem a0)).1 (by omega);obtain ⟨z,e1⟩:=(hx _ _ (List.getElem?_eq_getElem a1)).2 (by omega);exact ⟨g,cap,s,z,hv2,hs,by rw[hc _ a0,e0],by rw[hc _ a1,e1]⟩
theorem OwnLf.kept {w W:World} {N:Nat} {v:Value} {n m:Nat} (h:OwnLf w N v n m) (k:Kept w W):OwnLf W N v n m:=by
 obtain ⟨xs,o,hx⟩:=h;exact ⟨xs,own_kept o k,hx⟩
theorem OwnLf.put {W:World} {N g n c m j s:Nat} {z:Int} (h:OwnLf W N (.slice (some ⟨g,0,none⟩) n c) n m) (hs:s<m):OwnLf ((W.setCell ⟨g,j*2,none⟩ (.int .i64 (s:Int))).setCell ⟨g,j*2+1,none⟩ (.int .i64 z)) N (.slice (some ⟨g,0,none⟩) n c) n m:=by
 obtain ⟨xs,o,hx⟩:=h;have o1:=(o.stored (j*2) (.int .i64 (s:Int))).1;have o2:=(o1.stored (j*2+1) (.int .i64 z)).1;exact ⟨_,o2,(hx.set ⟨fun _=>⟨s,hs,rfl⟩,fun q=>by omega⟩).set ⟨fun q=>by omega,fun _=>⟨z,rfl⟩⟩⟩
theorem OwnLf.fz {W:World} {N g n c m:Nat} (h:OwnLf W N (.slice (some ⟨g,0,none⟩) n c) n m) (j:Nat):W.frozen? ⟨g,j,none⟩=false:=by
 obtain ⟨xs,o,_⟩:=h;exact o.frozenAt j
theorem OwnLf.cell {W:World} {N g n c m i:Nat} (h:OwnLf W N (.slice (some ⟨g,0,none⟩) n c) n m) (hi:i<n):∃ (s:Nat) (z:Int),s<m/\W.cell? ⟨g,i*2,none⟩=some (.int .i64 (s:Int))/\W.cell? ⟨g,i*2+1,none⟩=some (.int .i64 z):=by
 obtain ⟨g',c',s,z,e,hs,y0,y1⟩:=h.at.cells i hi;have e2:g=g':=by injection e with e _ _;injection e with e;injection e with e _ _
 rw[<- e2] at y0 y1;exact ⟨s,z,hs,y0,y1⟩
def SrtP (w:World) (m:Nat) (r:Ending) (w':World):Prop:=∃ lv n,r = .returned lv/\n<=m/\OwnLf w' w.heap.size lv n m
theorem sorted_any (ov:Value) (l:List Int) (w:World) (hl:LAt w .i64 ov l) (hn:l.length<=1024) :
  Calls Tryz.prog 154 #[ov] w fun r w'=>SrtP w l.length r w'/\Kept w w':=by
 obtain ⟨p,c,rfl⟩:=hl.form;have HL:Hid (∀ W,Kept w W->LAt W .i64 (.slice p l.length c) l):=fun W k=>hl.kept k
 clear hl;go_enter Tryz.func154,Tryz.ntmps154;go_wp2;go_loopw [3,4,5,6] (fun v3 v4 _ _ W=>∃ n k:Nat,k<=l.length/\n<=k/\v4 = .int .i64 (k:Int)/\OwnLf W w.heap.size v3 n l.length/\Kept w W) (fun _ v4 _ _ _=>l.length - (intOf v4).toNat)
 case atStart=>exact ⟨0,0,by omega,by omega,rfl,⟨[],World.ownsRow_nil _ _ _ _,LfL.nil _⟩,Kept.refl _⟩
 case round=>
  obtain ⟨n,k,hk,hnk,rfl,ho,hK⟩:=hrel;obtain ⟨xs,o,hx⟩:=ho;obtain ⟨p3,c3,rfl⟩:=own_slice o;have HO:Hid (wr.ownsRow w.heap.size 213 2 (.slice p3 n c3) n xs):=o;have HX:Hid (LfL l.length xs):=hx;have HK:Hid (Kept w wr):=hK;clear o hx;by_cases c1:k<l.length
  ·have ki:(k:Int)<(l.length:Int):=by omega
   have kz:(0:Int)<=(k:Int):=by omega
   obtain ⟨g,o',rfl,x0⟩:=(HL.out wr hK).cellAt k c1;clear hK;generalize l.getD k 0=X at *;by_cases c2:X<1
   ·go_wp2
    exact ⟨⟨n,k+1,by omega,by omega,by go_num,⟨xs,HO.out,HX.out⟩,HK.out⟩,by simp [intOf];omega⟩
   ·have O1:Hid ((wr.alloc (Obj.cells #[.int .i64 (k:Int),.int .i64 X] 213)).ownsRow w.heap.size 213 2 (.slice p3 n c3) n xs):=own_kept HO.out ((Below.refl _ _).alloc (Nat.le_refl _) _)
    have K1:Hid (Kept w (wr.alloc (Obj.cells #[.int .i64 (k:Int),.int .i64 X] 213))):=HK.out.trans ((Below.refl _ _).alloc (Nat.le_refl _) _);have HC:Hid (∀ (j:Nat) (u:Value),[Value.int .i64 (k:Int),.int .i64 X][j]? = some u->(wr.alloc (Obj.cells #[.int .i64 (k:Int),.int .i64 X] 213)).cell? (Addr.add ⟨wr.heap.size,0,none⟩ j)=some u):=by
     intro j u hj;have e:(Addr.add ⟨wr.heap.size,0,none⟩ j)=⟨wr.heap.size,j,none⟩:=by unfold Addr.add;split<;>simp_all
     rw[e];refine (World.cell?_alloc_at _ _ _ _ rfl).trans ?_
     simpa using hj
    have HZ:Hid (w.heap.size<=(wr.alloc (Obj.cells #[.int .i64 (k:Int),.int .i64 X] 213)).heap.size):=K1.out.size;have HJ:Hid (∀ j,(Value.slice p3 n c3).ownBlock=some j->w.heap.size<=j):=fun j hj=>(HO.out.lt j hj).1
    go_wp2_with (at_builtin;refine append_own _ 210 210 213 2 16 (.agg #[.int .i64 0,.int .i64 0]) Tryz.underlying210 infoLf rfl (by omega) rfl _ _ rfl w.heap.size (.slice p3 n c3) n xs rfl O1.out ⟨wr.heap.size,0,none⟩ 1 1 [.int .i64 (k:Int),.int .i64 X] rfl rfl (by omega) HC.out (by intro u hu;simp at hu;rcases hu with rfl | rfl<;>rfl) (by unfold maxLen;omega) (by omega) HZ.out ?_ rfl)
    intro v' w' o2 gr hat;obtain ⟨g2,c4,rfl,_,_⟩:=o2.form (by omega);have L2:Hid (OwnLf w' w.heap.size (.slice (some ⟨g2,0,none⟩) (n+1) c4) (n+1) l.length):=⟨_,o2,HX.out.snoc HO.out.1 c1⟩;have K2:Hid (Kept w w'):=K1.out.grown gr HZ.out HJ.out;clear o2 gr hat O1 K1 HC HZ HJ HO HX HK x0;go_wp2;go_loopw [5,6] (fun v5 _ W=>∃ i:Nat,i<=n/\v5 = .int .i64 (i:Int)/\OwnLf W w.heap.size (.slice (some ⟨g2,0,none⟩) (n+1) c4) (n+1) l.length/\Kept w W) (fun v5 _ _=>(intOf v5).toNat)
    case atStart=>exact ⟨n,by omega,val_int (by omega),L2.out,K2.out⟩
    case round=>
     obtain ⟨i,hi,rfl,hL,hK⟩:=hrel;have L3:Hid (OwnLf wr w.heap.size (.slice (some ⟨g2,0,none⟩) (n+1) c4) (n+1) l.length):=hL;have K3:Hid (Kept w wr):=hK;by_cases c5:0<i
     ·obtain ⟨j,rfl⟩:∃ j,i=j+1:=⟨i - 1,by omega⟩
      obtain ⟨s1,z1,hs1,y0,y1⟩:=hL.cell (i:=j) (by omega);obtain ⟨s2,z2,hs2,y2,y3⟩:=hL.cell (i:=j+1) (by omega);clear hL hK;have j0:(0:Int)<((j+1:Nat):Int):=by omega
      have j1:((j+1:Nat):Int) - 1=(j:Int):=by omega
      have j2:((j+1:Nat):Int)<((n+1:Nat):Int):=by omega
      by_cases c6:z2<z1
      ·go_wp2_with fail
       go_quiet (fail);have L4:Hid (OwnLf (wr.drewN nq) w.heap.size (.slice (some ⟨g2,0,none⟩) (n+1) c4) (n+1) l.length):=L3.out.kept ((Kept.refl _).drewN nq);have K4:Hid (Kept w (wr.drewN nq)):=K3.out.drewN nq;replace y0:(wr.drewN nq).cell? ⟨g2,j*2,none⟩=some (.int .i64 (s1:Int)):=y0;replace y1:(wr.drewN nq).cell? ⟨g2,j*2+1,none⟩=some (.int .i64 z1):=y1;replace y2:(wr.drewN nq).cell? ⟨g2,(j+1)*2,none⟩=some (.int .i64 (s2:Int)):=y2;replace y3:(wr.drewN nq).cell? ⟨g2,(j+1)*2+1,none⟩=some (.int .i64 z2):=y3;generalize wr.drewN nq=wd at *;have gl:g2<wd.heap.size:=World.block_lt_of_cell? _ _ y0;have gw:w.heap.size<=g2:=by obtain ⟨xs',o',_⟩:=L4.out;exact (o'.lt g2 rfl).1
       have KA:Kept wd (wd.alloc (Obj.cells #[.int .i64 (s2:Int),.int .i64 z2] 213)):=(Below.refl _ _).alloc (Nat.le_refl _) _;have L5:Hid (OwnLf (wd.alloc (Obj.cells #[.int .i64 (s2:Int),.int .i64 z2] 213)) w.heap.size (.slice (some ⟨g2,0,none⟩) (n+1) c4) (n+1) l.length):=L4.out.kept KA;have L6:Hid (OwnLf (((wd.alloc (Obj.cells #[.int .i64 (s2:Int),.int .i64 z2] 213)).setCell ⟨g2,(j+1)*2,none⟩ (.int .i64 (s1:Int))).setCell ⟨g2,(j+1)*2+1,none⟩ (.int .i64 z1)) w.heap.size (.slice (some ⟨g2,0,none⟩) (n+1) c4) (n+1) l.length):=L5.out.put hs1;have L7:Hid (OwnLf (((((wd.alloc (Obj.cells #[.int .i64 (s2:Int),.int .i64 z2] 213)).setCell ⟨g2,(j+1)*2,none⟩ (.int .i64 (s1:Int))).setCell ⟨g2,(j+1)*2+1,none⟩ (.int .i64 z1)).setCell ⟨g2,j*2,none⟩ (.int .i64 (s2:Int))).setCell ⟨g2,j*2+1,none⟩ (.int .i64 z2)) w.heap.size (.slice (some ⟨g2,0,none⟩) (n+1) c4) (n+1) l.length):=L6.out.put hs2;have K7:Hid (Kept w (((((wd.alloc (Obj.cells #[.int .i64 (s2:Int),.int .i64 z2] 213)).setCell ⟨g2,(j+1)*2,none⟩ (.int .i64 (s1:Int))).setCell ⟨g2,(j+1)*2+1,none⟩ (.int .i64 z1)).setCell ⟨g2,j*2,none⟩ (.int .i64 (s2:Int))).setCell ⟨g2,j*2+1,none⟩ (.int .i64 z2))):=((((K4.out.trans KA).setCell gw _).setCell gw _).setCell gw _).setCell gw _;have a0:(wd.alloc (Obj.cells #[.int .i64 (s2:Int),.int .i64 z2] 213)).cell? ⟨g2,j*2,none⟩=some (.int .i64 (s1:Int)):=(KA.cell (p:=⟨g2,j*2,none⟩) gl).trans y0;have a1:(wd.alloc (Obj.cells #[.int .i64 (s2:Int),.int .i64 z2] 213)).cell? ⟨g2,j*2+1,none⟩=some (.int .i64 z1):=(KA.cell (p:=⟨g2,j*2+1,none⟩) gl).trans y1;have a2:(wd.alloc (Obj.cells #[.int .i64 (s2:Int),.int .i64 z2] 213)).cell? ⟨g2,(j+1)*2,none⟩=some (.int .i64 (s2:Int)):=(KA.cell (p:=⟨g2,(j+1)*2,none⟩) gl).trans y2;have a3:(wd.alloc (Obj.cells #[.int .i64 (s2:Int),.int .i64 z2] 213)).cell? ⟨g2,(j+1)*2+1,none⟩=some (.int .i64 z2):=(KA.cell (p:=⟨g2,(j+1)*2+1,none⟩) gl).trans y3;have f0:=L5.out.fz ((j+1)*2);have f1:=L5.out.fz ((j+1)*2+1);have FB:Fr (fun q=>q=g2) (wd.alloc (Obj.cells #[.int .i64 (s2:Int),.int .i64 z2] 213)) (((wd.alloc (Obj.cells #[.int .i64 (s2:Int),.int .i64 z2] 213)).setCell ⟨g2,(j+1)*2,none⟩ (.int .i64 (s1:Int))).setCell ⟨g2,(j+1)*2+1,none⟩ (.int .i64 z1)):=(Fr.setCell (S:=fun q=>q=g2) (Fr.refl _ _) (Or.inl rfl) _ _).setCell (Or.inl rfl) _ _
       have nB:¬ wd.heap.size=g2:=by omega
       have lA:wd.heap.size<(wd.alloc (Obj.cells #[.int .i64 (s2:Int),.int .i64 z2] 213)).heap.size:=by simp
       have b0:(((wd.alloc (Obj.cells #[.int .i64 (s2:Int),.int .i64 z2] 213)).setCell ⟨g2,(j+1)*2,none⟩ (.int .i64 (s1:Int))).setCell ⟨g2,(j+1)*2+1,none⟩ (.int .i64 z1)).cell? ⟨wd.heap.size,0,none⟩=some (.int .i64 (s2:Int)):=(FB.cell lA nB).trans ((World.cell?_alloc_at _ _ _ _ rfl).trans rfl);have b1:(((wd.alloc (Obj.cells #[.int .i64 (s2:Int),.int .i64 z2] 213)).setCell ⟨g2,(j+1)*2,none⟩ (.int .i64 (s1:Int))).setCell ⟨g2,(j+1)*2+1,none⟩ (.int .i64 z1)).cell? ⟨wd.heap.size,1,none⟩=some (.int .i64 z2):=(FB.cell lA nB).trans ((World.cell?_alloc_at _ _ _ _ rfl).trans rfl);obtain ⟨sx,zx,_,d0,d1⟩:=L6.out.cell (i:=j) (by omega);have f2:=L6.out.fz (j*2);have f3:=L6.out.fz (j*2+1);clear L4 K4 L5 L6 KA FB gl gw;go_wp2;exact ⟨⟨j,by omega,val_int (by omega),L7.out,K7.out⟩,by simp [intOf]⟩
      ·have c6':decide (z2<z1)=false:=decide_eq_false c6
       go_wp2_with fail;go_quiet (fail);go_wp2;exact ⟨⟨n+1,k+1,by omega,by omega,by go_num,L3.out.kept ((Kept.refl _).drewN _),K3.out.drewN _⟩,by simp [intOf];omega⟩
     ·have i0:i=0:=by omega
      subst i0;go_wp2_with fail;go_quiet (fail);go_wp2;exact ⟨⟨n+1,k+1,by omega,by omega,by go_num,L3.out.kept ((Kept.refl _).drewN _),K3.out.drewN _⟩,by simp [intOf];omega⟩
  ·have ki:¬ (k:Int)<(l.length:Int):=by omega
   go_wp2;go_ret;exact ⟨⟨_,n,rfl,by omega,xs,HO.out,HX.out⟩,HK.out⟩
theorem infoIt:(Tryz.prog.info? 234).map (fun i=>(i.zero,i.size,i.bytes))=some (some (.agg #[.bool false,.int .i64 0]),2,16):=by kernel_rfl
def It (k:Nat) (u:Value):Prop:=(k % 2=0->∃ b:Bool,u = .bool b)/\(k % 2=1->∃ z:Int,u = .int .i64 z)
def ItL (xs:List Value):Prop:=∀ k u,xs[k]? = some u->It k u
theorem ItL.nil:ItL []:=fun k u h=>by simp at h
theorem ItL.snoc {n:Nat} {b:Bool} {z:Int} {xs:List Value} (h:ItL xs) (hl:xs.length=n*2):ItL (xs++[.bool b,.int .i64 z]):=by
 intro k u hk;by_cases c:k<xs.length
 ·rw[List.getElem?_append_left c] at hk;exact h k u hk
 ·rw[List.getElem?_append_right (by omega)] at hk
  have hk2:k - xs.length<2:=by
   have:=(List.getElem?_eq_some_iff.1 hk).1
   simpa using this
  by_cases e:k - xs.length=0
  ·rw[e] at hk
   injection hk with hk
   exact ⟨fun _=>⟨b,hk.symm⟩,fun q=>by omega⟩
  ·have e1:k - xs.length=1:=by omega
   rw[e1] at hk
   injection hk with hk
   exact ⟨fun q=>by omega,fun _=>⟨z,hk.symm⟩⟩
def OwnIt (W:World) (N:Nat) (v:Value) (n:Nat):Prop:=∃ xs,W.ownsRow N 234 2 v n xs/\ItL xs
theorem OwnIt.at {W:World} {N:Nat} {v:Value} {n:Nat} (h:OwnIt W N v n):ItAt W v n:=by
 obtain ⟨xs,o,hx⟩:=h;obtain ⟨p,c,hv⟩:=own_slice o;refine ⟨⟨p,c,hv⟩,fun i hi => ?_⟩;have hl:=o.1;rcases o.2 with ⟨_,h0⟩ | ⟨g,cap,cur,hv2,r⟩
 ·omega
 ·have ad:∀ j,(Addr.add ⟨g,0,none⟩ j)=⟨g,j,none⟩:=fun j=>by unfold Addr.add;split<;>simp_all
  have hc:∀ j (hj:j<xs.length),W.cell? ⟨g,j,none⟩=some xs[j]:=fun j hj=>by
   have:=o.cells (by rw[hv2];rfl) j xs[j] (List.getElem?_eq_getElem hj)
   rw[ad] at this;exact this
  have a0:i*2<xs.length:=by omega
  have a1:i*2+1<xs.length:=by omega
  obtain ⟨s,e0⟩:=(hx _ _ (List.getElem?_eq_getElem a0)).1 (by omega);obtain ⟨z,e1⟩:=(hx _ _ (List.getElem?_eq_getElem a1)).2 (by omega);exact ⟨g,cap,s,z,hv2,by rw[hc _ a0,e0],by rw[hc _ a1,e1]⟩
theorem OwnIt.slice {W:World} {N:Nat} {v:Value} {n:Nat} (h:OwnIt W N v n):∃ p c,v = .slice p n c:=by
 obtain ⟨xs,o,_⟩:=h;exact own_slice o
theorem OwnIt.kept {w W:World} {N:Nat} {v:Value} {n:Nat} (h:OwnIt w N v n) (k:Kept w W):OwnIt W N v n:=by
 obtain ⟨xs,o,hx⟩:=h;exact ⟨xs,own_kept o k,hx⟩
theorem stepIt {w:World} {ops:Array Oper} {o:Oper} {a:Act} {K:Act->World->Prop} {Q:Exit->Act->World->Prop} {E:Prop} (hgd:o.guard=none) (s x:Operand)
  (hop:o.op=Op.call { callee:=Callee.builtin Builtin.append,args:=#[s,x],argTypes:=#[217,217] })
  (N:Nat) (v:Value) (n:Nat) (hs:a.eval s=v) (hown:OwnIt w N v n)
  (g c:Nat) (b:Bool) (z:Int) (hx:a.eval x = .slice (some ⟨g,0,none⟩) 1 c) (hc0:w.cell? ⟨g,0,none⟩=some (.bool b)) (hc1:w.cell? ⟨g,1,none⟩=some (.int .i64 z)) (hb:n+1<=100000000) (hbase:N<=w.heap.size)
  (hK:∀ g' cap w',OwnIt w' N (.slice (some ⟨g',0,none⟩) (n+1) cap) (n+1)->Fr (fun k=>v.ownBlock=some k) w w'->K (a.put o.dst (.slice (some ⟨g',0,none⟩) (n+1) cap)) w') :
  if Region.wanted o (yielded ops a.tmps)=true then Oper.wp Tryz.prog o a w K Q else E:=by
 obtain ⟨i0,hi,hz0,hz1,hz2⟩:=info_parts' infoIt;obtain ⟨xs,ow,hX⟩:=hown;refine step_append_lies w hgd s x 217 hop N 234 i0 (.agg #[.bool false,.int .i64 0]) 2 16 Tryz.underlying217 hi hz0 hz1 hz2 rfl (by omega) v n xs hs ow ⟨g,0,none⟩ 1 c [.bool b,.int .i64 z] hx rfl ?_ ?_ (by omega) (by unfold maxLen;omega) (by omega) hbase w.heap.size rfl ?_
 ·intro j u hj
  have e:(⟨g,0,none⟩:Addr).add j=⟨g,j,none⟩:=by unfold Addr.add;split<;>simp_all
  rw[e]
  match j,hj with
  | 0,hj=>simp at hj;subst hj;exact hc0
  | 1,hj=>simp at hj;subst hj;exact hc1
  | j+2,hj=>simp at hj
 ·intro u hu;simp at hu;rcases hu with rfl | rfl<;>rfl
 ·intro g' cap w' h1 h2 h3 h4
  exact hK g' cap w' ⟨_,h1,hX.snoc ow.1⟩ ⟨h2.os,h2.tape,h2.output,h2.size,fun k hk hn=>h2.block k hk (fun e=>hn e.symm)⟩
