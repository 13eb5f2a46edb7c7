import Derived.Test.YtmbmecfodigciaaGreatDoorTu27
import Derived.Test.YtmbmecfodigciaaGreatDoorTu28
import Derived.Test.YtmbmecfodigciaaGreatDoorTu18
set_option maxRecDepth 100000
set_option maxHeartbeats 6400000
namespace Go.Proofs.YtmbmecfodigciaaGreatDoor
open Go.RowKit Px
set_option linter.unusedSimpArgs false
set_option linter.unusedVariables false
theorem LwB.setCnt {w:World} {x N cnt W H D K L:Nat} {o:List Int} {row abv:Nat->Nat} (h:LwB w x N cnt W H D K L o row abv) (m:Nat):LwB (w.setCell ⟨x,6,none⟩ (.int .i64 (m:Int))) x N m W H D K L o row abv:=by
 obtain ⟨h1,h2,h3,a0,a1,a2,a3,a4,⟨ov,b1,b2⟩,a6,r1,r2,r3,r4⟩:=h
 have e:∀ j,j≠6->(w.setCell ⟨x,6,none⟩ (.int .i64 (m:Int))).cell? ⟨x,j,none⟩=w.cell? ⟨x,j,none⟩:=fun j hj=>cell_set_other _ _ _ _ _ (fun e=>hj e.symm)
 exact ⟨h1,by rw[show (w.setCell ⟨x,6,none⟩ (.int .i64 (m:Int))).heap.size=w.heap.size by simp [World.setCell]];exact h2,fun k=>by rw[World.frozen?_setCell];exact h3 k,(e 0 (by omega)).trans a0,(e 1 (by omega)).trans a1,(e 2 (by omega)).trans a2,(e 3 (by omega)).trans a3,(e 4 (by omega)).trans a4,⟨ov,(e 5 (by omega)).trans b1,b2.set h1 _ _⟩,cell_set_same a6 _,fun j hj=>(e _ (by omega)).trans (r1 j hj),fun j hj=>(e _ (by omega)).trans (r2 j hj),r3,r4⟩
def rowAtB (W K D f1 s1 f2 s2:Nat) (pl:List Int) (i:Nat):Nat->Nat:=layCB D (chan K) pl (fun c=>((f2+i*s2)*W+(f1+c*s1))*chan K) (within f1 s1 W)
def abvAtB (W K D f1 s1 f2 s2:Nat) (pl:List Int):Nat->(Nat->Nat)
 | 0=>fun _=>0
 | i+1=>rowAtB W K D f1 s1 f2 s2 pl i
def passB (W K D f1 s1 f2 s2:Nat) (pl fl:List Int) (cnt:Nat):Nat->List Int
 | 0=>[]
 | i+1=>passB W K D f1 s1 f2 s2 pl fl cnt i++rowB K D (fl.getD ((cnt+i) % fl.length) 0).toNat ((within f1 s1 W*(chan K*D)+7) / 8) (rowAtB W K D f1 s1 f2 s2 pl i) (abvAtB W K D f1 s1 f2 s2 pl i)
theorem passB_len (W K D f1 s1 f2 s2:Nat) (pl fl:List Int) (cnt:Nat):∀ i,(passB W K D f1 s1 f2 s2 pl fl cnt i).length=i*(1+(within f1 s1 W*(chan K*D)+7) / 8)
 | 0=>by rw[Nat.zero_mul];rfl
 | i+1=>by
  show (_++_:List Int).length=_
  rw[List.length_append,passB_len W K D f1 s1 f2 s2 pl fl cnt i,rowB_len,Nat.add_mul,Nat.one_mul]
theorem writePass_b (x N cnt W H D K L f1 s1 f2 s2:Nat) (b1 b2:Int) (pv cv:Value) (pl cl o:List Int) (row abv:Nat->Nat) (w:World) (h:LwB w x N cnt W H D K L o row abv) (hk:legal K D) (hW:W<=16) (hH:H<=16) (hf1:f1<=8) (hs1:1<=s1) (hs1':s1<=8) (hf2:f2<=8) (hs2:1<=s2) (hs2':s2<=8) (hp:LAt w .i64 pv pl) (hpS:∀ g,sliceBlock pv=some g->¬ (g=x\/N<=g)) (hpl:pl.length<=65536) (hpv:∀ y ∈ pl,0<=y/\y<65536) (hc:LAt w .i64 cv cl) (hcS:∀ g,sliceBlock cv=some g->¬ (g=x\/N<=g)) (hcl0:0<cl.length) (hcl:cl.length<=64) (hcv:∀ y ∈ cl,0<=y/\y<=4) (hn:o.length<=65536) (hcnt:cnt<=65536) (hcN:within f1 s1 W≠0) (hin:∀ i c k,i<within f2 s2 H->c<within f1 s1 W->k<chan K->((f2+i*s2)*W+(f1+c*s1))*chan K+k<pl.length) :
  Calls Tryz.prog 96 #[.pointer (some ⟨x,0,none⟩),.agg #[.int .i64 (f1:Int),.int .i64 (s1:Int),.int .i64 b1,.int .i64 (f2:Int),.int .i64 (s2:Int),.int .i64 b2],pv,cv] w fun r w'=>r = .returned (.tuple #[])/\(∃ row',LwB w' x N (cnt+within f2 s2 H) W H D K L (o++passB W K D f1 s1 f2 s2 pl cl cnt (within f2 s2 H)) row' (abvAtB W K D f1 s1 f2 s2 pl (within f2 s2 H)))/\FrN x N w w':=by
 obtain ⟨pp,pc,rfl⟩:=hp.form
 obtain ⟨cp,cc,rfl⟩:=hc.form
 have hkw:Kept w (w.alloc (Obj.cells #[.int .i64 (f1:Int),.int .i64 (s1:Int),.int .i64 b1,.int .i64 (f2:Int),.int .i64 (s2:Int),.int .i64 b2] 146)):=Below.alloc (Below.refl _ _) (Nat.le_refl _) _
 obtain ⟨S,hS⟩:∃ S:Nat->Prop,S=fun g=>g=x\/(N<=g/\g≠w.heap.size):=⟨_,rfl⟩
 have hxs:x<w.heap.size:=Nat.lt_of_lt_of_le h.lt h.size
 have hSN:∀ g,S g->g=x\/N<=g:=by intro g hg;rw[hS] at hg;rcases hg with e | ⟨e,_⟩;exact Or.inl e;exact Or.inr e
 have hSs:¬ S w.heap.size:=by rw[hS];rintro (e | ⟨_,e⟩);omega;exact e rfl
 have H0:Hid (LwSB x N cnt W H D K L o row abv S w (w.alloc (Obj.cells #[.int .i64 (f1:Int),.int .i64 (s1:Int),.int .i64 b1,.int .i64 (f2:Int),.int .i64 (s2:Int),.int .i64 b2] 146))):=by
  refine ⟨h.kept hkw,Fr.of_kept hkw,?_⟩
  have hx5:x<w.heap.size:=hxs
  refine ⟨by rw[hS];exact Or.inl rfl,fun g hg => ?_,fun ov g q1 q2 => ?_⟩
  ·rw[hS];simp at hg;have:=h.size;exact Or.inr ⟨by omega,by omega⟩
  ·rw[hkw.cell (p:=⟨x,5,none⟩) hxs] at q1
   obtain ⟨ov',e1,e2⟩:=h.out
   rw[q1] at e1
   injection e1 with e1
   subst e1
   have:=e2.2.lt g q2
   rw[hS];exact Or.inr ⟨this.1,by omega⟩
 have hpc:∀ k u,#[Value.int .i64 (f1:Int),.int .i64 (s1:Int),.int .i64 b1,.int .i64 (f2:Int),.int .i64 (s2:Int),.int .i64 b2][k]? = some u->(w.alloc (Obj.cells #[.int .i64 (f1:Int),.int .i64 (s1:Int),.int .i64 b1,.int .i64 (f2:Int),.int .i64 (s2:Int),.int .i64 b2] 146)).cell? ⟨w.heap.size,k,none⟩=some u:=by
  intro k u hu
  rw[World.cell?_alloc_at _ _ _ _ rfl]
  exact hu
 have p0:=hpc 0 _ rfl
 have p1:=hpc 1 _ rfl
 have p2:=hpc 2 _ rfl
 have p3:=hpc 3 _ rfl
 have p4:=hpc 4 _ rfl
 have p5:=hpc 5 _ rfl
 have q0:=H0.out.lw.c0
 have q1:=H0.out.lw.c1
 have FW:Hid (∀ (W':World) (f s m:Nat) (b:Int),f<=8->1<=s->s<=8->m<=16->Calls Tryz.prog 129 #[.agg #[.int .i64 (f:Int),.int .i64 (s:Int),.int .i64 b],.int .i64 (m:Int)] W' fun r w'=>r = .returned (.int .i64 (within f s m:Int))/\Kept W' w'):=fun W' f s m b a1 a2 a3 a4=>within_any f s m b W' a1 a2 a3 a4
 clear hpc
 replace hkw:Hid _:=hkw
 go_enter Tryz.func96,Tryz.ntmps96
 go_wp2_with fail
 generalize (w.alloc (Obj.cells #[.int .i64 (f1:Int),.int .i64 (s1:Int),.int .i64 b1,.int .i64 (f2:Int),.int .i64 (s2:Int),.int .i64 b2] 146))=w0 at *
 have hs0w:w.heap.size<w0.heap.size:=World.block_lt_of_cell? _ _ p0
 have hx0:x<w0.heap.size:=World.block_lt_of_cell? _ _ q0
 obtain ⟨cols,hcols⟩:∃ c,c=within f1 s1 W:=⟨_,rfl⟩
 obtain ⟨lns,hlns⟩:∃ c,c=within f2 s2 H:=⟨_,rfl⟩
 have hcb:cols<=16:=by rw[hcols];exact within_le hW
 have hlb:lns<=16:=by rw[hlns];exact within_le hH
 have FC:=fun (W':World)=>FW.out W' f1 s1 W b1 hf1 hs1 hs1' hW
 have FL:=fun (W':World)=>FW.out W' f2 s2 H b2 hf2 hs2 hs2' hH
 rw[<- hcols] at FC
 rw[<- hlns] at FL
 replace FC:Hid _:=FC
 replace FL:Hid _:=FL
 have HPS:Hid (∀ i,passB W K D f1 s1 f2 s2 pl cl cnt (i+1)=passB W K D f1 s1 f2 s2 pl cl cnt i++rowB K D (cl.getD ((cnt+i) % cl.length) 0).toNat ((cols*(chan K*D)+7) / 8) (rowAtB W K D f1 s1 f2 s2 pl i) (abvAtB W K D f1 s1 f2 s2 pl i)):=fun i=>by rw[hcols];rfl
 have HPN:Hid (∀ i,(passB W K D f1 s1 f2 s2 pl cl cnt i).length=i*(1+(cols*(chan K*D)+7) / 8)):=fun i=>by rw[hcols];exact passB_len W K D f1 s1 f2 s2 pl cl cnt i
 have HP0:Hid (passB W K D f1 s1 f2 s2 pl cl cnt 0=[]):=rfl
 have HA0:Hid (abvAtB W K D f1 s1 f2 s2 pl 0=fun _=>0):=rfl
 have HAS:Hid (∀ i,abvAtB W K D f1 s1 f2 s2 pl (i+1)=rowAtB W K D f1 s1 f2 s2 pl i):=fun _=>rfl
 have HRE:Hid (∀ i,rowAtB W K D f1 s1 f2 s2 pl i=layCB D (chan K) pl (fun c=>((f2+i*s2)*W+(f1+c*s1))*chan K) cols):=fun i=>by rw[hcols];rfl
 rw[<- hcols] at hcN
 rw[<- hcols,<- hlns] at hin
 replace hlns:Hid (lns=within f2 s2 H):=hlns
 obtain ⟨PP,hPP⟩:∃ PP,PP=passB W K D f1 s1 f2 s2 pl cl cnt:=⟨_,rfl⟩
 obtain ⟨AA,hAA⟩:∃ AA,AA=abvAtB W K D f1 s1 f2 s2 pl:=⟨_,rfl⟩
 obtain ⟨RR,hRR⟩:∃ RR,RR=rowAtB W K D f1 s1 f2 s2 pl:=⟨_,rfl⟩
 rw[<- hPP] at HPS HPN HP0
 rw[<- hAA] at HPS HA0 HAS
 rw[<- hRR] at HPS HAS HRE
 replace hPP:Hid (PP=passB W K D f1 s1 f2 s2 pl cl cnt):=hPP
 replace hAA:Hid (AA=abvAtB W K D f1 s1 f2 s2 pl):=hAA
 clear hRR
 clear hcols
 go_region_held3 (fun W'=>W'.cell? ⟨w.heap.size,0,none⟩=some (.int .i64 (f1:Int))/\W'.cell? ⟨w.heap.size,1,none⟩=some (.int .i64 (s1:Int))/\W'.cell? ⟨w.heap.size,2,none⟩=some (.int .i64 b1)/\W'.cell? ⟨x,0,none⟩=some (.int .i64 (W:Int))) (first | exact ⟨p0,p1,p2,q0⟩ | exact hq4 | go_keep) ((go_at_call 129;refine Calls.mono (FC.out _) ?_;rintro r w1 ⟨rfl,hk1⟩;have hq4:w1.cell? ⟨w.heap.size,0,none⟩=some (.int .i64 (f1:Int))/\w1.cell? ⟨w.heap.size,1,none⟩=some (.int .i64 (s1:Int))/\w1.cell? ⟨w.heap.size,2,none⟩=some (.int .i64 b1)/\w1.cell? ⟨x,0,none⟩=some (.int .i64 (W:Int)):=⟨(hk1.cell (p:=⟨w.heap.size,0,none⟩) hs0w).trans p0,(hk1.cell (p:=⟨w.heap.size,1,none⟩) hs0w).trans p1,(hk1.cell (p:=⟨w.heap.size,2,none⟩) hs0w).trans p2,(hk1.cell (p:=⟨x,0,none⟩) hx0).trans q0⟩))
 have hK1:Kept w0 w1:=Kept.trans ((Kept.refl _).drewN 1) hk1
 have r3:=(hK1.cell (p:=⟨w.heap.size,3,none⟩) hs0w).trans p3
 have r4:=(hK1.cell (p:=⟨w.heap.size,4,none⟩) hs0w).trans p4
 have r5:=(hK1.cell (p:=⟨w.heap.size,5,none⟩) hs0w).trans p5
 have t1:=(hK1.cell (p:=⟨x,1,none⟩) hx0).trans q1
 have hs1w:w.heap.size<w1.heap.size:=World.block_lt_of_cell? _ _ r3
 have hx1:x<w1.heap.size:=World.block_lt_of_cell? _ _ t1
 replace hK1:Hid (Kept w0 w1):=hK1
 clear hk1 hq4
 go_wp2_with fail
 go_region_held3 (fun W'=>W'.cell? ⟨w.heap.size,3,none⟩=some (.int .i64 (f2:Int))/\W'.cell? ⟨w.heap.size,4,none⟩=some (.int .i64 (s2:Int))/\W'.cell? ⟨w.heap.size,5,none⟩=some (.int .i64 b2)/\W'.cell? ⟨x,1,none⟩=some (.int .i64 (H:Int))) (first | exact ⟨r3,r4,r5,t1⟩ | exact hq4 | go_keep) ((go_at_call 129;refine Calls.mono (FL.out _) ?_;rintro r w2 ⟨rfl,hk2⟩;have hq4:w2.cell? ⟨w.heap.size,3,none⟩=some (.int .i64 (f2:Int))/\w2.cell? ⟨w.heap.size,4,none⟩=some (.int .i64 (s2:Int))/\w2.cell? ⟨w.heap.size,5,none⟩=some (.int .i64 b2)/\w2.cell? ⟨x,1,none⟩=some (.int .i64 (H:Int)):=⟨(hk2.cell (p:=⟨w.heap.size,3,none⟩) hs1w).trans r3,(hk2.cell (p:=⟨w.heap.size,4,none⟩) hs1w).trans r4,(hk2.cell (p:=⟨w.heap.size,5,none⟩) hs1w).trans r5,(hk2.cell (p:=⟨x,1,none⟩) hx1).trans t1⟩))
 have HK2:Hid (Kept w0 w2):=hK1.out.trans (Kept.trans ((Kept.refl _).drewN 1) hk2)
 have H2:Hid (LwSB x N cnt W H D K L o row abv S w w2):=H0.out.kept HK2.out
 have HP2:Hid ((∀ k u,#[Value.int .i64 (f1:Int),.int .i64 (s1:Int),.int .i64 b1,.int .i64 (f2:Int),.int .i64 (s2:Int),.int .i64 b2][k]? = some u->w2.cell? ⟨w.heap.size,k,none⟩=some u)):=by
  intro k u hu
  have:k=0\/k=1\/k=2\/k=3\/k=4\/k=5:=by
   have:=(Array.getElem?_eq_some_iff.1 hu).1
   simp at this;omega
  rcases this with rfl | rfl | rfl | rfl | rfl | rfl
  ·rw[HK2.out.cell (p:=⟨w.heap.size,0,none⟩) hs0w,p0,<- hu];rfl
  ·rw[HK2.out.cell (p:=⟨w.heap.size,1,none⟩) hs0w,p1,<- hu];rfl
  ·rw[HK2.out.cell (p:=⟨w.heap.size,2,none⟩) hs0w,p2,<- hu];rfl
  ·rw[HK2.out.cell (p:=⟨w.heap.size,3,none⟩) hs0w,p3,<- hu];rfl
  ·rw[HK2.out.cell (p:=⟨w.heap.size,4,none⟩) hs0w,p4,<- hu];rfl
  ·rw[HK2.out.cell (p:=⟨w.heap.size,5,none⟩) hs0w,p5,<- hu];rfl
 clear hk2 hq4 r3 r4 r5 t1 p0 p1 p2 p3 p4 p5 q0 q1 hK1 FC FL FW H0
 have hc0:¬ cols=0:=hcN
 have hc0':((cols:Int) == 0)=false:=by rw[beq_eq_false_iff_ne];omega
 have FPB:=pbits_any x N o.length cnt W H D K L w2 H2.out.lw.at' hk
 have hPb:chan K*D<=64:=Nat.le_trans (Nat.mul_le_mul (@chan_le K).2 (show D<=16 by have:=hk.d;omega)) (by decide)
 have hin2:∀ j c k,j<lns->c<cols->k<chan K->((f2+j*s2)*W+(f1+c*s1))*chan K+k<pl.length:=hin
 replace hin2:Hid _:=hin2
 clear hin
 generalize chan K*D=PB at *
 replace FPB:Hid (Calls Tryz.prog 130 #[.pointer (some ⟨x,0,none⟩)] w2 fun r w'=>r = .returned (.int .i64 (PB:Int))/\Kept w2 w'):=FPB
 have hQb:cols*PB<=1024:=Nat.le_trans (Nat.mul_le_mul hcb hPb) (by decide)
 have eQ:(cols:Int)*(PB:Int)=((cols*PB:Nat):Int):=by simp
 generalize cols*PB=Q at *
 obtain ⟨Z,hZ⟩:∃ Z,Z=(Q+7) / 8:=⟨_,rfl⟩
 rw[<- hZ] at HPS HPN
 have eZ:((Q:Int)+7) / 8=(Z:Int):=by omega
 have hZb:Z<=128:=by omega
 clear hZ
 go_wp2_with fail
 refine FPB.out.mono ?_
 rintro r w3 ⟨rfl,hk3⟩
 have H3:Hid (LwSB x N cnt W H D K L o row abv S w w3):=H2.out.kept hk3
 have hth:Hid (w3.there x 135 (Tryz.zeroCells90).toList.length):=by
  intro j hj
  rw[len128] at hj
  have hz:=H3.out.lw.abvc j hj
  exact ⟨by rw[hz];rfl,H3.out.lw.fz _⟩
 have hsc:(storeCells ⟨x,135,none⟩ (Tryz.zeroCells90).toList).run Tryz.prog w3 = .ok () (w3.setCells x 135 (Tryz.zeroCells90).toList):=store_there hth.out (ints_one len128 zeros128)
 have H4:Hid (LwSB x N cnt W H D K L o row (fun _=>0) S w (w3.setCells x 135 (Tryz.zeroCells90).toList)):=H3.out.lxb ⟨H3.out.lw.layA _ (fun _=>0) len128 zeros128b (fun _=>by omega),Fr.setCells (S:=fun k=>k=x) (Fr.refl _ _) (Or.inl rfl) _ _ (Fr.refl _ _),World.cell?_setCells_out x _ 135 _ ⟨x,5,none⟩ (fun _ _=>Or.inl (by show 5<135;omega))⟩
 have hs2w:w.heap.size<w2.heap.size:=World.block_lt_of_cell? _ _ (HP2.out 0 _ rfl)
 have HP4:Hid ((∀ k u,#[Value.int .i64 (f1:Int),.int .i64 (s1:Int),.int .i64 b1,.int .i64 (f2:Int),.int .i64 (s2:Int),.int .i64 b2][k]? = some u->(w3.setCells x 135 (Tryz.zeroCells90).toList).cell? ⟨w.heap.size,k,none⟩=some u)):=by
  intro k u hu
  rw[World.cell?_setCells_out x _ 135 _ ⟨w.heap.size,k,none⟩ (fun e _=>by simp at e;omega),hk3.cell (p:=⟨w.heap.size,k,none⟩) hs2w]
  exact HP2.out k u hu
 clear hk3 hth H2 HP2
 go_wp2
 generalize w3.setCells x 135 (Tryz.zeroCells90).toList=w4 at *
 clear hsc
 have hs4w:w.heap.size<w4.heap.size:=World.block_lt_of_cell? _ _ (HP4.out 0 _ rfl)
 have HPX:Hid (∀ W',Fr S w W'->LAt W' .i64 (.slice pp pl.length pc) pl/\LAt W' .i64 (.slice cp cl.length cc) cl):=fun W' f=>⟨hp.fr f (fun g hg e=>hpS g hg (hSN g e)),hc.fr f (fun g hg e=>hcS g hg (hSN g e))⟩
 have FR:Hid (∀ (W':World) (m:List Int) (rr aa:Nat->Nat) (c' j:Nat),LwSB x N c' W H D K L m rr aa S w W'->j<lns->Calls Tryz.prog 131 #[.pointer (some ⟨x,0,none⟩),.agg #[.int .i64 (f1:Int),.int .i64 (s1:Int),.int .i64 b1,.int .i64 (f2:Int),.int .i64 (s2:Int),.int .i64 b2],.int .i64 (j:Int),.int .i64 (cols:Int),.slice pp pl.length pc] W' fun r w'=>r = .returned (.tuple #[])/\LxB x N c' W H D K L m (RR j) aa W' w'):=fun W' m rr aa c' j hW' hj=>by rw[HRE.out j];exact layRow_b x N c' W H D K L f1 s1 f2 s2 j cols b1 b2 _ pl m rr aa W' hW'.lw hk hW hf1 hs1' hf2 hs2' (by omega) hcb (HPX.out W' hW'.fr).1 hpS hpl hpv (fun c k h1 h2=>hin2.out j c k hj h1 h2)
 have FT:Hid (∀ (W':World) (k:Nat),Fr S w W'->k<=131072->Calls Tryz.prog 100 #[.slice cp cl.length cc,.int .i64 (k:Int)] W' fun r w'=>r = .returned (.int .i64 (cl.getD (k % cl.length) 0))/\Kept W' w'):=fun W' k f hk'=>turns_any _ cl k W' (HPX.out W' f).2 hcl0 (by omega) (by omega)
 have FWr:Hid (∀ (W':World) (m:List Int) (rr aa:Nat->Nat) (c' fl:Nat),LwSB x N c' W H D K L m rr aa S w W'->fl<=4->m.length<=1048576->Calls Tryz.prog 132 #[.pointer (some ⟨x,0,none⟩),.int .u8 (fl:Int),.int .i64 (Z:Int)] W' fun r w'=>r = .returned (.tuple #[])/\LwSB x N c' W H D K L (m++rowB K D fl Z rr aa) rr aa S W' w'):=fun W' m rr aa c' fl hW' hfl hm=>writeRow_b x N c' W H D K L fl Z m rr aa W' hW'.lw hk hfl hZb hm S hW'.ls
 have HCV:Hid (∀ y ∈ cl,0<=y/\y<=4):=hcv
 clear hp hc hpS hcS hpv hcv h H3
 replace hS:Hid _:=hS
 replace hSN:Hid (∀ g,S g->g=x\/N<=g):=hSN
 replace hSs:Hid (¬ S w.heap.size):=hSs
 rw[eZ]
 go_loopw [11] (fun v W'=>∃ i:Nat,i<=lns/\v = .int .i64 (i:Int)/\(∃ rr,LwSB x N (cnt+i) W H D K L (o++PP i) rr (AA i) S w W')/\(∀ k u,#[Value.int .i64 (f1:Int),.int .i64 (s1:Int),.int .i64 b1,.int .i64 (f2:Int),.int .i64 (s2:Int),.int .i64 b2][k]? = some u->W'.cell? ⟨w.heap.size,k,none⟩=some u)) (fun v _=>lns - (intOf v).toNat)
 case atStart=>exact ⟨0,by omega,rfl,by rw[HP0.out,HA0.out,List.append_nil];exact ⟨_,H4.out⟩,HP4.out⟩
 case round=>
  obtain ⟨i,hi,rfl,⟨rr,hL⟩,hP⟩:=hrel
  clear H4 HP4
  by_cases hlt:i<lns
  ·have hlt':(i:Int)<(lns:Int):=by omega
   have p0:=hP 0 _ rfl
   have p1:=hP 1 _ rfl
   have p2:=hP 2 _ rfl
   have p3:=hP 3 _ rfl
   have p4:=hP 4 _ rfl
   have p5:=hP 5 _ rfl
   have hsr:w.heap.size<wr.heap.size:=World.block_lt_of_cell? _ _ p0
   have hmZ:i*(1+Z)<=2064:=Nat.le_trans (Nat.mul_le_mul (show i<=16 by omega) (show 1+Z<=129 by omega)) (by decide)
   have hLn:(o++PP i).length<=67700:=by rw[List.length_append,HPN.out i];omega
   have HNx:Hid (o++PP (i+1)=o++PP i++rowB K D (cl.getD ((cnt+i) % cl.length) 0).toNat Z (RR i) (AA i)):=by show o++PP (i+1)=_;rw[HPS.out i,List.append_assoc]
   have HAx:Hid (AA (i+1)=RR i):=HAS.out i
   obtain ⟨m,hm⟩:∃ m,m=o++PP i:=⟨_,rfl⟩
   rw[<- hm] at hL hLn HNx
   clear hm hmZ
   replace hLn:Hid _:=hLn
   have F1:=FR.out wr m rr _ (cnt+i) i hL hlt
   obtain ⟨R1,hR1⟩:∃ R1,R1=RR i:=⟨_,rfl⟩
   obtain ⟨A1,hA1⟩:∃ A1,A1=AA i:=⟨_,rfl⟩
   rw[<- hR1] at F1 HNx HAx
   rw[<- hA1] at F1 HNx hL
   clear hR1 hA1
   replace F1:Hid (Calls Tryz.prog 131 #[.pointer (some ⟨x,0,none⟩),.agg #[.int .i64 (f1:Int),.int .i64 (s1:Int),.int .i64 b1,.int .i64 (f2:Int),.int .i64 (s2:Int),.int .i64 b2],.int .i64 (i:Int),.int .i64 (cols:Int),.slice pp pl.length pc] wr fun r w'=>r = .returned (.tuple #[])/\LxB x N (cnt+i) W H D K L m R1 A1 wr w'):=F1
   replace hL:Hid (LwSB x N (cnt+i) W H D K L m rr A1 S w wr):=hL
   replace hP:Hid _:=hP
   obtain ⟨ct,hct⟩:∃ ct,ct=cnt+i:=⟨_,rfl⟩
   rw[<- hct] at F1 hL HNx
   have hctb:ct<=65552:=by omega
   replace hct:Hid (ct=cnt+i):=hct
   go_wp2_with fail
   refine F1.out.mono ?_
   rintro r w5 ⟨rfl,hx5⟩
   have L5:Hid (LwSB x N ct W H D K L m R1 A1 S w w5):=hL.out.lxb hx5
   have f5:Hid (Fr S wr w5):=hx5.fr.mono (fun g _ e=>by rw[e];exact L5.out.ls.sx)
   have c6:=L5.out.lw.cn
   clear hx5 p0 p1 p2 p3 p4 p5
   go_wp2_with fail
   refine (FT.out w5 ct L5.out.fr (by omega)).mono ?_
   rintro r w6 ⟨rfl,hk6⟩
   obtain ⟨fl,hfl⟩:∃ fl:Nat,cl.getD (ct % cl.length) 0=(fl:Int)/\fl<=4:=by
    have:=HCV.out _ (getD_mem (Nat.mod_lt ct hcl0))
    exact ⟨(cl.getD (ct % cl.length) 0).toNat,by omega,by omega⟩
   rw[hfl.1]
   rw[hfl.1,Int.toNat_natCast] at HNx
   have hfl4:=hfl.2
   clear hfl
   have L6:Hid (LwSB x N ct W H D K L m R1 A1 S w w6):=L5.out.kept hk6
   have f6:Hid (Fr S wr w6):=f5.out.kept hk6
   clear hk6 c6
   go_wp2_with fail
   refine (FWr.out w6 m _ _ ct fl L6.out hfl4 (by have:=hLn.out;omega)).mono ?_
   rintro r w7 ⟨rfl,hw7⟩
   have L7:Hid (LwSB x N ct W H D K L (o++PP (i+1)) R1 A1 S w w7):=by rw[HNx.out];exact L6.out.trans hw7
   have f7:Hid (Fr S wr w7):=f6.out.trans hw7.fr
   clear hw7
   obtain ⟨rs,hrs⟩:∃ rs:List Value,rs=(List.range 128).map (fun j=>Value.int .u8 (R1 j:Int)):=⟨_,rfl⟩
   have hrl:rs.length=128:=by rw[hrs];simp
   have hrE:Hid (∀ j,j<128->rs[j]? = some (.int .u8 (R1 j:Int))):=fun j hj=>by rw[hrs,List.getElem?_map,List.getElem?_range hj];rfl
   have hrz:∀ j,j<128->∃ z:Int,0<=z/\z<256/\rs[j]? = some (.int .u8 z):=fun j hj=>⟨_,by omega,by have:=L7.out.lw.rb j;omega,hrE.out j hj⟩
   have hrr:w7.rangeAt x 7 rs:=fun j v hj=>by
    have hlt8:j<128:=by have:=(List.getElem?_eq_some_iff.1 hj).1;omega
    rw[hrE.out j hlt8] at hj
    injection hj with hj
    rw[<- hj];exact L7.out.lw.rowc j hlt8
   clear hrs
   have hone:Hid (∀ v ∈ rs,v.oneCell'=true):=ints_one hrl hrz
   have hth:Hid (w7.there x 135 rs.length):=by
    intro j hj
    rw[hrl] at hj
    have hz:=L7.out.lw.abvc j hj
    exact ⟨by rw[hz];rfl,L7.out.lw.fz _⟩
   have hsc:(storeCells ⟨x,135,none⟩ rs).run Tryz.prog w7 = .ok () (w7.setCells x 135 rs):=store_there hth.out hone.out
   have hi128:Hid ((Tryz.prog.info? 90).map (·.size)=some rs.length):=by show _=_;rw[hrl];exact size128
   have L8:Hid (LwSB x N ct W H D K L (o++PP (i+1)) R1 (AA (i+1)) S w (w7.setCells x 135 rs)):=L7.out.lxb ⟨by rw[HAx.out];exact L7.out.lw.layA rs R1 hrl hrE.out L7.out.lw.rb,Fr.setCells (S:=fun k=>k=x) (Fr.refl _ _) (Or.inl rfl) _ _ (Fr.refl _ _),World.cell?_setCells_out x _ 135 _ ⟨x,5,none⟩ (fun _ _=>Or.inl (by show 5<135;omega))⟩
   have f8:Hid (Fr S wr (w7.setCells x 135 rs)):=Fr.setCells f7.out (Or.inl L7.out.ls.sx) _ _ f7.out
   have c68:=L8.out.lw.cn
   have z68:=L8.out.lw.fz 6
   replace hrr:Hid _:=hrr
   replace hrz:Hid _:=hrz
   have hrl':=hrl
   clear hone hth
   go_wp2
   refine wp_load_mid 90 _ rfl x 7 rfl rs _ hrr.out Tryz.underlying90 rfl hi128.out ?_
   go_wp2
   generalize w7.setCells x 135 rs=w8 at *
   have ec:(ct:Int)+1=((ct+1:Nat):Int):=by simp
   rw[ec]
   refine ⟨⟨i+1,by omega,by go_num,?_,?_⟩,by simp [intOf];omega⟩
   ·rw[show cnt+(i+1)=ct+1 by have:=hct.out;omega]
    exact ⟨_,L8.out.lxb ⟨L8.out.lw.setCnt (ct+1),Fr1.set (Fr1.refl x _) _ _,cell_set_other _ _ _ _ _ (by omega)⟩⟩
   ·intro k u hu
    exact ((f8.out.setCell (Or.inl L8.out.ls.sx) _ _).cell hsr hSs.out).trans (hP.out k u hu)
  ·have hie:i=lns:=by omega
   have hlt':¬ (i:Int)<(lns:Int):=by omega
   subst hie
   replace hL:Hid _:=hL
   replace hP:Hid _:=hP
   go_wp2
   go_end0
   refine ⟨rfl,⟨rr,?_⟩,hL.out.fr.mono (fun g _ e=>hSN.out g e)⟩
   rw[<- hlns.out,<- hPP.out,<- hAA.out]
   exact hL.out.lw
