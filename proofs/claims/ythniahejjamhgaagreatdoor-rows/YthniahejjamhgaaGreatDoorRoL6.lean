import Derived.Test.YthniahejjamhgaaGreatDoorRoL1
set_option maxRecDepth 100000
set_option maxHeartbeats 6400000
namespace Go.Proofs.YthniahejjamhgaaGreatDoor
open Go.RowKit
set_option linter.unusedSimpArgs false
set_option linter.unusedVariables false
theorem LwAt.setCnt {w:World} {x N n cnt W H D K L:Nat} (h:LwAt w x N n cnt W H D K L) (m:Nat):LwAt (w.setCell ⟨x,6,none⟩ (.int .i64 (m:Int))) x N n m W H D K L:=by
 obtain ⟨h1,h2,h3,a0,a1,a2,a3,a4,⟨ov,b1,b2⟩,a6,r1,r2⟩:=h;have e:∀ j,j≠6->(w.setCell ⟨x,6,none⟩ (.int .i64 (m:Int))).cell? ⟨x,j,none⟩=w.cell? ⟨x,j,none⟩:=fun j hj=>cell_set_other _ _ _ _ _ (fun e=>hj e.symm)
 exact ⟨h1,by rw[show (w.setCell ⟨x,6,none⟩ (.int .i64 (m:Int))).heap.size=w.heap.size by simp [World.setCell]];exact h2,fun k=>by rw[World.frozen?_setCell];exact h3 k,(e 0 (by omega)).trans a0,(e 1 (by omega)).trans a1,(e 2 (by omega)).trans a2,(e 3 (by omega)).trans a3,(e 4 (by omega)).trans a4,⟨ov,(e 5 (by omega)).trans b1,b2.set h1 _ _⟩,cell_set_same a6 _,r1.fr (fun j q1 q2=>e j (by omega)),r2.fr (fun j q1 q2=>e j (by omega))⟩
def passLen (W H C D f1 s1 f2 s2:Nat):Nat:=if within f1 s1 W=0 then 0 else within f2 s2 H*(1+(within f1 s1 W*(C*D)+7) / 8)
theorem within_le {f s n:Nat} (hn:n<=16):within f s n<=16:=by
 unfold within;split
 ·omega
 ·have:(n - f - 1) / s<=n - f - 1:=Nat.div_le_self _ _
  omega
theorem writePass_any (x N n cnt W H D K L f1 s1 f2 s2:Nat) (b1 b2:Int) (pv cv:Value) (pl cl:List Int) (w:World) (h:LwAt w x N n cnt W H D K L) (hk:legal K D) (hW:W<=16) (hH:H<=16) (hf1:f1<=8) (hs1:1<=s1) (hs1':s1<=8) (hf2:f2<=8) (hs2:1<=s2) (hs2':s2<=8) (hp:LAt w .i64 pv pl) (hpS:∀ g,sliceBlock pv=some g->¬ (g=x\/N<=g)) (hpl:pl.length<=65536) (hpv:∀ y ∈ pl,0<=y/\y<65536) (hc:LAt w .i64 cv cl) (hcS:∀ g,sliceBlock cv=some g->¬ (g=x\/N<=g)) (hcl0:0<cl.length) (hcl:cl.length<=64) (hcv:∀ y ∈ cl,0<=y/\y<=4) (hn:n<=65536) (hcnt:cnt<=65536) :
  Calls Tryz.prog 67 #[.pointer (some ⟨x,0,none⟩),.agg #[.int .i64 (f1:Int),.int .i64 (s1:Int),.int .i64 b1,.int .i64 (f2:Int),.int .i64 (s2:Int),.int .i64 b2],pv,cv] w fun r w'=>r = .returned (.tuple #[])/\∃ cnt',cnt'<=cnt+16/\Lw x N (n+passLen W H (chan K) D f1 s1 f2 s2) cnt' W H D K L w w':=by
 obtain ⟨pp,pc,rfl⟩:=hp.form;obtain ⟨cp,cc,rfl⟩:=hc.form;have hkw:Kept w (w.alloc (Obj.cells #[.int .i64 (f1:Int),.int .i64 (s1:Int),.int .i64 b1,.int .i64 (f2:Int),.int .i64 (s2:Int),.int .i64 b2] 129)):=Below.alloc (Below.refl _ _) (Nat.le_refl _) _;obtain ⟨S,hS⟩:∃ S:Nat->Prop,S=fun g=>g=x\/(N<=g/\g≠w.heap.size):=⟨_,rfl⟩
 have hxs:x<w.heap.size:=Nat.lt_of_lt_of_le h.lt h.size;have hSN:∀ g,S g->g=x\/N<=g:=by intro g hg;rw[hS] at hg;rcases hg with e | ⟨e,_⟩;exact Or.inl e;exact Or.inr e
 have hSs:¬ S w.heap.size:=by rw[hS];rintro (e | ⟨_,e⟩);omega;exact e rfl
 have H0:Hid (LwS x N n cnt W H D K L S w (w.alloc (Obj.cells #[.int .i64 (f1:Int),.int .i64 (s1:Int),.int .i64 b1,.int .i64 (f2:Int),.int .i64 (s2:Int),.int .i64 b2] 129))):=by
  refine ⟨h.kept hkw,Fr.of_kept hkw,?_⟩;have hx5:x<w.heap.size:=hxs;refine ⟨by rw[hS];exact Or.inl rfl,fun g hg => ?_,fun ov g q1 q2 => ?_⟩
  ·rw[hS];simp at hg;have:=h.size;exact Or.inr ⟨by omega,by omega⟩
  ·rw[hkw.cell (p:=⟨x,5,none⟩) hxs] at q1
   obtain ⟨ov',e1,e2⟩:=h.out;rw[q1] at e1
   injection e1 with e1
   subst e1;obtain ⟨l,_,_,e3⟩:=e2
   have:=e3.lt g q2
   rw[hS];exact Or.inr ⟨this.1,by omega⟩
 have hpc:∀ k u,#[Value.int .i64 (f1:Int),.int .i64 (s1:Int),.int .i64 b1,.int .i64 (f2:Int),.int .i64 (s2:Int),.int .i64 b2][k]? = some u->(w.alloc (Obj.cells #[.int .i64 (f1:Int),.int .i64 (s1:Int),.int .i64 b1,.int .i64 (f2:Int),.int .i64 (s2:Int),.int .i64 b2] 129)).cell? ⟨w.heap.size,k,none⟩=some u:=by
  intro k u hu;rw[World.cell?_alloc_at _ _ _ _ rfl];exact hu
 have p0:=hpc 0 _ rfl;have p1:=hpc 1 _ rfl;have p2:=hpc 2 _ rfl;have p3:=hpc 3 _ rfl;have p4:=hpc 4 _ rfl;have p5:=hpc 5 _ rfl;have q0:=H0.out.at'.c0;have q1:=H0.out.at'.c1;have FW:Hid (∀ (W':World) (f s m:Nat) (b:Int),f<=8->1<=s->s<=8->m<=16->Calls Tryz.prog 94 #[.agg #[.int .i64 (f:Int),.int .i64 (s:Int),.int .i64 b],.int .i64 (m:Int)] W' fun r w'=>r = .returned (.int .i64 (within f s m:Int))/\Kept W' w'):=fun W' f s m b a1 a2 a3 a4=>within_any f s m b W' a1 a2 a3 a4
 clear hpc;replace hkw:Hid _:=hkw;go_enter Tryz.func67,Tryz.ntmps67;go_wp2_with fail;generalize (w.alloc (Obj.cells #[.int .i64 (f1:Int),.int .i64 (s1:Int),.int .i64 b1,.int .i64 (f2:Int),.int .i64 (s2:Int),.int .i64 b2] 129))=w0 at *;have hs0w:w.heap.size<w0.heap.size:=World.block_lt_of_cell? _ _ p0;have hx0:x<w0.heap.size:=World.block_lt_of_cell? _ _ q0;obtain ⟨cols,hcols⟩:∃ c,c=within f1 s1 W:=⟨_,rfl⟩;obtain ⟨lns,hlns⟩:∃ c,c=within f2 s2 H:=⟨_,rfl⟩;have hcb:cols<=16:=by rw[hcols];exact within_le hW
 have hlb:lns<=16:=by rw[hlns];exact within_le hH
 have FC:=fun (W':World)=>FW.out W' f1 s1 W b1 hf1 hs1 hs1' hW
 have FL:=fun (W':World)=>FW.out W' f2 s2 H b2 hf2 hs2 hs2' hH
 rw[<- hcols] at FC;rw[<- hlns] at FL;replace FC:Hid _:=FC;replace FL:Hid _:=FL;have HPLn:Hid (passLen W H (chan K) D f1 s1 f2 s2=if cols=0 then 0 else lns*(1+(cols*(chan K*D)+7) / 8)):=by show _=_;unfold passLen;rw[<- hcols,<- hlns]
 clear hcols hlns;have HPC:Hid (∀ W',LwS x N n cnt W H D K L S w W'->True):=fun _ _=>trivial
 go_region_held3 (fun W'=>W'.cell? ⟨w.heap.size,0,none⟩=some (.int .i64 (f1:Int))/\W'.cell? ⟨w.heap.size,1,none⟩=some (.int .i64 (s1:Int))/\W'.cell? ⟨w.heap.size,2,none⟩=some (.int .i64 b1)/\W'.cell? ⟨x,0,none⟩=some (.int .i64 (W:Int))) (first | exact ⟨p0,p1,p2,q0⟩ | exact hq4 | go_keep) ((go_at_call 94;refine Calls.mono (FC.out _) ?_;rintro r w1 ⟨rfl,hk1⟩;have hq4:w1.cell? ⟨w.heap.size,0,none⟩=some (.int .i64 (f1:Int))/\w1.cell? ⟨w.heap.size,1,none⟩=some (.int .i64 (s1:Int))/\w1.cell? ⟨w.heap.size,2,none⟩=some (.int .i64 b1)/\w1.cell? ⟨x,0,none⟩=some (.int .i64 (W:Int)):=⟨(hk1.cell (p:=⟨w.heap.size,0,none⟩) hs0w).trans p0,(hk1.cell (p:=⟨w.heap.size,1,none⟩) hs0w).trans p1,(hk1.cell (p:=⟨w.heap.size,2,none⟩) hs0w).trans p2,(hk1.cell (p:=⟨x,0,none⟩) hx0).trans q0⟩))
 have hK1:Kept w0 w1:=Kept.trans ((Kept.refl _).drewN 1) hk1;have r3:=(hK1.cell (p:=⟨w.heap.size,3,none⟩) hs0w).trans p3;have r4:=(hK1.cell (p:=⟨w.heap.size,4,none⟩) hs0w).trans p4;have r5:=(hK1.cell (p:=⟨w.heap.size,5,none⟩) hs0w).trans p5;have t1:=(hK1.cell (p:=⟨x,1,none⟩) hx0).trans q1;have hs1w:w.heap.size<w1.heap.size:=World.block_lt_of_cell? _ _ r3;have hx1:x<w1.heap.size:=World.block_lt_of_cell? _ _ t1;replace hK1:Hid (Kept w0 w1):=hK1;clear hk1 hq4;go_wp2_with fail;go_region_held3 (fun W'=>W'.cell? ⟨w.heap.size,3,none⟩=some (.int .i64 (f2:Int))/\W'.cell? ⟨w.heap.size,4,none⟩=some (.int .i64 (s2:Int))/\W'.cell? ⟨w.heap.size,5,none⟩=some (.int .i64 b2)/\W'.cell? ⟨x,1,none⟩=some (.int .i64 (H:Int))) (first | exact ⟨r3,r4,r5,t1⟩ | exact hq4 | go_keep) ((go_at_call 94;refine Calls.mono (FL.out _) ?_;rintro r w2 ⟨rfl,hk2⟩;have hq4:w2.cell? ⟨w.heap.size,3,none⟩=some (.int .i64 (f2:Int))/\w2.cell? ⟨w.heap.size,4,none⟩=some (.int .i64 (s2:Int))/\w2.cell? ⟨w.heap.size,5,none⟩=some (.int .i64 b2)/\w2.cell? ⟨x,1,none⟩=some (.int .i64 (H:Int)):=⟨(hk2.cell (p:=⟨w.heap.size,3,none⟩) hs1w).trans r3,(hk2.cell (p:=⟨w.heap.size,4,none⟩) hs1w).trans r4,(hk2.cell (p:=⟨w.heap.size,5,none⟩) hs1w).trans r5,(hk2.cell (p:=⟨x,1,none⟩) hx1).trans t1⟩))
 have HK2:Hid (Kept w0 w2):=hK1.out.trans (Kept.trans ((Kept.refl _).drewN 1) hk2);have H2:Hid (LwS x N n cnt W H D K L S w w2):=H0.out.kept HK2.out;have HP2:Hid ((∀ k u,#[Value.int .i64 (f1:Int),.int .i64 (s1:Int),.int .i64 b1,.int .i64 (f2:Int),.int .i64 (s2:Int),.int .i64 b2][k]? = some u->w2.cell? ⟨w.heap.size,k,none⟩=some u)):=by
  intro k u hu
  have:k=0\/k=1\/k=2\/k=3\/k=4\/k=5:=by
   have:=(Array.getElem?_eq_some_iff.1 hu).1
   simp at this;omega
  rcases this with rfl | rfl | rfl | rfl | rfl | rfl
  ·rw[HK2.out.cell (p:=⟨w.heap.size,0,none⟩) hs0w,p0,<- hu];rfl
  ·rw[HK2.out.cell (p:=⟨w.heap.size,1,none⟩) hs0w,p1,<- hu];rfl
  ·rw[HK2.out.cell (p:=⟨w.heap.size,2,none⟩) hs0w,p2,<- hu];rfl
  ·rw[HK2.out.cell (p:=⟨w.heap.size,3,none⟩) hs0w,p3,<- hu];rfl
  ·rw[HK2.out.cell (p:=⟨w.heap.size,4,none⟩) hs0w,p4,<- hu];rfl
  ·rw[HK2.out.cell (p:=⟨w.heap.size,5,none⟩) hs0w,p5,<- hu];rfl
 clear hk2 hq4 r3 r4 r5 t1 p0 p1 p2 p3 p4 p5 q0 q1 hK1 FC FL FW H0;by_cases hc0:cols=0
 ·subst hc0
  go_wp2;refine bodyPost_ret (results_none rfl _ _ _) rfl ?_;exact ⟨rfl,cnt,by omega,by have e:=HPLn.out;simp only [if_true] at e;rw[e];exact H2.out.at',H2.out.fr.mono (fun i _ e=>hSN i e)⟩
 ·rw[if_neg hc0] at HPLn
  have hc0':((cols:Int) == 0)=false:=by rw[beq_eq_false_iff_ne];omega
  have FPB:=pbits_any x N n cnt W H D K L w2 H2.out.at' hk;have hPb:chan K*D<=64:=Nat.le_trans (Nat.mul_le_mul (@chan_le K).2 (show D<=16 by have:=hk.d;omega)) (by decide);generalize chan K*D=PB at *;replace FPB:Hid (Calls Tryz.prog 95 #[.pointer (some ⟨x,0,none⟩)] w2 fun r w'=>r = .returned (.int .i64 (PB:Int))/\Kept w2 w'):=FPB;have hQb:cols*PB<=1024:=Nat.le_trans (Nat.mul_le_mul hcb hPb) (by decide);have eQ:(cols:Int)*(PB:Int)=((cols*PB:Nat):Int):=by simp
  generalize cols*PB=Q at *;obtain ⟨Z,hZ⟩:∃ Z,Z=(Q+7) / 8:=⟨_,rfl⟩;rw[<- hZ] at HPLn;have eZ:((Q:Int)+7) / 8=(Z:Int):=by omega
  have hZb:Z<=128:=by omega
  clear hZ;go_wp2_with fail;refine FPB.out.mono ?_;rintro r w3 ⟨rfl,hk3⟩;have H3:Hid (LwS x N n cnt W H D K L S w w3):=H2.out.kept hk3;have hth:Hid (w3.there x 135 (Tryz.zeroCells85).toList.length):=by
   intro j hj;rw[len128] at hj;obtain ⟨z,_,_,hz⟩:=H3.out.at'.abv j hj;exact ⟨by rw[hz];rfl,H3.out.at'.fz _⟩
  have hsc:(storeCells ⟨x,135,none⟩ (Tryz.zeroCells85).toList).run Tryz.prog w3 = .ok () (w3.setCells x 135 (Tryz.zeroCells85).toList):=store_there hth.out (ints_one len128 zeros128);have H4:Hid (LwS x N n cnt W H D K L S w (w3.setCells x 135 (Tryz.zeroCells85).toList)):=H3.out.lx ⟨H3.out.at'.lay 135 (Or.inr rfl) _ len128 zeros128,Fr.setCells (S:=fun k=>k=x) (Fr.refl _ _) (Or.inl rfl) _ _ (Fr.refl _ _),World.cell?_setCells_out x _ 135 _ ⟨x,5,none⟩ (fun _ _=>Or.inl (by show 5<135;omega))⟩;have hs2w:w.heap.size<w2.heap.size:=World.block_lt_of_cell? _ _ (HP2.out 0 _ rfl);have HP4:Hid ((∀ k u,#[Value.int .i64 (f1:Int),.int .i64 (s1:Int),.int .i64 b1,.int .i64 (f2:Int),.int .i64 (s2:Int),.int .i64 b2][k]? = some u->(w3.setCells x 135 (Tryz.zeroCells85).toList).cell? ⟨w.heap.size,k,none⟩=some u)):=by
   intro k u hu;rw[World.cell?_setCells_out x _ 135 _ ⟨w.heap.size,k,none⟩ (fun e _=>by simp at e;omega),hk3.cell (p:=⟨w.heap.size,k,none⟩) hs2w];exact HP2.out k u hu
  clear hk3 hth H2 HP2;go_wp2;generalize w3.setCells x 135 (Tryz.zeroCells85).toList=w4 at *;clear hsc;have hs4w:w.heap.size<w4.heap.size:=World.block_lt_of_cell? _ _ (HP4.out 0 _ rfl);have HPX:Hid (∀ W',Fr S w W'->LAt W' .i64 (.slice pp pl.length pc) pl/\LAt W' .i64 (.slice cp cl.length cc) cl):=fun W' f=>⟨hp.fr f (fun g hg e=>hpS g hg (hSN g e)),hc.fr f (fun g hg e=>hcS g hg (hSN g e))⟩
  have FR:Hid (∀ (W':World) (m c' j:Nat),LwS x N m c' W H D K L S w W'->j<=16->Calls Tryz.prog 96 #[.pointer (some ⟨x,0,none⟩),.agg #[.int .i64 (f1:Int),.int .i64 (s1:Int),.int .i64 b1,.int .i64 (f2:Int),.int .i64 (s2:Int),.int .i64 b2],.int .i64 (j:Int),.int .i64 (cols:Int),.slice pp pl.length pc] W' fun r w'=>r = .returned (.tuple #[])/\Lx x N m c' W H D K L W' w'):=fun W' m c' j hW' hj=>layRow_any x N m c' W H D K L f1 s1 f2 s2 j cols b1 b2 _ pl W' hW'.at' hk hW hf1 hs1' hf2 hs2' hj hcb (HPX.out W' hW'.fr).1 hpS hpl hpv
  have FT:Hid (∀ (W':World) (k:Nat),Fr S w W'->k<=131072->Calls Tryz.prog 71 #[.slice cp cl.length cc,.int .i64 (k:Int)] W' fun r w'=>r = .returned (.int .i64 (cl.getD (k % cl.length) 0))/\Kept W' w'):=fun W' k f hk'=>turns_any _ cl k W' (HPX.out W' f).2 hcl0 (by omega) (by omega)
  have FWr:Hid (∀ (W':World) (m c' fl:Nat),LwS x N m c' W H D K L S w W'->fl<=4->m<=1048576->Calls Tryz.prog 97 #[.pointer (some ⟨x,0,none⟩),.int .u8 (fl:Int),.int .i64 (Z:Int)] W' fun r w'=>r = .returned (.tuple #[])/\LwS x N (m+1+Z) c' W H D K L S W' w'):=fun W' m c' fl hW' hfl hm=>writeRow_any x N m c' W H D K L fl Z W' hW'.at' hk hfl hZb hm S hW'.ls
  have HCV:Hid (∀ y ∈ cl,0<=y/\y<=4):=hcv;clear hp hc hpS hcS hpv hcv h H3;replace hS:Hid _:=hS;replace hSN:Hid (∀ g,S g->g=x\/N<=g):=hSN;replace hSs:Hid (¬ S w.heap.size):=hSs;rw[eZ];go_loopw [11] (fun v W'=>∃ i:Nat,i<=lns/\v = .int .i64 (i:Int)/\LwS x N (n+i*(1+Z)) (cnt+i) W H D K L S w W'/\(∀ k u,#[Value.int .i64 (f1:Int),.int .i64 (s1:Int),.int .i64 b1,.int .i64 (f2:Int),.int .i64 (s2:Int),.int .i64 b2][k]? = some u->W'.cell? ⟨w.heap.size,k,none⟩=some u)) (fun v _=>lns - (intOf v).toNat)
  case atStart=>exact ⟨0,by omega,rfl,by rw[Nat.zero_mul];exact H4.out,HP4.out⟩
  case round=>
   obtain ⟨i,hi,rfl,hL,hP⟩:=hrel;clear H4 HP4;by_cases hlt:i<lns
   ·have hlt':(i:Int)<(lns:Int):=by omega
    have p0:=hP 0 _ rfl;have p1:=hP 1 _ rfl;have p2:=hP 2 _ rfl;have p3:=hP 3 _ rfl;have p4:=hP 4 _ rfl;have p5:=hP 5 _ rfl;have hsr:w.heap.size<wr.heap.size:=World.block_lt_of_cell? _ _ p0;have hmZ:i*(1+Z)<=2064:=Nat.le_trans (Nat.mul_le_mul (show i<=16 by omega) (show 1+Z<=129 by omega)) (by decide);have hsu:=Nat.succ_mul i (1+Z);obtain ⟨m,hm⟩:∃ m,m=n+i*(1+Z):=⟨_,rfl⟩;rw[<- hm] at hL;have HMn:Hid (n+(i+1)*(1+Z)=m+1+Z):=by show _=_;rw[hsu];omega
    have hmb:m<=67700:=by omega
    clear hm hsu hmZ;have F1:=FR.out wr m (cnt+i) i hL (by omega);replace F1:Hid (Calls Tryz.prog 96 #[.pointer (some ⟨x,0,none⟩),.agg #[.int .i64 (f1:Int),.int .i64 (s1:Int),.int .i64 b1,.int .i64 (f2:Int),.int .i64 (s2:Int),.int .i64 b2],.int .i64 (i:Int),.int .i64 (cols:Int),.slice pp pl.length pc] wr fun r w'=>r = .returned (.tuple #[])/\Lx x N m (cnt+i) W H D K L wr w'):=F1;replace hL:Hid (LwS x N m (cnt+i) W H D K L S w wr):=hL;replace hP:Hid _:=hP;obtain ⟨ct,hct⟩:∃ ct,ct=cnt+i:=⟨_,rfl⟩;rw[<- hct] at F1 hL;have hctb:ct<=65552:=by omega
    replace hct:Hid (ct=cnt+i):=hct;go_wp2_with fail;refine F1.out.mono ?_;rintro r w5 ⟨rfl,hx5⟩;have L5:Hid (LwS x N m ct W H D K L S w w5):=hL.out.lx hx5;have f5:Hid (Fr S wr w5):=hx5.fr.mono (fun g _ e=>by rw[e];exact L5.out.ls.sx);have c6:=L5.out.at'.cn;clear hx5 p0 p1 p2 p3 p4 p5;go_wp2_with fail;refine (FT.out w5 ct L5.out.fr (by omega)).mono ?_;rintro r w6 ⟨rfl,hk6⟩;obtain ⟨fl,hfl⟩:∃ fl:Nat,cl.getD (ct % cl.length) 0=(fl:Int)/\fl<=4:=by
     have:=HCV.out _ (getD_mem (Nat.mod_lt ct hcl0))
     exact ⟨(cl.getD (ct % cl.length) 0).toNat,by omega,by omega⟩
    rw[hfl.1];have hfl4:=hfl.2;clear hfl;have L6:Hid (LwS x N m ct W H D K L S w w6):=L5.out.kept hk6;have f6:Hid (Fr S wr w6):=f5.out.kept hk6;clear hk6 c6;go_wp2_with fail;refine (FWr.out w6 m ct fl L6.out hfl4 (by omega)).mono ?_;rintro r w7 ⟨rfl,hw7⟩;have L7:Hid (LwS x N (m+1+Z) ct W H D K L S w w7):=L6.out.trans hw7;have f7:Hid (Fr S wr w7):=f6.out.trans hw7.fr;clear hw7;obtain ⟨rs,hrl,hrr,hrz⟩:=L7.out.at'.row.list;have hone:Hid (∀ v ∈ rs,v.oneCell'=true):=ints_one hrl hrz;have hth:Hid (w7.there x 135 rs.length):=by
     intro j hj;rw[hrl] at hj;obtain ⟨z,_,_,hz⟩:=L7.out.at'.abv j hj;exact ⟨by rw[hz];rfl,L7.out.at'.fz _⟩
    have hsc:(storeCells ⟨x,135,none⟩ rs).run Tryz.prog w7 = .ok () (w7.setCells x 135 rs):=store_there hth.out hone.out;have hi128:Hid ((Tryz.prog.info? 85).map (·.size)=some rs.length):=by show _=_;rw[hrl];exact size128
    have L8:Hid (LwS x N (m+1+Z) ct W H D K L S w (w7.setCells x 135 rs)):=L7.out.lx ⟨L7.out.at'.lay 135 (Or.inr rfl) _ hrl hrz,Fr.setCells (S:=fun k=>k=x) (Fr.refl _ _) (Or.inl rfl) _ _ (Fr.refl _ _),World.cell?_setCells_out x _ 135 _ ⟨x,5,none⟩ (fun _ _=>Or.inl (by show 5<135;omega))⟩;have f8:Hid (Fr S wr (w7.setCells x 135 rs)):=Fr.setCells f7.out (Or.inl L7.out.ls.sx) _ _ f7.out;have c68:=L8.out.at'.cn;have z68:=L8.out.at'.fz 6;replace hrr:Hid _:=hrr;replace hrz:Hid _:=hrz;have hrl':=hrl;clear hone hth;go_wp2;refine wp_load_mid 85 _ rfl x 7 rfl rs _ hrr.out Tryz.underlying85 rfl hi128.out ?_;go_wp2;generalize w7.setCells x 135 rs=w8 at *;have ec:(ct:Int)+1=((ct+1:Nat):Int):=by simp
    rw[ec];refine ⟨⟨i+1,by omega,by go_num,?_,?_⟩,by simp [intOf];omega⟩
    ·rw[HMn.out,show cnt+(i+1)=ct+1 by have:=hct.out;omega]
     exact L8.out.lx ⟨L8.out.at'.setCnt (ct+1),Fr1.set (Fr1.refl x _) _ _,cell_set_other _ _ _ _ _ (by omega)⟩
    ·intro k u hu
     exact ((f8.out.setCell (Or.inl L8.out.ls.sx) _ _).cell hsr hSs.out).trans (hP.out k u hu)
   ·have hie:i=lns:=by omega
    have hlt':¬ (i:Int)<(lns:Int):=by omega
    have HN:Hid (n+passLen W H (chan K) D f1 s1 f2 s2=n+i*(1+Z)):=by show _=_;rw[HPLn.out,hie]
    replace hL:Hid (LwS x N (n+i*(1+Z)) (cnt+i) W H D K L S w wr):=hL;replace hP:Hid _:=hP;go_wp2;go_end0
    exact ⟨rfl,cnt+i,by omega,by rw[HN.out];exact hL.out.at',hL.out.fr.mono (fun g _ e=>hSN.out g e)⟩
