import Derived.Test.YtmbmecfodigciaaGreatDoorTu30
set_option maxRecDepth 100000
set_option maxHeartbeats 6400000
namespace Go.Proofs.YtmbmecfodigciaaGreatDoor
open Go.RowKit Px
set_option linter.unusedSimpArgs false
set_option linter.unusedVariables false
theorem writePass0_b (x N cnt W H D K L f1 s1 f2 s2:Nat) (b1 b2:Int) (pv cv:Value) (pl cl o:List Int) (row abv:Nat->Nat) (w:World) (h:LwB w x N cnt W H D K L o row abv) (hW:W<=16) (hH:H<=16) (hf1:f1<=8) (hs1:1<=s1) (hs1':s1<=8) (hf2:f2<=8) (hs2:1<=s2) (hs2':s2<=8) (hp:LAt w .i64 pv pl) (hc:LAt w .i64 cv cl) (hcN:within f1 s1 W=0) :
  Calls Tryz.prog 96 #[.pointer (some ⟨x,0,none⟩),.agg #[.int .i64 (f1:Int),.int .i64 (s1:Int),.int .i64 b1,.int .i64 (f2:Int),.int .i64 (s2:Int),.int .i64 b2],pv,cv] w fun r w'=>r = .returned (.tuple #[])/\LwB w' x N cnt W H D K L o row abv/\FrN x N w w':=by
 obtain ⟨pp,pc,rfl⟩:=hp.form
 obtain ⟨cp,cc,rfl⟩:=hc.form
 have hkw:Kept w (w.alloc (Obj.cells #[.int .i64 (f1:Int),.int .i64 (s1:Int),.int .i64 b1,.int .i64 (f2:Int),.int .i64 (s2:Int),.int .i64 b2] 146)):=Below.alloc (Below.refl _ _) (Nat.le_refl _) _
 obtain ⟨S,hS⟩:∃ S:Nat->Prop,S=fun g=>g=x\/(N<=g/\g≠w.heap.size):=⟨_,rfl⟩
 have hxs:x<w.heap.size:=Nat.lt_of_lt_of_le h.lt h.size
 have hSN:∀ g,S g->g=x\/N<=g:=by intro g hg;rw[hS] at hg;rcases hg with e | ⟨e,_⟩;exact Or.inl e;exact Or.inr e
 have hSs:¬ S w.heap.size:=by rw[hS];rintro (e | ⟨_,e⟩);omega;exact e rfl
 have H0:Hid (LwSB x N cnt W H D K L o row abv S w (w.alloc (Obj.cells #[.int .i64 (f1:Int),.int .i64 (s1:Int),.int .i64 b1,.int .i64 (f2:Int),.int .i64 (s2:Int),.int .i64 b2] 146))):=by
  refine ⟨h.kept hkw,Fr.of_kept hkw,?_⟩
  have hx5:x<w.heap.size:=hxs
  refine ⟨by rw[hS];exact Or.inl rfl,fun g hg => ?_,fun ov g q1 q2 => ?_⟩
  ·rw[hS];simp at hg;have:=h.size;exact Or.inr ⟨by omega,by omega⟩
  ·rw[hkw.cell (p:=⟨x,5,none⟩) hxs] at q1
   obtain ⟨ov',e1,e2⟩:=h.out
   rw[q1] at e1
   injection e1 with e1
   subst e1
   have:=e2.2.lt g q2
   rw[hS];exact Or.inr ⟨this.1,by omega⟩
 have hpc:∀ k u,#[Value.int .i64 (f1:Int),.int .i64 (s1:Int),.int .i64 b1,.int .i64 (f2:Int),.int .i64 (s2:Int),.int .i64 b2][k]? = some u->(w.alloc (Obj.cells #[.int .i64 (f1:Int),.int .i64 (s1:Int),.int .i64 b1,.int .i64 (f2:Int),.int .i64 (s2:Int),.int .i64 b2] 146)).cell? ⟨w.heap.size,k,none⟩=some u:=by
  intro k u hu
  rw[World.cell?_alloc_at _ _ _ _ rfl]
  exact hu
 have p0:=hpc 0 _ rfl
 have p1:=hpc 1 _ rfl
 have p2:=hpc 2 _ rfl
 have p3:=hpc 3 _ rfl
 have p4:=hpc 4 _ rfl
 have p5:=hpc 5 _ rfl
 have q0:=H0.out.lw.c0
 have q1:=H0.out.lw.c1
 have FW:Hid (∀ (W':World) (f s m:Nat) (b:Int),f<=8->1<=s->s<=8->m<=16->Calls Tryz.prog 129 #[.agg #[.int .i64 (f:Int),.int .i64 (s:Int),.int .i64 b],.int .i64 (m:Int)] W' fun r w'=>r = .returned (.int .i64 (within f s m:Int))/\Kept W' w'):=fun W' f s m b a1 a2 a3 a4=>within_any f s m b W' a1 a2 a3 a4
 clear hpc
 replace hkw:Hid _:=hkw
 go_enter Tryz.func96,Tryz.ntmps96
 go_wp2_with fail
 generalize (w.alloc (Obj.cells #[.int .i64 (f1:Int),.int .i64 (s1:Int),.int .i64 b1,.int .i64 (f2:Int),.int .i64 (s2:Int),.int .i64 b2] 146))=w0 at *
 have hs0w:w.heap.size<w0.heap.size:=World.block_lt_of_cell? _ _ p0
 have hx0:x<w0.heap.size:=World.block_lt_of_cell? _ _ q0
 obtain ⟨cols,hcols⟩:∃ c,c=within f1 s1 W:=⟨_,rfl⟩
 obtain ⟨lns,hlns⟩:∃ c,c=within f2 s2 H:=⟨_,rfl⟩
 have hcb:cols<=16:=by rw[hcols];exact within_le hW
 have hlb:lns<=16:=by rw[hlns];exact within_le hH
 have FC:=fun (W':World)=>FW.out W' f1 s1 W b1 hf1 hs1 hs1' hW
 have FL:=fun (W':World)=>FW.out W' f2 s2 H b2 hf2 hs2 hs2' hH
 rw[<- hcols] at FC
 rw[<- hlns] at FL
 replace FC:Hid _:=FC
 replace FL:Hid _:=FL
 replace hlns:Hid (lns=within f2 s2 H):=hlns
 have hcz:cols=0:=hcols.trans hcN
 clear hcols
 go_region_held3 (fun W'=>W'.cell? ⟨w.heap.size,0,none⟩=some (.int .i64 (f1:Int))/\W'.cell? ⟨w.heap.size,1,none⟩=some (.int .i64 (s1:Int))/\W'.cell? ⟨w.heap.size,2,none⟩=some (.int .i64 b1)/\W'.cell? ⟨x,0,none⟩=some (.int .i64 (W:Int))) (first | exact ⟨p0,p1,p2,q0⟩ | exact hq4 | go_keep) ((go_at_call 129;refine Calls.mono (FC.out _) ?_;rintro r w1 ⟨rfl,hk1⟩;have hq4:w1.cell? ⟨w.heap.size,0,none⟩=some (.int .i64 (f1:Int))/\w1.cell? ⟨w.heap.size,1,none⟩=some (.int .i64 (s1:Int))/\w1.cell? ⟨w.heap.size,2,none⟩=some (.int .i64 b1)/\w1.cell? ⟨x,0,none⟩=some (.int .i64 (W:Int)):=⟨(hk1.cell (p:=⟨w.heap.size,0,none⟩) hs0w).trans p0,(hk1.cell (p:=⟨w.heap.size,1,none⟩) hs0w).trans p1,(hk1.cell (p:=⟨w.heap.size,2,none⟩) hs0w).trans p2,(hk1.cell (p:=⟨x,0,none⟩) hx0).trans q0⟩))
 have hK1:Kept w0 w1:=Kept.trans ((Kept.refl _).drewN 1) hk1
 have r3:=(hK1.cell (p:=⟨w.heap.size,3,none⟩) hs0w).trans p3
 have r4:=(hK1.cell (p:=⟨w.heap.size,4,none⟩) hs0w).trans p4
 have r5:=(hK1.cell (p:=⟨w.heap.size,5,none⟩) hs0w).trans p5
 have t1:=(hK1.cell (p:=⟨x,1,none⟩) hx0).trans q1
 have hs1w:w.heap.size<w1.heap.size:=World.block_lt_of_cell? _ _ r3
 have hx1:x<w1.heap.size:=World.block_lt_of_cell? _ _ t1
 replace hK1:Hid (Kept w0 w1):=hK1
 clear hk1 hq4
 go_wp2_with fail
 go_region_held3 (fun W'=>W'.cell? ⟨w.heap.size,3,none⟩=some (.int .i64 (f2:Int))/\W'.cell? ⟨w.heap.size,4,none⟩=some (.int .i64 (s2:Int))/\W'.cell? ⟨w.heap.size,5,none⟩=some (.int .i64 b2)/\W'.cell? ⟨x,1,none⟩=some (.int .i64 (H:Int))) (first | exact ⟨r3,r4,r5,t1⟩ | exact hq4 | go_keep) ((go_at_call 129;refine Calls.mono (FL.out _) ?_;rintro r w2 ⟨rfl,hk2⟩;have hq4:w2.cell? ⟨w.heap.size,3,none⟩=some (.int .i64 (f2:Int))/\w2.cell? ⟨w.heap.size,4,none⟩=some (.int .i64 (s2:Int))/\w2.cell? ⟨w.heap.size,5,none⟩=some (.int .i64 b2)/\w2.cell? ⟨x,1,none⟩=some (.int .i64 (H:Int)):=⟨(hk2.cell (p:=⟨w.heap.size,3,none⟩) hs1w).trans r3,(hk2.cell (p:=⟨w.heap.size,4,none⟩) hs1w).trans r4,(hk2.cell (p:=⟨w.heap.size,5,none⟩) hs1w).trans r5,(hk2.cell (p:=⟨x,1,none⟩) hx1).trans t1⟩))
 have HK2:Hid (Kept w0 w2):=hK1.out.trans (Kept.trans ((Kept.refl _).drewN 1) hk2)
 have H2:Hid (LwSB x N cnt W H D K L o row abv S w w2):=H0.out.kept HK2.out
 clear hk2 hq4 r3 r4 r5 t1 p0 p1 p2 p3 p4 p5 q0 q1 hK1 FC FL FW H0
 subst hcz
 replace hSN:Hid _:=hSN
 go_wp2
 refine bodyPost_ret (results_none rfl _ _ _) rfl ?_
 exact ⟨rfl,H2.out.lw,H2.out.fr.mono (fun g _ e=>hSN.out g e)⟩
def befP (h:Hd):Nat->Nat
 | 0=>0
 | p+1=>befP h p+(if colsP h p=0 then 0 else linesP h p)
def fpB (h:Hd) (pl fl:List Int) (p:Nat):List Int:=if colsP h p=0 then [] else passB h.W h.K h.D (psOf h.L p).cf (psOf h.L p).cs (psOf h.L p).rf (psOf h.L p).rs pl fl (befP h p) (linesP h p)
def allB (h:Hd) (pl fl:List Int):Nat->List Int
 | 0=>[]
 | p+1=>allB h pl fl p++fpB h pl fl p
theorem szs (c m:Nat) (hm:m<=64):(c*m+7) / 8<=8*c:=by
 have:=Nat.mul_le_mul_left c hm
 omega
theorem fpB_len (h:Hd) (pl fl:List Int) (p:Nat) (hk:legal h.K h.D):(fpB h pl fl p).length<=linesP h p*(1+8*colsP h p):=by
 unfold fpB
 split
 ·exact Nat.zero_le _
 ·rw[passB_len]
  refine Nat.mul_le_mul_left _ ?_
  have hPB:chan h.K*h.D<=64:=Nat.le_trans (Nat.mul_le_mul (@chan_le h.K).2 (show h.D<=16 by have:=hk.d;omega)) (by decide)
  have:=szs (within (psOf h.L p).cf (psOf h.L p).cs h.W) (chan h.K*h.D) hPB
  show 1+(within (psOf h.L p).cf (psOf h.L p).cs h.W*(chan h.K*h.D)+7) / 8<=1+8*within (psOf h.L p).cf (psOf h.L p).cs h.W
  omega
def totP (h:Hd):Nat->Nat
 | 0=>0
 | p+1=>totP h p+linesP h p*(1+8*colsP h p)
theorem allB_len (h:Hd) (pl fl:List Int) (hk:legal h.K h.D):∀ n,(allB h pl fl n).length<=totP h n
 | 0=>Nat.le_refl _
 | n+1=>by
  show (allB h pl fl n++fpB h pl fl n).length<=totP h n+_
  rw[List.length_append]
  have:=allB_len h pl fl hk n
  have:=fpB_len h pl fl n hk
  omega
theorem tot_all:∀ L,L<2->∀ W,W<17->∀ H,H<17->totP ⟨W,H,0,0,L⟩ (cntP L)<=2078:=by decide +kernel
theorem tot_same (W H D K L:Nat):∀ n,totP ⟨W,H,D,K,L⟩ n=totP ⟨W,H,0,0,L⟩ n
 | 0=>rfl
 | n+1=>by
  show totP ⟨W,H,D,K,L⟩ n+_=totP ⟨W,H,0,0,L⟩ n+_
  rw[tot_same W H D K L n];rfl
theorem tot_mono (h:Hd) (n m:Nat) (hnm:n<=m):totP h n<=totP h m:=by
 induction hnm with
 | refl=>exact Nat.le_refl _
 | step _ ih=>exact Nat.le_trans ih (Nat.le_add_right _ _)
theorem all_small {h:Hd} (hk:legal h.K h.D) (hW:h.W<=16) (hH:h.H<=16) (hL:h.L<=1) (pl fl:List Int) (n:Nat) (hn:n<=cntP h.L):(allB h pl fl n).length<=2078:=by
 have h1:=allB_len h pl fl hk n
 have h2:=tot_mono h n (cntP h.L) hn
 have h3:=tot_all h.L (by omega) h.W (by omega) h.H (by omega)
 rw[<- tot_same h.W h.H h.D h.K h.L] at h3
 have h4:totP ⟨h.W,h.H,h.D,h.K,h.L⟩ (cntP h.L)=totP h (cntP h.L):=rfl
 omega
theorem bef_le {h:Hd} (hH:h.H<=16):∀ n,befP h n<=16*n
 | 0=>Nat.le_refl _
 | n+1=>by
  have h1:=bef_le hH n
  have h2:=linesP_le hH n
  show befP h n+(if colsP h n=0 then 0 else linesP h n)<=_
  split<;>omega
theorem in_pass (h:Hd) (p i c k C:Nat) (hi:i<linesP h p) (hc:c<colsP h p) (hk:k<C):(((psOf h.L p).rf+i*(psOf h.L p).rs)*h.W+((psOf h.L p).cf+c*(psOf h.L p).cs))*C+k<h.W*h.H*C:=by
 have h1:=wthn_in (psOf_ok h.L p).2.2.2.2.2.1 hi
 have h2:=wthn_in (psOf_ok h.L p).2.1 hc
 have:=in_pix h.W h.H C ((psOf h.L p).rf+i*(psOf h.L p).rs) ((psOf h.L p).cf+c*(psOf h.L p).cs) k h1 h2 hk
 rw[Nat.zero_add,Nat.mul_one,Nat.zero_add,Nat.mul_one] at this
 exact this
theorem bytes_x (W H D K L:Nat) (pv cv:Value) (pl cl:List Int) (w:World) (hk:legal K D) (hW1:1<=W) (hH1:1<=H) (hW:W<=16) (hH:H<=16) (hL:L<=1) (hG:GrdAt w) (hp:LAt w .i64 pv pl) (hpb:∀ g,sliceBlock pv=some g->g<w.heap.size) (hpL:pl.length=W*H*chan K) (hpv:∀ y ∈ pl,0<=y/\y<65536) (hc:LAt w .i64 cv cl) (hcb:∀ g,sliceBlock cv=some g->g<w.heap.size) (hcl0:0<cl.length) (hcl:cl.length<=64) (hcv:∀ y ∈ cl,0<=y/\y<=4) :
  Calls Tryz.prog 68 #[.agg #[.int .i64 (W:Int),.int .i64 (H:Int),.int .i64 (D:Int),.int .i64 (K:Int),.int .i64 (L:Int)],pv,cv] w fun r w'=>∃ ov,r = .returned ov/\OwnB w' w.heap.size ov (allB ⟨W,H,D,K,L⟩ pl cl (cntP L))/\Kept w w':=by
 have hpl:pl.length<=65536:=by rw[hpL];exact Nat.le_trans (Nat.mul_le_mul (Nat.mul_le_mul hW hH) (@chan_le K).2) (by decide)
 obtain ⟨pp,pc,rfl⟩:=hp.form
 obtain ⟨cp,cc,rfl⟩:=hc.form
 obtain ⟨A,hAe,hAl,a0,a1,a2,a3,a4,a5,a6,a7,aone⟩:=lay_lines W H D K L
 have hT:Hid (((w.alloc (Obj.cells #[.int .i64 (W:Int),.int .i64 (H:Int),.int .i64 (D:Int),.int .i64 (K:Int),.int .i64 (L:Int)] 71)).alloc (Obj.cells Tryz.zeroCells142 142)).there (w.heap.size+1) 0 A.length):=by
  intro j hj
  refine ⟨?_,World.frozen?_alloc_at _ _ _ _ (by simp)⟩
  rw[World.cell?_alloc_at _ _ _ _ (by simp)]
  have:j<(Tryz.zeroCells142).size:=by have:=size263;rw[Array.length_toList] at this;omega
  show ((Tryz.zeroCells142)[0+j]?).isSome=true
  rw[Nat.zero_add,Array.getElem?_eq_getElem this];rfl
 have hsc:(storeCells ⟨w.heap.size+1,0,none⟩ A).run Tryz.prog ((w.alloc (Obj.cells #[.int .i64 (W:Int),.int .i64 (H:Int),.int .i64 (D:Int),.int .i64 (K:Int),.int .i64 (L:Int)] 71)).alloc (Obj.cells Tryz.zeroCells142 142)) = .ok () (((w.alloc (Obj.cells #[.int .i64 (W:Int),.int .i64 (H:Int),.int .i64 (D:Int),.int .i64 (K:Int),.int .i64 (L:Int)] 71)).alloc (Obj.cells Tryz.zeroCells142 142)).setCells (w.heap.size+1) 0 A):=store_there hT.out aone
 have hR:Hid ((((w.alloc (Obj.cells #[.int .i64 (W:Int),.int .i64 (H:Int),.int .i64 (D:Int),.int .i64 (K:Int),.int .i64 (L:Int)] 71)).alloc (Obj.cells Tryz.zeroCells142 142)).setCells (w.heap.size+1) 0 A).rangeAt (w.heap.size+1) 0 A):=World.rangeAt_setCells_same _ _ _ _ hT.out
 have hF:Hid (∀ k,(((w.alloc (Obj.cells #[.int .i64 (W:Int),.int .i64 (H:Int),.int .i64 (D:Int),.int .i64 (K:Int),.int .i64 (L:Int)] 71)).alloc (Obj.cells Tryz.zeroCells142 142)).setCells (w.heap.size+1) 0 A).frozen? ⟨w.heap.size+1,k,none⟩=false):=fun k=>by rw[World.frozen?_setCells];exact World.frozen?_alloc_at _ _ _ _ (by simp)
 have hK:Hid (Kept w (((w.alloc (Obj.cells #[.int .i64 (W:Int),.int .i64 (H:Int),.int .i64 (D:Int),.int .i64 (K:Int),.int .i64 (L:Int)] 71)).alloc (Obj.cells Tryz.zeroCells142 142)).setCells (w.heap.size+1) 0 A)):=Kept.setCells (by omega) _ _ (Below.alloc (Below.alloc (Below.refl _ _) (Nat.le_refl _) _) (by simp) _)
 have hsz:Hid ((((w.alloc (Obj.cells #[.int .i64 (W:Int),.int .i64 (H:Int),.int .i64 (D:Int),.int .i64 (K:Int),.int .i64 (L:Int)] 71)).alloc (Obj.cells Tryz.zeroCells142 142)).setCells (w.heap.size+1) 0 A).heap.size=w.heap.size+2):=by show _=_;rw[setCells_size];simp
 have hh4:(((w.alloc (Obj.cells #[.int .i64 (W:Int),.int .i64 (H:Int),.int .i64 (D:Int),.int .i64 (K:Int),.int .i64 (L:Int)] 71)).alloc (Obj.cells Tryz.zeroCells142 142)).setCells (w.heap.size+1) 0 A).cell? ⟨w.heap.size,4,none⟩=some (.int .i64 (L:Int)):=by
  rw[World.cell?_setCells_out _ _ _ _ ⟨w.heap.size,4,none⟩ (fun e _=>by simp at e),World.cell?_alloc_lt _ _ _ (by simp),World.cell?_alloc_at _ _ _ _ rfl];rfl
 have FC:Hid (∀ W':World,Calls Tryz.prog 94 #[.int .i64 (L:Int)] W' fun r w'=>r = .returned (.int .i64 ((if L=1 then 7 else 1:Nat):Int))/\w'=W'):=fun W'=>count_any L W' hL
 obtain ⟨hh,hhh⟩:∃ hh:Hd,hh=⟨W,H,D,K,L⟩:=⟨_,rfl⟩
 obtain ⟨Cn,hCn⟩:∃ Cn,Cn=cntP L:=⟨_,rfl⟩
 have hCe:(if L=1 then 7 else 1:Nat)=Cn:=by rw[hCn];rfl
 rw[hCe] at FC
 have hCb:1<=Cn/\Cn<=7:=by rw[hCn];exact cnt7 hL
 have HIn:Hid (∀ p i c k,i<linesP hh p->c<colsP hh p->k<chan K->(((psOf L p).rf+i*(psOf L p).rs)*W+((psOf L p).cf+c*(psOf L p).cs))*chan K+k<pl.length):=fun p i c k h1 h2 h3=>by rw[hpL];subst hhh;exact in_pass _ p i c k (chan K) h1 h2 h3
 have HSm:Hid (∀ n,n<=Cn->(allB hh pl cl n).length<=2078):=fun n hn=>by subst hhh;exact all_small (h:=⟨W,H,D,K,L⟩) hk hW hH hL pl cl n (by rw[hCn] at hn;exact hn)
 have HBf:Hid (∀ n,befP hh n<=16*n):=by subst hhh;exact bef_le (h:=⟨W,H,D,K,L⟩) hH
 have HAl:Hid (∀ n,allB hh pl cl (n+1)=allB hh pl cl n++fpB hh pl cl n):=fun _=>rfl
 have HFp:Hid (∀ p,colsP hh p≠0->fpB hh pl cl p=passB W K D (psOf L p).cf (psOf L p).cs (psOf L p).rf (psOf L p).rs pl cl (befP hh p) (linesP hh p)/\befP hh (p+1)=befP hh p+linesP hh p/\linesP hh p=within (psOf L p).rf (psOf L p).rs H):=fun p hp=>by
  refine ⟨?_,?_,?_⟩
  ·unfold fpB;rw[if_neg hp];subst hhh;rfl
  ·show befP hh p+(if colsP hh p=0 then 0 else linesP hh p)=_;rw[if_neg hp]
  ·subst hhh;rfl
 have HFz:Hid (∀ p,colsP hh p=0->fpB hh pl cl p=[]/\befP hh (p+1)=befP hh p):=fun p hp=>by
  refine ⟨?_,?_⟩
  ·unfold fpB;rw[if_pos hp]
  ·show befP hh p+(if colsP hh p=0 then 0 else linesP hh p)=_;rw[if_pos hp];rfl
 have HCl:Hid (∀ p,colsP hh p=within (psOf L p).cf (psOf L p).cs W):=fun p=>by subst hhh;rfl
 clear hpL
 rw[<- hCn,<- hhh]
 have HA0:Hid (allB hh pl cl 0=[]):=rfl
 have HB0:Hid (befP hh 0=0):=rfl
 obtain ⟨AB,hAB⟩:∃ AB,AB=allB hh pl cl:=⟨_,rfl⟩
 rw[<- hAB] at HSm HAl HA0 ⊢
 clear hAB
 replace hCn:Hid _:=hCn
 clear hCe hhh
 replace a0:Hid _:=a0
 replace a1:Hid _:=a1
 replace a2:Hid _:=a2
 replace a3:Hid _:=a3
 replace a4:Hid _:=a4
 replace a5:Hid _:=a5
 replace a6:Hid _:=a6
 replace a7:Hid _:=a7
 clear aone
 go_enter Tryz.func68,Tryz.ntmps68
 go_wp2
 generalize ((w.alloc (Obj.cells #[.int .i64 (W:Int),.int .i64 (H:Int),.int .i64 (D:Int),.int .i64 (K:Int),.int .i64 (L:Int)] 71)).alloc (Obj.cells Tryz.zeroCells142 142)).setCells (w.heap.size+1) 0 A=w2 at *
 clear hsc hT hAe
 have H2:Hid (LwB w2 (w.heap.size+1) (w.heap.size+2) 0 W H D K L [] (fun _=>0) (fun _=>0)):=by
  have r:=hR.out
  refine ⟨by omega,by rw[hsz.out];omega,hF.out,r 0 _ a0.out,r 1 _ a1.out,r 2 _ a2.out,r 3 _ a3.out,r 4 _ a4.out,⟨_,r 5 _ a5.out,OwnB.nil _ _⟩,r 6 _ a6.out,?_,?_,fun _=>by omega,fun _=>by omega⟩
  ·intro j hj
   have:=r (7+j) _ (a7.out j (by omega))
   rw[Nat.zero_add] at this;exact this
  ·intro j hj
   have:=r (7+(128+j)) _ (a7.out (128+j) (by omega))
   rw[Nat.zero_add,show 7+(128+j)=135+j by omega] at this;exact this
 clear a0 a1 a2 a3 a4 a5 a6 a7 hR hF hAl
 have hs2:w.heap.size<w2.heap.size:=by rw[hsz.out];omega
 have hg0:0<w.heap.size:=by have:=World.block_lt_of_cell? _ _ (hG 0 (by omega));omega
 have hgr:Hid (0<w.heap.size):=World.block_lt_of_cell? _ _ (hG 0 (by omega))
 have FO:Hid (∀ (W':World) (k:Nat),k<=7->FrN (w.heap.size+1) (w.heap.size+2) w2 W'->Calls Tryz.prog 95 #[.int .i64 (L:Int),.int .i64 (k:Int)] W' fun r w'=>r = .returned (psV (psOf L k))/\Kept W' w'):=by
  intro W' k hk' hf
  exact psOf_x L k W' hL (by omega) ((hG.kept hK.out).fr hf (by have:=hgr.out;omega))
 have FP:Hid (∀ (W':World) (p:Nat) (row abv:Nat->Nat),p<Cn->LwB W' (w.heap.size+1) (w.heap.size+2) (befP hh p) W H D K L (AB p) row abv->FrN (w.heap.size+1) (w.heap.size+2) w2 W'->Calls Tryz.prog 96 #[.pointer (some ⟨w.heap.size+1,0,none⟩),psV (psOf L p),.slice pp pl.length pc,.slice cp cl.length cc] W' fun r w'=>r = .returned (.tuple #[])/\(∃ row' abv',LwB w' (w.heap.size+1) (w.heap.size+2) (befP hh (p+1)) W H D K L (AB (p+1)) row' abv')/\FrN (w.heap.size+1) (w.heap.size+2) W' w'):=by
  intro W' p row abv hpC hB hf
  obtain ⟨o1,o2,o3,o4,o5,o6,o7,o8⟩:=psOf_ok L p
  have lp:=(hp.kept hK.out).fr hf (fun g hg=>by have:=hpb g hg;omega)
  have lc:=(hc.kept hK.out).fr hf (fun g hg=>by have:=hcb g hg;omega)
  have hb1:=HSm.out p (by omega)
  have hb2:=HBf.out p
  by_cases hz:colsP hh p=0
  ·have h5:=writePass0_b _ _ (befP hh p) W H D K L (psOf L p).cf (psOf L p).cs (psOf L p).rf (psOf L p).rs ((psOf L p).cb:Int) ((psOf L p).rb:Int) (.slice pp pl.length pc) (.slice cp cl.length cc) pl cl (AB p) row abv W' hB hW hH (by omega) (by omega) (by omega) (by omega) (by omega) (by omega) lp lc (by rw[<- HCl.out];exact hz)
   refine h5.mono ?_
   rintro r w' ⟨h6,h7,h8⟩
   obtain ⟨e1,e2⟩:=HFz.out p hz
   rw[HAl.out,e1,e2,List.append_nil]
   exact ⟨h6,⟨row,abv,h7⟩,h8⟩
  ·obtain ⟨e1,e2,e3⟩:=HFp.out p hz
   have h5:=writePass_b _ _ (befP hh p) W H D K L (psOf L p).cf (psOf L p).cs (psOf L p).rf (psOf L p).rs ((psOf L p).cb:Int) ((psOf L p).rb:Int) (.slice pp pl.length pc) (.slice cp cl.length cc) pl cl (AB p) row abv W' hB hk hW hH (by omega) (by omega) (by omega) (by omega) (by omega) (by omega) lp (fun g hg=>by have:=hpb g hg;omega) hpl hpv lc (fun g hg=>by have:=hcb g hg;omega) hcl0 hcl hcv (by omega) (by omega) (by rw[<- HCl.out];exact hz) (by rw[<- HCl.out,<- e3];exact HIn.out p)
   refine h5.mono ?_
   rintro r w' ⟨h6,⟨row',h7⟩,h8⟩
   rw[<- e3] at h7
   rw[HAl.out,e1,e2]
   exact ⟨h6,⟨_,_,h7⟩,h8⟩
 clear hp hc hpb hcb hcv hpv hG HIn HFp HFz HCl HBf HSm
 go_loopw [8] (fun v W'=>∃ (k:Nat) (row abv:Nat->Nat),k<=Cn/\v = .int .i64 (k:Int)/\LwB W' (w.heap.size+1) (w.heap.size+2) (befP hh k) W H D K L (AB k) row abv/\FrN (w.heap.size+1) (w.heap.size+2) w2 W') (fun v _=>Cn - (intOf v).toNat)
 case atStart=>exact ⟨0,fun _=>0,fun _=>0,by omega,rfl,by rw[HA0.out,HB0.out];exact H2.out,Fr.refl _ _⟩
 case round=>
  obtain ⟨k,row,abv,hkC,rfl,hB,hf⟩:=hrel
  have h4:=(hf.cell hs2 (by omega)).trans hh4
  clear H2
  by_cases hlt:k<Cn
  ·have hlt':(k:Int)<(Cn:Int):=by omega
   have F1:=FO.out wr k (by omega) hf
   have F2:Hid (∀ W',Kept wr W'->Calls Tryz.prog 96 #[.pointer (some ⟨w.heap.size+1,0,none⟩),psV (psOf L k),.slice pp pl.length pc,.slice cp cl.length cc] W' fun r w'=>r = .returned (.tuple #[])/\(∃ row' abv',LwB w' (w.heap.size+1) (w.heap.size+2) (befP hh (k+1)) W H D K L (AB (k+1)) row' abv')/\FrN (w.heap.size+1) (w.heap.size+2) W' w'):=fun W' hk'=>FP.out W' k row abv hlt (hB.kept hk') (hf.kept hk')
   obtain ⟨⟨qf,qs,qb,rf,rs,rb⟩,hps⟩:∃ P:Ps,P=psOf L k:=⟨_,rfl⟩
   rw[<- hps] at F1 F2
   clear hps
   replace F1:Hid (Calls Tryz.prog 95 #[.int .i64 (L:Int),.int .i64 (k:Int)] wr fun r w'=>r = .returned (.agg #[.int .i64 (qf:Int),.int .i64 (qs:Int),.int .i64 (qb:Int),.int .i64 (rf:Int),.int .i64 (rs:Int),.int .i64 (rb:Int)])/\Kept wr w'):=F1
   replace F2:Hid (∀ W',Kept wr W'->Calls Tryz.prog 96 #[.pointer (some ⟨w.heap.size+1,0,none⟩),.agg #[.int .i64 (qf:Int),.int .i64 (qs:Int),.int .i64 (qb:Int),.int .i64 (rf:Int),.int .i64 (rs:Int),.int .i64 (rb:Int)],.slice pp pl.length pc,.slice cp cl.length cc] W' fun r w'=>r = .returned (.tuple #[])/\(∃ row' abv',LwB w' (w.heap.size+1) (w.heap.size+2) (befP hh (k+1)) W H D K L (AB (k+1)) row' abv')/\FrN (w.heap.size+1) (w.heap.size+2) W' w'):=F2
   replace hB:Hid _:=hB
   replace hf:Hid (FrN (w.heap.size+1) (w.heap.size+2) w2 wr):=hf
   go_wp2_with fail
   refine (FC.out _).mono ?_
   rintro r wr ⟨rfl,rfl⟩
   go_wp2_with fail
   refine Calls.mono F1.out ?_
   rintro r w5 ⟨rfl,hk5⟩
   have hk6:Kept wr (w5.alloc (Obj.cells #[.int .i64 (qf:Int),.int .i64 (qs:Int),.int .i64 (qb:Int),.int .i64 (rf:Int),.int .i64 (rs:Int),.int .i64 (rb:Int)] 146)):=Kept.trans hk5 (Below.alloc (Below.refl _ _) (Nat.le_refl _) _)
   have F3:=F2.out _ hk6
   replace F3:Hid _:=F3
   replace hk6:Hid _:=hk6
   clear hk5
   go_wp2_with fail
   refine Calls.mono F3.out ?_
   rintro r w6 ⟨rfl,hB6,hf6⟩
   have H6:Hid ((∃ row' abv',LwB w6 (w.heap.size+1) (w.heap.size+2) (befP hh (k+1)) W H D K L (AB (k+1)) row' abv')/\FrN (w.heap.size+1) (w.heap.size+2) w2 w6):=⟨hB6,(hf.out.kept hk6.out).trans hf6⟩
   clear hB6 hf6
   go_wp2
   obtain ⟨⟨row',abv',h7⟩,h8⟩:=H6.out
   exact ⟨⟨k+1,row',abv',by omega,by go_num,h7,h8⟩,by simp [intOf];omega⟩
  ·have hlt':¬ (k:Int)<(Cn:Int):=by omega
   obtain rfl:k=Cn:=by omega
   obtain ⟨ov,h5,ho⟩:=hB.out
   replace ho:Hid _:=ho
   replace hf:Hid (FrN (w.heap.size+1) (w.heap.size+2) w2 wr):=hf
   replace hB:Hid _:=hB
   go_wp2_with fail
   refine (FC.out _).mono ?_
   rintro r wr ⟨rfl,rfl⟩
   go_wp2
   go_ret
   exact ⟨ov,rfl,OwnB.base ho.out (by omega),Fr.to_kept hK.out hf.out (fun i hi=>by omega)⟩
