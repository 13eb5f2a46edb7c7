import Derived.Test.YtgooinallljbpaaGreatDoorTd26
import Derived.Test.YtgooinallljbpaaGreatDoorTd18
import Derived.Deep.OwnRows
import Derived.Deep.CutBlock
import Derived.Deep.LoopGhost
import Derived.Deep.RegionHeld3
import Derived.Test.YtgooinallljbpaaGreatDoorTd19
import Derived.Handy
set_option maxRecDepth 100000
set_option maxHeartbeats 6400000
namespace Go.Proofs.YtgooinallljbpaaGreatDoor
open Go.RowKit Px
set_option linter.unusedSimpArgs false
set_option linter.unusedVariables false
theorem BJ (g n c k D:Nat) (x:Nat->Nat) (w:World) (hx:fC w g n x) (hD:okD D) (hk:(k+1)*D<=8*n) (hn:n<=100000) :
  Calls Tryz.prog 73 #[.slice (some ⟨g,0,none⟩) n c,.int .i64 (k:Int),.int .i64 (D:Int)] w fun r w'=>r = .returned (.int .i64 (qy D x k:Int))/\Kept w w':=by
 rw[Nat.add_mul,Nat.one_mul] at hk;by_cases h16:D=16
 ·subst h16
  have e1:qy 16 x k=256*x (2*k)+x (2*k+1):=by
   unfold qy;rw[if_neg (by decide),show k*16 / 8=2*k by omega]
  have k1:=hx.cell (2*k) (by omega);have k2:=hx.cell (2*k+1) (by omega);have b1:=hx.lt (2*k) (by omega);have b2:=hx.lt (2*k+1) (by omega);rw[e1];generalize x (2*k)=X1 at *;generalize x (2*k+1)=X2 at *;obtain ⟨J,hJ⟩:∃ J,J=2*k:=⟨_,rfl⟩;obtain ⟨J2,hJ2⟩:∃ J2,J2=J+1:=⟨_,rfl⟩;rw[<- hJ] at k1 k2;rw[<- hJ2] at k2;have q1:(2:Int)*(k:Int)=(J:Int):=by omega
  have q2:(J:Int)+1=(J2:Int):=by omega
  have j0:(0:Int)<=(J:Int):=by omega
  have j1:(J:Int)<(n:Int):=by omega
  have j2:(0:Int)<=(J2:Int):=by omega
  have j3:(J2:Int)<(n:Int):=by omega
  clear hx e1 hJ hJ2;go_enter Tryz.func73,Tryz.ntmps73;go_wp2_with fail;go_quiet (fail);go_wp2;go_ret;exact ⟨ah (by omega),(Kept.refl _).drewN _⟩
 ·have hD8:D=1\/D=2\/D=4\/D=8:=by unfold okD at hD;omega
  have h16':((D:Int) == 16)=false:=by rw[beq_eq_false_iff_ne];omega
  have hlt16:D<16:=by omega
  have e1:qy D x k=qV (x (k*D / 8)) (k*D % 8) D:=by unfold qy;rw[if_pos hlt16]
  rw[e1];obtain ⟨KD,hKD⟩:∃ KD,KD=k*D:=⟨_,rfl⟩;rw[<- hKD] at hk ⊢;have hKn:KD<=800000:=by omega
  have k1:=hx.cell (KD / 8) (by omega);have b1:=hx.lt (KD / 8) (by omega);generalize x (KD / 8)=X1 at *;have hfit:KD % 8+D<=8:=by rcases hD8 with rfl | rfl | rfl | rfl<;>omega
  obtain ⟨J,hJ⟩:∃ J,J=KD / 8:=⟨_,rfl⟩;rw[<- hJ] at k1;obtain ⟨M,hM⟩:∃ M,M=KD % 8:=⟨_,rfl⟩;rw[<- hM] at hfit ⊢;have q0:(k:Int)*(D:Int)=(KD:Int):=by rw[hKD,Int.natCast_mul]
  have q1:(KD:Int) / 8=(J:Int):=by omega
  have q2:(KD:Int) % 8=(M:Int):=by omega
  have j0:(0:Int)<=(J:Int):=by omega
  have j1:(J:Int)<(n:Int):=by omega
  obtain ⟨S,hS⟩:∃ S,S=8 - M - D:=⟨_,rfl⟩;have HB:Hid (qV X1 M D=X1 / 2^S % 2^D):=by show qV X1 M D=_;unfold qV;rw[hS]
  generalize qV X1 M D=BO at *;have q3:(8:Int) - (D:Int) - (M:Int)=(S:Int):=by omega
  have hS7:S<=7:=by omega
  clear hx e1 hJ hM hS hKD;have d8:D<=8:=by omega
  have d1:1<=D:=by omega
  have hpp:2^D<=2^8:=Nat.pow_le_pow_right (by omega) d8;have hp1:1<=2^D:=Nat.one_le_two_pow;obtain ⟨PD,hPD⟩:∃ PD,PD=2^D:=⟨_,rfl⟩;have p2:(2:Int)^D=(PD:Int):=by rw[hPD];simp
  have hp3:1<=PD:=by rw[hPD];exact hp1
  have hp4:PD<=256:=by rw[hPD];exact hpp
  have p5:((PD:Int) == 0)=false:=by rw[beq_eq_false_iff_ne];omega
  replace hPD:Hid (PD=2^D):=hPD;clear hD8 hlt16 h16 hD hk hfit hpp hp1;go_enter Tryz.func73,Tryz.ntmps73;go_wp2;go_ret;refine ⟨ah ?_,(Kept.refl _)⟩;have e0:(X1:Int) / 2^S=((X1 / 2^S:Nat):Int):=by simp
  rw[e0,Int.tmod_eq_emod_of_nonneg (Int.natCast_nonneg _),HB.out,<- hPD.out];exact (Int.natCast_emod _ _).symm
theorem Ic:(Tryz.prog.info? 30).map (fun i=>(i.zero,i.size,i.bytes))=some (some (.slice none 0 0),1,24):=by kernel_rfl
theorem vI (h:Hd):∀ (rs:List (Nat × Nat)) (a k p n:Nat),rs[k]? = some (p,n)->(kO h rs a)[k*5]? = some (.int .i64 (p:Int))/\(kO h rs a)[k*5+1]? = some (.int .i64 (n:Int))/\(kO h rs a)[k*5+2]? = some (.int .i64 ((a+aH h (rs.take k):Nat):Int))/\(kO h rs a)[k*5+3]? = some (.int .i64 (bX h p:Int))/\(kO h rs a)[k*5+4]? = some (.int .i64 (aL h p:Int))
 | [],a,k,p,n,e=>by simp at e
 | x::rs,a,0,p,n,e=>by
  simp at e;subst e;exact ⟨rfl,rfl,by simp [kO,aH],rfl,rfl⟩
 | x::rs,a,k+1,p,n,e=>by
  have ih:=vI h rs (a+(1+aL h x.1)) k p n (by simpa using e);have e0:(k+1)*5=k*5+5:=by omega
  have et:aH h ((x::rs).take (k+1))=1+aL h x.1+aH h (rs.take k):=by rw[List.take_succ_cons,aH]
  have sh:∀ j,(kO h (x::rs) a)[k*5+5+j]? = (kO h rs (a+(1+aL h x.1)))[k*5+j]? := fun j=>by
   rw[kO,List.getElem?_append_right (by simp;omega)]
   congr 1
   simp;omega
  rw[e0,et];have s0:=sh 0;rw[Nat.add_zero,Nat.add_zero] at s0;rw[s0,sh 1,sh 2,sh 3,sh 4];refine ⟨ih.1,ih.2.1,?_,ih.2.2.2.1,ih.2.2.2.2⟩;rw[ih.2.2.1]
  congr 3
  omega
structure Ln where
 g:Nat
 n:Nat
 x:Nat->Nat
def lnV (a:Ln):Value := .slice (some ⟨a.g,0,none⟩) a.n a.n
structure gv (w3 W:World) (mb:Nat) (lv fv:Value) (ls:List Ln):Prop where
 c3:W.cell? ⟨mb,3,none⟩=some lv
 c4:W.cell? ⟨mb,4,none⟩=some fv
 c5:W.cell? ⟨mb,5,none⟩=some (.int .i64 0)
 c6:W.cell? ⟨mb,6,none⟩=some (.int .i64 0)
 c02:∀ j,j<3->W.cell? ⟨mb,j,none⟩=w3.cell? ⟨mb,j,none⟩
 fz:∀ j,W.frozen? ⟨mb,j,none⟩=false
 fr:Fr1 mb w3 W
 lt:mb<w3.heap.size
 own:W.ownsRow w3.heap.size 30 1 lv ls.length (ls.map lnV)
 fil:∃ fs,W.ownsRow w3.heap.size 3 1 fv ls.length fs
 ln:∀ a ∈ ls,fC W a.g a.n a.x/\w3.heap.size<=a.g/\a.g<W.heap.size/\lv.ownBlock≠some a.g/\fv.ownBlock≠some a.g
 dis:∀ g,lv.ownBlock=some g->fv.ownBlock≠some g
theorem fC.same {w w':World} {g n:Nat} {x:Nat->Nat} (h:fC w g n x) (e:w'.heap[g]? = w.heap[g]?):fC w' g n x:=⟨fun j hj=>(World.cell?_of_block (w:=w) e).trans (h.cell j hj),h.lt⟩
theorem fC.kept {w w':World} {g n:Nat} {x:Nat->Nat} (h:fC w g n x) (hn:0<n) (k:Kept w w'):fC w' g n x:=h.same (k.block g (World.block_lt_of_cell? _ _ (h.cell 0 hn)))
theorem gv.kept {w3 W W':World} {mb:Nat} {lv fv:Value} {ls:List Ln} (h:gv w3 W mb lv fv ls) (k:Kept W W'):gv w3 W' mb lv fv ls:=by
 have hm:mb<W.heap.size:=World.block_lt_of_cell? _ _ h.c3;obtain ⟨fs,hfs⟩:=h.fil;have c:∀ j,W'.cell? ⟨mb,j,none⟩=W.cell? ⟨mb,j,none⟩:=fun j=>k.cell (p:=⟨mb,j,none⟩) hm
 refine ⟨(c 3).trans h.c3,(c 4).trans h.c4,(c 5).trans h.c5,(c 6).trans h.c6,fun j hj=>(c j).trans (h.c02 j hj),fun j=>(k.frozen (p:=⟨mb,j,none⟩) hm).trans (h.fz j),h.fr.kept k,h.lt,cC h.own k,⟨fs,cC hfs k⟩,fun a ha => ?_,h.dis⟩;obtain ⟨a1,a2,a3,a4⟩:=h.ln a ha;exact ⟨a1.same (k.block a.g a3),a2,Nat.lt_of_lt_of_le a3 k.size,a4⟩
theorem gv.line {w3 W W':World} {mb:Nat} {lv lv' fv:Value} {ls:List Ln} {a:Ln} (h:gv w3 W mb lv fv ls) (hx:fC W a.g a.n a.x) (hx1:w3.heap.size<=a.g) (hx2:a.g<W.heap.size) (hx3:lv.ownBlock≠some a.g) (hx4:fv.ownBlock≠some a.g)
  (hg:W.grownBy W' lv.ownBlock) (hown:W'.ownsRow w3.heap.size 30 1 lv' (ls.length+1) (ls.map lnV++[lnV a])) (hn:∀ k,lv'.ownBlock=some k->lv.ownBlock=some k\/W.heap.size<=k) :
  ∃ fs,(W'.setCell ⟨mb,3,none⟩ lv').ownsRow w3.heap.size 3 1 fv ls.length fs/\(∀ g,lv'.ownBlock=some g->fv.ownBlock≠some g) /\
   (W'.setCell ⟨mb,3,none⟩ lv').ownsRow w3.heap.size 30 1 lv' (ls++[a]).length ((ls++[a]).map lnV)/\Fr1 mb w3 (W'.setCell ⟨mb,3,none⟩ lv') /\
   (∀ j,j≠3->(W'.setCell ⟨mb,3,none⟩ lv').cell? ⟨mb,j,none⟩=W.cell? ⟨mb,j,none⟩)/\(W'.setCell ⟨mb,3,none⟩ lv').cell? ⟨mb,3,none⟩=some lv'/\(∀ j,(W'.setCell ⟨mb,3,none⟩ lv').frozen? ⟨mb,j,none⟩=false) /\
   (∀ b ∈ ls++[a],fC (W'.setCell ⟨mb,3,none⟩ lv') b.g b.n b.x/\w3.heap.size<=b.g/\b.g<(W'.setCell ⟨mb,3,none⟩ lv').heap.size/\lv'.ownBlock≠some b.g/\fv.ownBlock≠some b.g):=by
 have hm:mb<W.heap.size:=World.block_lt_of_cell? _ _ h.c3;have hmo:some mb≠lv.ownBlock:=fun e=>by have:=(h.own.lt mb e.symm).1;have:=h.lt;omega
 obtain ⟨fs,hfs⟩:=h.fil;have blkm:W'.heap[mb]? = W.heap[mb]? := hg.block mb hm hmo;have c:∀ j,W'.cell? ⟨mb,j,none⟩=W.cell? ⟨mb,j,none⟩:=fun j=>World.cell?_of_block (w:=W) blkm
 have fz:∀ j,W'.frozen? ⟨mb,j,none⟩=W.frozen? ⟨mb,j,none⟩:=fun j=>World.frozen?_of_block (w:=W) blkm
 have F:Fr1 mb W' (W'.setCell ⟨mb,3,none⟩ lv'):=(Fr1.refl _ _).set _ _;have hlt:=h.lt;have own1:=aQ hown F (fun g hg e=>by have:=(hown.lt g hg).1;omega);have hfs':W'.ownsRow w3.heap.size 3 1 fv ls.length fs:=hfs.kept hg (by cases hv:fv.ownBlock;exact Or.inl rfl;exact Or.inr (fun e=>h.dis _ e.symm hv));have hfs2:=aQ hfs' F (fun g hg e=>by have:=(hfs'.lt g hg).1;omega);have hd:∀ g,lv'.ownBlock=some g->fv.ownBlock≠some g:=fun g e q=>by
  rcases hn g e with k | k
  ·exact h.dis g k q
  ·have:=(hfs.lt g q).2;omega
 refine ⟨fs,hfs2,hd,by rw[List.map_append,List.length_append];exact own1,?_,fun j hj => ?_,?_,fun j => ?_,fun b hb => ?_⟩
 ·exact Fr1.set (h.fr.grown hg (fun k hk=>Or.inr ((h.own.lt k hk).1))) _ _
 ·rw[aa _ _ _ _ _ (by omega)];exact c j
 ·exact aj ((c 3).trans h.c3) _
 ·exact (World.frozen?_setCell _ _ _ _).trans ((fz j).trans (h.fz j))
 ·have key:fC W b.g b.n b.x/\w3.heap.size<=b.g/\b.g<W.heap.size/\lv.ownBlock≠some b.g/\fv.ownBlock≠some b.g:=by
   rw[List.mem_append,List.mem_singleton] at hb;rcases hb with q | q
   ·exact h.ln b q
   ·subst q;exact ⟨hx,hx1,hx2,hx3,hx4⟩
  obtain ⟨b1,b2,b3,b4,b5⟩:=key;have e1:W'.heap[b.g]? = W.heap[b.g]? := hg.block b.g b3 (fun e=>b4 e.symm);have b3':b.g<W'.heap.size:=Nat.lt_of_lt_of_le b3 hg.size;refine ⟨(b1.same e1).same (F.block b.g b3' (by omega)),b2,by simpa [World.setCell] using b3',fun e => ?_,b5⟩;rcases hn b.g e with q | q
  ·exact b4 q
  ·omega
theorem gv.filt {w3 W W':World} {mb:Nat} {lv fv fv':Value} {ls ls':List Ln} {fs fs':List Value} (hlt:mb<w3.heap.size) (hls:ls'.length=ls.length+1)
  (hfs:W.ownsRow w3.heap.size 3 1 fv ls.length fs) (dis:∀ g,lv.ownBlock=some g->fv.ownBlock≠some g) (hlo:W.ownsRow w3.heap.size 30 1 lv ls'.length (ls'.map lnV)) (fr:Fr1 mb w3 W)
  (c3:W.cell? ⟨mb,3,none⟩=some lv) (c4:W.cell? ⟨mb,4,none⟩=some fv) (c5:W.cell? ⟨mb,5,none⟩=some (.int .i64 0)) (c6:W.cell? ⟨mb,6,none⟩=some (.int .i64 0)) (c02:∀ j,j<3->W.cell? ⟨mb,j,none⟩=w3.cell? ⟨mb,j,none⟩) (fz:∀ j,W.frozen? ⟨mb,j,none⟩=false)
  (ln:∀ b ∈ ls',fC W b.g b.n b.x/\w3.heap.size<=b.g/\b.g<W.heap.size/\lv.ownBlock≠some b.g/\fv.ownBlock≠some b.g)
  (hg:W.grownBy W' fv.ownBlock) (hown:W'.ownsRow w3.heap.size 3 1 fv' (ls.length+1) fs') (hn:∀ k,fv'.ownBlock=some k->fv.ownBlock=some k\/W.heap.size<=k) :
  gv w3 (W'.setCell ⟨mb,4,none⟩ fv') mb lv fv' ls':=by
 have hm:mb<W.heap.size:=World.block_lt_of_cell? _ _ c3;have hmo:some mb≠fv.ownBlock:=fun e=>by have:=(hfs.lt mb e.symm).1;omega
 have blkm:W'.heap[mb]? = W.heap[mb]? := hg.block mb hm hmo;have c:∀ j,W'.cell? ⟨mb,j,none⟩=W.cell? ⟨mb,j,none⟩:=fun j=>World.cell?_of_block (w:=W) blkm
 have fz':∀ j,W'.frozen? ⟨mb,j,none⟩=W.frozen? ⟨mb,j,none⟩:=fun j=>World.frozen?_of_block (w:=W) blkm
 have F:Fr1 mb W' (W'.setCell ⟨mb,4,none⟩ fv'):=(Fr1.refl _ _).set _ _;have o:∀ j,j≠4->(W'.setCell ⟨mb,4,none⟩ fv').cell? ⟨mb,j,none⟩=W.cell? ⟨mb,j,none⟩:=fun j hj=>by rw[aa _ _ _ _ _ (by omega)];exact c j
 have own1:=aQ hown F (fun g hg e=>by have:=(hown.lt g hg).1;omega);have hlo':W'.ownsRow w3.heap.size 30 1 lv ls'.length (ls'.map lnV):=hlo.kept hg (by cases hv:lv.ownBlock;exact Or.inl rfl;exact Or.inr (fun e=>dis _ hv e.symm));have hlo2:=aQ hlo' F (fun g hg e=>by have:=(hlo'.lt g hg).1;omega);refine ⟨(o 3 (by omega)).trans c3,aj ((c 4).trans c4) _,(o 5 (by omega)).trans c5,(o 6 (by omega)).trans c6,fun j hj=>(o j (by omega)).trans (c02 j hj),fun j=>(World.frozen?_setCell _ _ _ _).trans ((fz' j).trans (fz j)),Fr1.set (fr.grown hg (fun k hk=>Or.inr ((hfs.lt k hk).1))) _ _,hlt,hlo2,⟨fs',by rw[hls];exact own1⟩,fun b hb => ?_,fun g e q => ?_⟩
 ·obtain ⟨b1,b2,b3,b4,b5⟩:=ln b hb
  have e1:W'.heap[b.g]? = W.heap[b.g]? := hg.block b.g b3 (fun e=>b5 e.symm);have b3':b.g<W'.heap.size:=Nat.lt_of_lt_of_le b3 hg.size;refine ⟨(b1.same e1).same (F.block b.g b3' (by omega)),b2,by simpa [World.setCell] using b3',b4,fun e => ?_⟩;rcases hn b.g e with q | q
  ·exact b5 q
  ·omega
 ·rcases hn g q with k | k
  ·exact dis g e k
  ·have:=(hlo.lt g e).2;omega
def ImR.app (l:List (Nat->Nat)):ImR->ImR
 | .bad ls e p => .bad (l++ls) e p
 | .part ls => .part (l++ls)
 | .full ls => .full (l++ls)
theorem ImR.app_nil (q:ImR):q.app []=q:=by cases q<;>rfl
theorem ImR.app_cons (l:List (Nat->Nat)) (x:Nat->Nat) (q:ImR):(q.cons x).app l=q.app (l++[x]):=by
 cases q<;>simp [ImR.app,ImR.cons]
def ImR.lines:ImR->List (Nat->Nat)
 | .bad ls _ _=>ls
 | .part ls=>ls
 | .full ls=>ls
def ofE (im:ImR) (dn sm:Bool) (en:Nat):Nat × Nat:=
 match im with
 | .bad _ e p=>(e,p)
 | .part _=>if (dn && sm)=true then (18,en) else (0,0)
 | .full _=>(0,0)
theorem sq (h:Hd):∀ (n p:Nat),ay h n p=[]\/∃ q m,q+m+1=p+n/\0<bX h q/\0<fF h q/\ay h n p=fw h q 0++ay h m (q+1)
 | 0,p=>Or.inl rfl
 | n+1,p=>by
  rw[ay];by_cases c:0<bX h p/\0<fF h p
  ·right
   exact ⟨p,n,by omega,c.1,c.2,by rw[if_pos c.1]⟩
  ·have e:(if 0<bX h p then fw h p 0 else [])=[]:=by
    by_cases d:0<bX h p
    ·rw[if_pos d]
     unfold fw;rw[show fF h p - 0=0 by omega];rfl
    ·rw[if_neg d]
   rw[e,List.nil_append];rcases sq h n (p+1) with q | ⟨q,m,h1,h2⟩
   ·exact Or.inl q
   ·exact Or.inr ⟨q,m,by omega,h2⟩
def DV (h:Hd) (rs:List (Nat × Nat)) (prev:Nat):Prop:=rs=[]\/∃ p k n,p+n+1=aF h.L/\k<fF h p/\0<bX h p/\rs=fw h p k++ay h n (p+1)/\(0<k->prev=aL h p)
theorem zY (h:Hd):DV h (ay h (aF h.L) 0) 0:=by
 rcases sq h (aF h.L) 0 with q | ⟨q,m,h1,h2,h3,h4⟩
 ·exact Or.inl q
 ·exact Or.inr ⟨q,0,m,by omega,h3,h2,h4,fun k=>absurd k (by omega)⟩
theorem vG {h:Hd} {rs:List (Nat × Nat)} {p k prev:Nat} (hp:DV h ((p,k)::rs) prev):DV h rs (aL h p)/\p<aF h.L/\0<bX h p/\k<fF h p/\(0<k->prev=aL h p):=by
 rcases hp with q | ⟨p',k',n,h1,h2,h3,h4,h5⟩
 ·cases q
 ·have e:fw h p' k'=(p',k')::fw h p' (k'+1):=by
   unfold fw;rw[show fF h p' - k'=fF h p' - (k'+1)+1 by omega,List.range'_succ];rfl
  rw[e,List.cons_append] at h4
  injection h4 with e1 e2
  injection e1 with e3 e4
  subst e3;subst e4;refine ⟨?_,by omega,h3,h2,h5⟩;by_cases c:k+1<fF h p
  ·exact Or.inr ⟨p,k+1,n,h1,c,h3,e2,fun _=>rfl⟩
  ·have e0:fw h p (k+1)=[]:=by
    unfold fw;rw[show fF h p - (k+1)=0 by omega];rfl
   rw[e0,List.nil_append] at e2;rw[e2];rcases sq h n (p+1) with q | ⟨q,m,g1,g2,g3,g4⟩
   ·exact Or.inl q
   ·exact Or.inr ⟨q,0,m,by omega,g3,g2,g4,fun k=>absurd k (by omega)⟩
structure mD (w3 W:World) (mb er at':Nat) (ls:List Ln):Prop where
 c3:∃ lv,W.cell? ⟨mb,3,none⟩=some lv/\W.ownsRow w3.heap.size 30 1 lv ls.length (ls.map lnV)
 c5:W.cell? ⟨mb,5,none⟩=some (.int .i64 (er:Int))
 c6:W.cell? ⟨mb,6,none⟩=some (.int .i64 (at':Int))
 c02:∀ j,j<3->W.cell? ⟨mb,j,none⟩=w3.cell? ⟨mb,j,none⟩
 fz:∀ j,W.frozen? ⟨mb,j,none⟩=false
 fr:Fr1 mb w3 W
 lt:mb<w3.heap.size
 ln:∀ a ∈ ls,fC W a.g a.n a.x/\w3.heap.size<=a.g/\a.g<W.heap.size
theorem gv.fin {w3 W:World} {mb:Nat} {lv fv:Value} {ls:List Ln} (h:gv w3 W mb lv fv ls):mD w3 W mb 0 0 ls:=
 ⟨⟨lv,h.c3,h.own⟩,h.c5,h.c6,h.c02,h.fz,h.fr,h.lt,fun a ha=>⟨(h.ln a ha).1,(h.ln a ha).2.1,(h.ln a ha).2.2.1⟩⟩
theorem mD.set5 {w3 W:World} {mb er at':Nat} {ls:List Ln} (h:mD w3 W mb er at' ls) (e:Nat):mD w3 (W.setCell ⟨mb,5,none⟩ (.int .i64 (e:Int))) mb e at' ls:=by
 have F:Fr1 mb W (W.setCell ⟨mb,5,none⟩ (.int .i64 (e:Int))):=(Fr1.refl _ _).set _ _;obtain ⟨lv,h1,h2⟩:=h.c3;have hlt:=h.lt;have o:∀ j,j≠5->(W.setCell ⟨mb,5,none⟩ (.int .i64 (e:Int))).cell? ⟨mb,j,none⟩=W.cell? ⟨mb,j,none⟩:=fun j hj=>aa _ _ _ _ _ (by omega)
 refine ⟨⟨lv,(o 3 (by omega)).trans h1,aQ h2 F (fun g hg q=>by have:=(h2.lt g hg).1;omega)⟩,aj h.c5 _,(o 6 (by omega)).trans h.c6,fun j hj=>(o j (by omega)).trans (h.c02 j hj),fun j=>(World.frozen?_setCell _ _ _ _).trans (h.fz j),Fr1.set h.fr _ _,h.lt,fun a ha => ?_⟩;obtain ⟨a1,a2,a3⟩:=h.ln a ha;exact ⟨a1.same (F.block a.g a3 (by omega)),a2,by simpa [World.setCell] using a3⟩
theorem mD.set6 {w3 W:World} {mb er at':Nat} {ls:List Ln} (h:mD w3 W mb er at' ls) (e:Nat):mD w3 (W.setCell ⟨mb,6,none⟩ (.int .i64 (e:Int))) mb er e ls:=by
 have F:Fr1 mb W (W.setCell ⟨mb,6,none⟩ (.int .i64 (e:Int))):=(Fr1.refl _ _).set _ _;obtain ⟨lv,h1,h2⟩:=h.c3;have hlt:=h.lt;have o:∀ j,j≠6->(W.setCell ⟨mb,6,none⟩ (.int .i64 (e:Int))).cell? ⟨mb,j,none⟩=W.cell? ⟨mb,j,none⟩:=fun j hj=>aa _ _ _ _ _ (by omega)
 refine ⟨⟨lv,(o 3 (by omega)).trans h1,aQ h2 F (fun g hg q=>by have:=(h2.lt g hg).1;omega)⟩,(o 5 (by omega)).trans h.c5,aj h.c6 _,fun j hj=>(o j (by omega)).trans (h.c02 j hj),fun j=>(World.frozen?_setCell _ _ _ _).trans (h.fz j),Fr1.set h.fr _ _,h.lt,fun a ha => ?_⟩;obtain ⟨a1,a2,a3⟩:=h.ln a ha;exact ⟨a1.same (F.block a.g a3 (by omega)),a2,by simpa [World.setCell] using a3⟩
theorem mD.kept {w3 W W':World} {mb er at':Nat} {ls:List Ln} (h:mD w3 W mb er at' ls) (k:Kept W W'):mD w3 W' mb er at' ls:=by
 obtain ⟨lv,h1,h2⟩:=h.c3;have hm:mb<W.heap.size:=World.block_lt_of_cell? _ _ h1;have c:∀ j,W'.cell? ⟨mb,j,none⟩=W.cell? ⟨mb,j,none⟩:=fun j=>k.cell (p:=⟨mb,j,none⟩) hm
 refine ⟨⟨lv,(c 3).trans h1,cC h2 k⟩,(c 5).trans h.c5,(c 6).trans h.c6,fun j hj=>(c j).trans (h.c02 j hj),fun j=>(k.frozen (p:=⟨mb,j,none⟩) hm).trans (h.fz j),h.fr.kept k,h.lt,fun a ha => ?_⟩;obtain ⟨a1,a2,a3⟩:=h.ln a ha;exact ⟨a1.same (k.block a.g a3),a2,Nat.lt_of_lt_of_le a3 k.size⟩
def Je (h:Hd) (rows:List (Nat × Nat)) (ls:List Ln):Prop:=∀ (j:Nat) (a:Ln),ls[j]? = some a->∃ p n,rows[j]? = some (p,n)/\a.n=aL h p
structure OfL (h:Hd) (C:Nat) (out:List One) (rows:List (Nat × Nat)) (w3 W:World) (mb k:Nat) (lv fv:Value) (ls:List Ln) (pre rs:List (Nat × Nat)) (prev:Nat) (up:Nat->Nat):Prop where
 img:gv w3 W mb lv fv ls
 split:rows=pre++rs
 len:pre.length=k
 lenl:ls.length=k
 pos:DV h rs prev
 last:prev≠0->∃ a,ls[k - 1]? = some a/\0<k/\a.n=prev/\a.x=up
 eq:aN h C rows (fun _=>0) out=(aN h C rs up (out.drop (aH h pre))).app (ls.map Ln.x)
 sz:Je h rows ls
structure OfZ (h:Hd) (C:Nat) (out:List One) (rows:List (Nat × Nat)) (w3 W:World) (mb:Nat) (ls:List Ln) (im:ImR):Prop where
 img:mD w3 W mb 0 0 ls
 eq:aN h C rows (fun _=>0) out=im
 lines:ls.map Ln.x=im.lines
 sz:Je h rows ls
 kind:(∃ l,im = .part l/\out.length<aH h rows)\/(∃ l,im = .full l/\out.length=aH h rows)\/(∃ l,im = .bad l 17 (pAt out (aH h rows))/\aH h rows<out.length)
theorem uX {A:Type} {l:List A} {n:Nat} (h:l.length<=n):l.drop n=[]:=List.drop_eq_nil_iff.2 h
theorem fU (l:List One) (n:Nat) (h:n<l.length):l.drop n=(vAt l n,pAt l n)::l.drop (n+1):=by
 rw[List.drop_eq_getElem_cons h]
 congr 1
 unfold vAt pAt;rw[List.getD_eq_getElem?_getD,List.getElem?_eq_getElem h];rfl
theorem OfL.stop {h:Hd} {C:Nat} {out:List One} {rows:List (Nat × Nat)} {w3 W:World} {mb k:Nat} {lv fv:Value} {ls:List Ln} {pre:List (Nat × Nat)} {prev:Nat} {up:Nat->Nat} (s:OfL h C out rows w3 W mb k lv fv ls pre [] prev up):∃ im,OfZ h C out rows w3 W mb ls im:=by
 have e:rows=pre:=by rw[s.split,List.append_nil]
 have q:=s.eq;by_cases c:out.length<=aH h pre
 ·rw[uX c,aN] at q
  by_cases d:out.length=aH h pre
  ·exact ⟨_,s.img.fin,q,by simp [ImR.app,ImR.lines],s.sz,Or.inr (Or.inl ⟨_,rfl,by rw[e];exact d⟩)⟩
  ·-- fewer bytes than rows: not here,but told all the same
   exfalso
   have il:=At h C pre (fun _=>0) out;rw[e] at q;rw[q] at il;rcases il with ⟨l,e1,e2⟩ | ⟨l,e1,e2⟩ | ⟨l,x,y,e1⟩
   ·simp [ImR.app] at e1
   ·omega
   ·simp [ImR.app] at e1
 ·rw[fU out _ (by omega),aN] at q
  refine ⟨_,s.img.fin,q,by simp [ImR.app,ImR.lines],s.sz,Or.inr (Or.inr ⟨ls.map Ln.x++[],?_,by rw[e];omega⟩)⟩;rw[e];rfl
theorem OfL.cut {h:Hd} {C:Nat} {out:List One} {rows:List (Nat × Nat)} {w3 W:World} {mb k p n:Nat} {lv fv:Value} {ls:List Ln} {pre rs:List (Nat × Nat)} {prev:Nat} {up:Nat->Nat} (s:OfL h C out rows w3 W mb k lv fv ls pre ((p,n)::rs) prev up) (W':World) (im:mD w3 W' mb 0 0 ls)
  (hc:out.length<=aH h pre\/(aH h pre<out.length/\vAt out (aH h pre)<=4/\out.length<=aH h pre+aL h p)):∃ im,OfZ h C out rows w3 W' mb ls im:=by
 have q:=s.eq;have e:aH h rows=aH h pre+(1+aL h p+aH h rs):=by rw[s.split,pH,aH]
 rcases hc with c | ⟨c1,c2,c3⟩
 ·rw[uX c,aN] at q
  exact ⟨_,im,q,by simp [ImR.app,ImR.lines],s.sz,Or.inl ⟨_,rfl,by omega⟩⟩
 ·rw[fU out _ c1,aN,if_neg (by show ¬ 4<vAt out (aH h pre);omega),if_pos (by simp;omega)] at q
  exact ⟨_,im,q,by simp [ImR.app,ImR.lines],s.sz,Or.inl ⟨_,rfl,by omega⟩⟩
structure rV (w:World) (fb:Nat) (h:Hd) (palN:Nat):Prop where
 c1:w.cell? ⟨fb,1,none⟩=some (.int .i64 (h.W:Int))
 c2:w.cell? ⟨fb,2,none⟩=some (.int .i64 (h.H:Int))
 c3:w.cell? ⟨fb,3,none⟩=some (.int .i64 (h.D:Int))
 c4:w.cell? ⟨fb,4,none⟩=some (.int .i64 (h.K:Int))
 c5:w.cell? ⟨fb,5,none⟩=some (.int .i64 (h.L:Int))
 c8:∃ a c,w.cell? ⟨fb,8,none⟩=some (.slice a palN c)
theorem rV.lt {w:World} {fb palN:Nat} {h:Hd} (k:rV w fb h palN):fb<w.heap.size:=World.block_lt_of_cell? _ _ k.c1
theorem rV.same {w w':World} {fb palN:Nat} {h:Hd} (k:rV w fb h palN) (q:w'.heap[fb]? = w.heap[fb]?):rV w' fb h palN:=by
 have hc:∀ j,w'.cell? ⟨fb,j,none⟩=w.cell? ⟨fb,j,none⟩:=fun j=>World.cell?_of_block (w:=w) q
 obtain ⟨a,c,h8⟩:=k.c8;exact ⟨(hc 1).trans k.c1,(hc 2).trans k.c2,(hc 3).trans k.c3,(hc 4).trans k.c4,(hc 5).trans k.c5,a,c,(hc 8).trans h8⟩
theorem rV.kept {w w':World} {fb palN:Nat} {h:Hd} (k:rV w fb h palN) (q:Kept w w'):rV w' fb h palN:=k.same (q.block fb k.lt)
structure wP (w:World) (sb:Nat) (ov:Value) (out:List One) (dn sm:Bool) (en:Nat):Prop where
 c0:w.cell? ⟨sb,0,none⟩=some ov
 c3:w.cell? ⟨sb,3,none⟩=some (.bool dn)
 c4:w.cell? ⟨sb,4,none⟩=some (.bool sm)
 c7:w.cell? ⟨sb,7,none⟩=some (.int .i64 (en:Int))
 z:ZAt w ov out
theorem wP.lt {w:World} {sb en:Nat} {ov:Value} {out:List One} {dn sm:Bool} (k:wP w sb ov out dn sm en):sb<w.heap.size:=World.block_lt_of_cell? _ _ k.c0
theorem wP.kept {w w':World} {sb en:Nat} {ov:Value} {out:List One} {dn sm:Bool} (k:wP w sb ov out dn sm en) (q:Kept w w'):wP w' sb ov out dn sm en:=by
 have hc:∀ j,w'.cell? ⟨sb,j,none⟩=w.cell? ⟨sb,j,none⟩:=fun j=>q.cell (p:=⟨sb,j,none⟩) k.lt
 exact ⟨(hc 0).trans k.c0,(hc 3).trans k.c3,(hc 4).trans k.c4,(hc 7).trans k.c7,k.z.fr (S:=fun _=>False) (Fr.of_kept q) (fun _ _ e=>e)⟩
theorem Ea (h:Hd) (hH:h.H<=16):∀ n p,n<=7->(ay h n p).length<=200:=by
 have key:∀ n p,(ay h n p).length<=16*n:=by
  intro n
  induction n with
  | zero=>intro p;exact Nat.le_refl _
  | succ n ih=>
   intro p;rw[ay,List.length_append]
   have:=ih (p+1)
   have hl:fF h p<=16:=fM (ff _ _).2.2.2.2.2.1 hH
   have:(if 0<bX h p then fw h p 0 else []).length<=16:=by
    split
    ·simp [fw];omega
    ·exact Nat.zero_le _
   omega
 intro n p hn
 have:=key n p
 omega
theorem zL (h:Hd) (hW:h.W<=16) (hD:h.D<=16):∀ rs:List (Nat × Nat),aH h rs<=200*rs.length
 | []=>Nat.le_refl _
 | x::l=>by
  have ih:=zL h hW hD l;have hc:bX h x.1<=16:=fM (ff _ _).2.1 hW;have h1:bX h x.1*bG h<=16*64:=Nat.mul_le_mul hc (Nat.mul_le_mul (nV _) hD)
  have:aL h x.1<=130:=by unfold aL;omega
  rw[aH,List.length_cons];omega
structure OfP (h:Hd) (C:Nat) (w w':World) (fb mb:Nat) (out:List One) (dn sm:Bool) (en:Nat) (ls:List Ln) (im:ImR):Prop where
 iq:aN h C (ay h (aF h.L) 0) (fun _=>0) out=im
 lines:ls.map Ln.x=im.lines
 sz:Je h (ay h (aF h.L) 0) ls
 fin:∃ w3 g rv,mD w3 w' mb (ofE im dn sm en).1 (ofE im dn sm en).2 ls/\w'.cell? ⟨mb,0,none⟩=some (.pointer (some ⟨fb,0,none⟩))/\w'.cell? ⟨mb,1,none⟩=some (.slice (some ⟨g,0,none⟩) (aF h.L) (aF h.L))/\pZ w' g h.L/\w.heap.size<=g/\w'.cell? ⟨mb,2,none⟩=some rv/\w'.ownsRow w.heap.size 146 5 rv (ay h (aF h.L) 0).length (kO h (ay h (aF h.L) 0) 0)
 lo:w.heap.size<=mb
 kept:Kept w w'
def fD (n:Nat):Code->Option Code
 | .block k b=>if k=n then some (.block k b) else fD n b
 | .seq a b=>match fD n a with
  | some c=>some c
  | none=>fD n b
 | .loop b=>fD n b
 | .cond _ a b=>match fD n a with
  | some c=>some c
  | none=>fD n b
 | _=>none
noncomputable def NG:Code:=(Tryz.f42.body.bind (fD 2)).getD .skip
theorem ax {b c:Nat} (w:World) (k j:Nat) (v:Value) (h:c≠b):(w.setCell ⟨b,k,none⟩ v).cell? ⟨c,j,none⟩=w.cell? ⟨c,j,none⟩ :=
 World.cell?_setCell_other _ _ _ _ (by intro e;apply h;injection e with e1 _ _;exact e1.symm)
theorem Nm {Q:Exit->Act->World->Prop} {u0 u2 u3 u4 u5 u6 u7 u8 rS u16 si rR oY oX oW oV oU oT oS oR oQ oP oO oN oM u32 oL oK oJ oI oH oG oF oE oD oC oB oA oz oy ox ow ou ot oq oo om oj oi oh og oe od ob oa nZ nY u64 pS pR qn qm ql qk qj qi qh qg qf qe qd qc qb qa qt qq qp rE rD rC rB rA rz ry ru rq rp rm rk rj rh ra qZ fc ey ew ev eu ej eh ed dZ dY dX dW dV dU dT dS dR dQ dP dO dN dM dL dK dJ dI dH dG dF dE dD dC dB dA dz dy dx dw du dt fq fp gm iu ir ik ij ig ie ib gZ gY gX gW gV gU gT gS gR gQ gP gO gN gM gK gJ gI gH gG gF gE gB gA kL kK kJ kI kG kF kE kD kC kB ky kv ku kj kf ke j9 j8 j7 j6 j5 j4 jZ jY jX jW jV jU jT jS jR jQ jP jO jN jM jL jK jJ jI jH jG jF jE jD jC jB gj gi gh gg gf gd ga fZ fY fX tO tN tM tL tK tJ tI tH tG tF nT nR nQ nP nO nM nL nJ nI nH nG nF nE nD nB nA nz ny nv nu nt nr np nk nj ni nh ng nc na m9 m8 m7 mZ mY mX mW mV mU mT mS mR mQ mP mO mN mM mL mK mJ mI mH:Value} (sb rb gx gu SZ FR ST t cu cx co gz:Nat) (out:List One) (up O:Nat->Nat) (w:World)
  (hs0:w.cell? ⟨sb,0,none⟩=some (.slice (some ⟨gz,0,none⟩) out.length co)) (hz:Hid (ZAt w (.slice (some ⟨gz,0,none⟩) out.length co) out)) (r2:w.cell? ⟨rb,2,none⟩=some (.int .i64 (FR:Int))) (r4:w.cell? ⟨rb,4,none⟩=some (.int .i64 (SZ:Int)))
  (hu:Hid (fC w gu SZ up)) (hx:Hid (fC w gx SZ (fun _=>0))) (hfz:∀ k,w.frozen? ⟨gx,k,none⟩=false) (n1:sb≠gx) (n2:rb≠gx) (n3:gu≠gx) (n4:gz≠gx) (hfr:FR+SZ<out.length) (b1:SZ<=1000) (b2:FR<=100000) (b3:1<=ST) (b4:ST<=8) (b5:t<=4) (b6:out.length<=4294967296)
  (hO:Hid (∀ i,i<SZ->O i=vAt out (FR+1+i)/\O i<256))
  (hQ:Hid (∀ va vv mu mr mq mo mn mm ml mj mi mh mg lZ lY lX lW lV lU lT lS lR lQ lP lO lN lM lL lK lJ lI lH W',fC W' gx SZ (fP ST t up O SZ)->Fr1 gx w W'->Q .normal ⟨#[u0,.pointer (some ⟨sb,0,none⟩),u2,u3,u4,u5,u6,u7,u8,.int .i64 (ST:Int),rS,.pointer (some ⟨rb,0,none⟩),.int .i64 (t:Int),.slice (some ⟨gu,0,none⟩) SZ cu,.slice (some ⟨gx,0,none⟩) SZ cx,va,vv,si,rR,oY,oX,oW,oV,oU,oT,oS,oR,oQ,oP,oO,oN,oM,u32,oL,oK,oJ,oI,oH,oG,oF,oE,oD,oC,oB,oA,oz,oy,ox,ow,ou,ot,oq,oo,om,oj,oi,oh,og,oe,od,ob,oa,nZ,nY,u64,pS,pR,qn,qm,ql,qk,qj,qi,qh,qg,qf,qe,qd,qc,qb,qa,qt,qq,qp,rE,rD,rC,rB,rA,rz,ry,ru,rq,rp,rm,rk,rj,rh,ra,qZ,fc,ey,ew,ev,eu,ej,eh,ed,dZ,dY,dX,dW,dV,dU,dT,dS,dR,dQ,dP,dO,dN,dM,dL,dK,dJ,dI,dH,dG,dF,dE,dD,dC,dB,dA,dz,dy,dx,dw,du,dt,fq,fp,gm,mu,mr,mq,mo,mn,mm,ml,mj,mi,mh,mg,lZ,lY,lX,lW,lV,lU,lT,lS,lR,lQ,lP,lO,lN,lM,lL,lK,lJ,lI,lH,kL,kK,kJ,kI,kG,kF,kE,kD,kC,kB,ky,kv,ku,kj,kf,ke,j9,j8,j7,j6,j5,j4,jZ,jY,jX,jW,jV,jU,jT,jS,jR,jQ,jP,jO,jN,jM,jL,jK,jJ,jI,jH,jG,jF,jE,jD,jC,jB,gj,gi,gh,gg,gf,gd,ga,fZ,fY,fX,tO,tN,tM,tL,tK,tJ,tI,tH,tG,tF,nT,nR,nQ,nP,nO,nM,nL,nJ,nI,nH,nG,nF,nE,nD,nB,nA,nz,ny,nv,nu,nt,nr,np,nk,nj,ni,nh,ng,nc,na,m9,m8,m7,mZ,mY,mX,mW,mV,mU,mT,mS,mR,mQ,mP,mO,mN,mM,mL,mK,mJ,mI,mH],[]⟩ W')) :
  Code.wp Tryz.prog NG Q ⟨#[u0,.pointer (some ⟨sb,0,none⟩),u2,u3,u4,u5,u6,u7,u8,.int .i64 (ST:Int),rS,.pointer (some ⟨rb,0,none⟩),.int .i64 (t:Int),.slice (some ⟨gu,0,none⟩) SZ cu,.slice (some ⟨gx,0,none⟩) SZ cx,.int .i64 0,u16,si,rR,oY,oX,oW,oV,oU,oT,oS,oR,oQ,oP,oO,oN,oM,u32,oL,oK,oJ,oI,oH,oG,oF,oE,oD,oC,oB,oA,oz,oy,ox,ow,ou,ot,oq,oo,om,oj,oi,oh,og,oe,od,ob,oa,nZ,nY,u64,pS,pR,qn,qm,ql,qk,qj,qi,qh,qg,qf,qe,qd,qc,qb,qa,qt,qq,qp,rE,rD,rC,rB,rA,rz,ry,ru,rq,rp,rm,rk,rj,rh,ra,qZ,fc,ey,ew,ev,eu,ej,eh,ed,dZ,dY,dX,dW,dV,dU,dT,dS,dR,dQ,dP,dO,dN,dM,dL,dK,dJ,dI,dH,dG,dF,dE,dD,dC,dB,dA,dz,dy,dx,dw,du,dt,fq,fp,gm,iu,ir,ik,ij,ig,ie,ib,gZ,gY,gX,gW,gV,gU,gT,gS,gR,gQ,gP,gO,gN,gM,gK,gJ,gI,gH,gG,gF,gE,gB,gA,kL,kK,kJ,kI,kG,kF,kE,kD,kC,kB,ky,kv,ku,kj,kf,ke,j9,j8,j7,j6,j5,j4,jZ,jY,jX,jW,jV,jU,jT,jS,jR,jQ,jP,jO,jN,jM,jL,jK,jJ,jI,jH,jG,jF,jE,jD,jC,jB,gj,gi,gh,gg,gf,gd,ga,fZ,fY,fX,tO,tN,tM,tL,tK,tJ,tI,tH,tG,tF,nT,nR,nQ,nP,nO,nM,nL,nJ,nI,nH,nG,nF,nE,nD,nB,nA,nz,ny,nv,nu,nt,nr,np,nk,nj,ni,nh,ng,nc,na,m9,m8,m7,mZ,mY,mX,mW,mV,mU,mT,mS,mR,mQ,mP,mO,mN,mM,mL,mK,mJ,mI,mH],[]⟩ w:=by
 conv=>arg 2;whnf
 have hgx:gx<w.heap.size\/SZ=0:=by
  by_cases c:SZ=0
  ·exact Or.inr c
  ·exact Or.inl (World.block_lt_of_cell? _ _ (hx.out.cell 0 (by omega)))
 go_wp2_with fail;go_loopg [15] SZ (fun m va W=>∃ k:Nat,k<=SZ/\va = .int .i64 (k:Int)/\m=SZ - k/\fC W gx SZ (fP ST t up O k)/\Fr1 gx w W/\(∀ j,W.frozen? ⟨gx,j,none⟩=false))
 case atStart=>exact ⟨0,by omega,rfl,by omega,hx.out,Fr1.refl _ _,hfz⟩
 case round=>
  obtain ⟨k,hk,rfl,hm,hl,hF,hf⟩:=hrel;have HM:Hid _:=hm;have HL:Hid _:=hl;have HF:Hid _:=hF;have hsb:sb<w.heap.size:=World.block_lt_of_cell? _ _ hs0;have hrb:rb<w.heap.size:=World.block_lt_of_cell? _ _ r2;have s0:=(hF.cell hsb n1).trans hs0;have q2:=(hF.cell hrb n2).trans r2;have q4:=(hF.cell hrb n2).trans r4;clear hs0 r2 r4 hm hl hF;by_cases c:k<SZ
  ·have hgx':gx<w.heap.size:=by omega
   have HU:Hid (fC wr gu SZ up):=by
    have:gu<w.heap.size:=World.block_lt_of_cell? _ _ (hu.out.cell 0 (by omega))
    exact hu.out.same (HF.out.block gu this n3)
   have HZ:=hz.out.fr HF.out (fun g hg e=>by injection hg with hg;simp at hg;omega);obtain ⟨g,hg,z0,z1⟩:=HZ.cells _ _ rfl (FR+1+k) (by omega)
   injection hg with hg
   injection hg with hg
   subst hg;have hOk:=hO.out k c;rw[<- hOk.1] at z0;have c0:wr.cell? ⟨gx,k,none⟩=some (.int .i64 ((fP ST t up O k k:Nat):Int)):=HL.out.cell k c;have hci:(k:Int)<(SZ:Int):=by omega
   obtain ⟨G,hG⟩:∃ G,G=gss t (if ST<=k then fP ST t up O k (k - ST) else 0) (up k) (if ST<=k then up (k - ST) else 0):=⟨_,rfl⟩;have hG256:G<256:=by
    rw[hG];refine Ii ?_ (HU.out.lt k c) ?_
    ·split
     ·exact HL.out.lt _ (by omega)
     ·omega
    ·split
     ·exact HU.out.lt _ (by omega)
     ·omega
   have FG:Hid (Calls Tryz.prog 72 #[.int .i64 (t:Int),.slice (some ⟨gx,0,none⟩) SZ cx,.slice (some ⟨gu,0,none⟩) SZ cu,.int .i64 (k:Int),.int .i64 (ST:Int)] wr fun r w'=>r = .returned (.int .i64 (G:Int))/\w'=wr):=by
    have:=Ey t gx gu SZ cx cu k ST _ up wr HL.out HU.out c b3 (by omega) (by omega) b5
    rw[<- hG] at this;exact this
   have HG:Hid _:=hG;obtain ⟨Y,hY⟩:∃ Y,Y=O k:=⟨_,rfl⟩;rw[<- hY] at z0 hOk;have hY256:=hOk.2;have HY:Hid _:=hY;obtain ⟨P,hP⟩:∃ P,P=FR+1+k:=⟨_,rfl⟩;rw[<- hP] at z0;obtain ⟨F1,hF1⟩:∃ F1,F1=FR+1:=⟨_,rfl⟩;obtain ⟨SM,hSM⟩:∃ SM,SM=Y+G:=⟨_,rfl⟩;obtain ⟨M,hM⟩:∃ M,M=SM % 256:=⟨_,rfl⟩;have w1':IntKind.i64.wrap ((FR:Int)+1)=(F1:Int):=by rw[IntKind.wrap_i64];omega
   have w2':IntKind.i64.wrap (F1:Int)=(F1:Int):=by rw[IntKind.wrap_i64];omega
   have w3':IntKind.i64.wrap ((F1:Int)+(k:Int))=(P:Int):=by rw[IntKind.wrap_i64];omega
   have w4':IntKind.i64.wrap (P:Int)=(P:Int):=by rw[IntKind.wrap_i64];omega
   have w5':IntKind.i64.wrap ((Y:Int)+(G:Int))=(SM:Int):=by rw[IntKind.wrap_i64];omega
   have w6':IntKind.i64.wrap (SM:Int)=(SM:Int):=by rw[IntKind.wrap_i64];omega
   have w7':Int.tmod (SM:Int) 256=(M:Int):=by rw[hM];rfl
   have w8':IntKind.i64.wrap (M:Int)=(M:Int):=by rw[IntKind.wrap_i64];omega
   have HSM:Hid _:=hSM;have HMM:Hid _:=hM;have hPl:(P:Int)<(out.length:Int):=by omega
   have hPn:(0:Int)<=(P:Int):=by omega
   have hkn:(0:Int)<=(k:Int):=by omega
   clear hOk hY hG z1 HZ hP hSM hM hF1;generalize fP ST t up O k k=X at c0;go_wp2_with fail;refine FG.out.mono ?_;rintro r w1 ⟨rfl,hw⟩;subst w1;go_wp2_with fail;go_region_held3 (fun W=>W.cell? ⟨sb,0,none⟩=some (.slice (some ⟨gz,0,none⟩) out.length co)/\W.cell? ⟨rb,2,none⟩=some (.int .i64 (FR:Int))/\W.cell? ⟨gz,P*2,none⟩=some (.int .i64 (Y:Int))) (first | exact ⟨s0,q2,z0⟩ | exact ⟨(ax _ _ _ _ (by omega)).trans s0,(ax _ _ _ _ (by omega)).trans q2,(ax _ _ _ _ (by omega)).trans z0⟩ | go_keep) (fail)
   go_wp2_with fail;go_roundg (SZ - (k+1))
   case measure=>have:=HM.out;omega
   refine ⟨k+1,by omega,by go_num,rfl,⟨fun j hj => ?_,fun j hj => ?_⟩,?_,fun j => ?_⟩
   ·show (World.setCell _ _ _).cell? _=_
    rw[fP];by_cases e:j=k
    ·subst e
     rw[upd_same,aj c0,HMM.out,HSM.out,HG.out,HY.out]
    ·rw[upd_ne _ _ _ e,aa _ _ _ _ _ (fun q=>e q.symm)]
     exact HL.out.cell j hj
   ·rw[fP]
    by_cases e:j=k
    ·subst e
     rw[upd_same];exact Nat.mod_lt _ (by omega)
    ·rw[upd_ne _ _ _ e];exact HL.out.lt j hj
   ·exact ((Fr1.set HF.out _ _).drewN 1)
   ·exact (World.frozen?_setCell _ _ _ _).trans (hf j)
  ·have e:k=SZ:=by omega
   subst e;go_wp2_with fail;exact hQ.out _ _ _ _ _ _ _ _ _ _ _ _ _ _ _ _ _ _ _ _ _ _ _ _ _ _ _ _ _ _ _ _ _ HL.out HF.out
noncomputable def NF:Code:=(Tryz.f42.body.bind (fD 4)).getD .skip
def wM (K D C CL:Nat) (x:Nat->Nat):Bool:=decide (K=3) && (List.range CL).any (fun i=>decide (C<=qy D x i))
theorem KU {K D C CL:Nat} {x:Nat->Nat} (h:K=3->∀ j,j<CL->¬ C<=qy D x j):wM K D C CL x=false:=by
 unfold wM;by_cases c:K=3
 ·rw[decide_eq_true c,Bool.true_and,List.any_eq_false]
  intro j hj;rw[decide_eq_true_iff];exact h c j (List.mem_range.1 hj)
 ·rw[decide_eq_false c,Bool.false_and]
theorem IX {K D C CL j:Nat} {x:Nat->Nat} (hK:K=3) (hj:j<CL) (h:C<=qy D x j):wM K D C CL x=true:=by
 unfold wM;rw[decide_eq_true hK,Bool.true_and,List.any_eq_true];exact ⟨j,List.mem_range.2 hj,decide_eq_true h⟩
theorem Nl {Q:Exit->Act->World->Prop} {u2 u3 u4 u5 u7 u8 u9 rS tP ux se u16 rR oY oX oW oV oU oT oS oR oQ oP oO oN oM u32 oL oK oJ oI oH oG oF oE oD oC oB oA oz oy ox ow ou ot oq oo om oj oi oh og oe od ob oa nZ nY u64 pS pR qn qm ql qk qj qi qh qg qf qe qd qc qb qa qt qq qp rE rD rC rB rA rz ry ru rq rp rm rk rj rh ra qZ fc ey ew ev eu ej eh ed dZ dY dX dW dV dU dT dS dR dQ dP dO dN dM dL dK dJ dI dH dG dF dE dD dC dB dA dz dy dx dw du dt fq fp gm iu ir ik ij ig ie ib gZ gY gX gW gV gU gT gS gR gQ gP gO gN gM gK gJ gI gH gG gF gE gB gA kL kK kJ kI kG kF kE kD kC kB ky kv ku kj kf ke j9 j8 j7 j6 j5 j4 jZ jY jX jW jV jU jT jS jR jQ jP jO jN jM jL jK jJ jI jH jG jF jE jD jC jB gj gi gh gg gf gd ga fZ fY fX tO tN tM tL tK tJ tI tH tG tF nT nR nQ nP nO nM nL nJ nI nH nG nF nE nD nB nA nz ny nv nu nt nr np nk nj ni nh ng nc na m9 m8 m7 mZ mY mX mW mV mU mT mS mR mQ mP mO mN mM mL mK mJ mI mH:Value} (fb sb mb rb gx SZ CL FR K D palN cx co pc gz:Nat) (pa:Option Addr) (out:List One) (x:Nat->Nat) (v5 v6:Value) (w:World)
  (hs0:w.cell? ⟨sb,0,none⟩=some (.slice (some ⟨gz,0,none⟩) out.length co)) (hz:Hid (ZAt w (.slice (some ⟨gz,0,none⟩) out.length co) out)) (r2:w.cell? ⟨rb,2,none⟩=some (.int .i64 (FR:Int))) (r3:w.cell? ⟨rb,3,none⟩=some (.int .i64 (CL:Int))) (r4:w.cell? ⟨rb,4,none⟩=some (.int .i64 (SZ:Int)))
  (f3:w.cell? ⟨fb,3,none⟩=some (.int .i64 (D:Int))) (f4:w.cell? ⟨fb,4,none⟩=some (.int .i64 (K:Int))) (f8:w.cell? ⟨fb,8,none⟩=some (.slice pa palN pc)) (m5:w.cell? ⟨mb,5,none⟩=some v5) (m6:w.cell? ⟨mb,6,none⟩=some v6)
  (hx:Hid (fC w gx SZ x)) (hfz:∀ k,w.frozen? ⟨mb,k,none⟩=false) (n1:sb≠mb) (n2:rb≠mb) (n4:gz≠mb) (hfr:FR+SZ<out.length) (b1:SZ<=1000) (b2:FR<=100000) (b6:out.length<=4294967296) (b7:CL<=1000) (b8:palN<=1048576) (hD:Hid (okD D)) (hk:Hid (K=3->∀ k,k<CL->(k+1)*D<=8*SZ))
  (hQn:Hid (wM K D (palN / 3) CL x=false->∀ v4 uu uP jA jz jy jx jw jv ju jt js jr jq jo jn jm jl jk jj ji jh jg jf je jd jc jb ja iZ iY iX iW iV iU iT iS iR iQ iP iO iN iM iL iK iJ iI iH iG iF W',Kept w W'->Q .normal ⟨#[.pointer (some ⟨fb,0,none⟩),.pointer (some ⟨sb,0,none⟩),u2,u3,v4,u5,.pointer (some ⟨mb,0,none⟩),u7,u8,u9,rS,.pointer (some ⟨rb,0,none⟩),tP,ux,.slice (some ⟨gx,0,none⟩) SZ cx,se,u16,uu,uP,oY,oX,oW,oV,oU,oT,oS,oR,oQ,oP,oO,oN,oM,u32,oL,oK,oJ,oI,oH,oG,oF,oE,oD,oC,oB,oA,oz,oy,ox,ow,ou,ot,oq,oo,om,oj,oi,oh,og,oe,od,ob,oa,nZ,nY,u64,pS,pR,qn,qm,ql,qk,qj,qi,qh,qg,qf,qe,qd,qc,qb,qa,qt,qq,qp,rE,rD,rC,rB,rA,rz,ry,ru,rq,rp,rm,rk,rj,rh,ra,qZ,fc,ey,ew,ev,eu,ej,eh,ed,dZ,dY,dX,dW,dV,dU,dT,dS,dR,dQ,dP,dO,dN,dM,dL,dK,dJ,dI,dH,dG,dF,dE,dD,dC,dB,dA,dz,dy,dx,dw,du,dt,fq,fp,gm,iu,ir,ik,ij,ig,ie,ib,gZ,gY,gX,gW,gV,gU,gT,gS,gR,gQ,gP,gO,gN,gM,gK,gJ,gI,gH,gG,gF,gE,gB,gA,jA,jz,jy,jx,jw,jv,ju,jt,js,jr,jq,jo,jn,jm,jl,jk,jj,ji,jh,jg,jf,je,jd,jc,jb,ja,iZ,iY,iX,iW,iV,iU,iT,iS,iR,iQ,iP,iO,iN,iM,iL,iK,iJ,iI,iH,iG,iF,gj,gi,gh,gg,gf,gd,ga,fZ,fY,fX,tO,tN,tM,tL,tK,tJ,tI,tH,tG,tF,nT,nR,nQ,nP,nO,nM,nL,nJ,nI,nH,nG,nF,nE,nD,nB,nA,nz,ny,nv,nu,nt,nr,np,nk,nj,ni,nh,ng,nc,na,m9,m8,m7,mZ,mY,mX,mW,mV,mU,mT,mS,mR,mQ,mP,mO,mN,mM,mL,mK,mJ,mI,mH],[]⟩ W'))
  (hQr:Hid (wM K D (palN / 3) CL x=true->∀ uu uP jA jz jy jx jw jv ju jt js jr jq jo jn jm jl jk jj ji jh jg jf je jd jc jb ja iZ iY iX iW iV iU iT iS iR iQ iP iO iN iM iL iK iJ iI iH iG iF W' W1,Kept w W1->W'=(((W1.setCell ⟨mb,5,none⟩ (.int .i64 16)).setCell ⟨mb,6,none⟩ (.int .i64 (pAt out (FR+SZ):Int)))).drew->Q .ret ⟨#[.pointer (some ⟨fb,0,none⟩),.pointer (some ⟨sb,0,none⟩),u2,u3,.pointer (some ⟨mb,0,none⟩),u5,.pointer (some ⟨mb,0,none⟩),u7,u8,u9,rS,.pointer (some ⟨rb,0,none⟩),tP,ux,.slice (some ⟨gx,0,none⟩) SZ cx,se,u16,uu,uP,oY,oX,oW,oV,oU,oT,oS,oR,oQ,oP,oO,oN,oM,u32,oL,oK,oJ,oI,oH,oG,oF,oE,oD,oC,oB,oA,oz,oy,ox,ow,ou,ot,oq,oo,om,oj,oi,oh,og,oe,od,ob,oa,nZ,nY,u64,pS,pR,qn,qm,ql,qk,qj,qi,qh,qg,qf,qe,qd,qc,qb,qa,qt,qq,qp,rE,rD,rC,rB,rA,rz,ry,ru,rq,rp,rm,rk,rj,rh,ra,qZ,fc,ey,ew,ev,eu,ej,eh,ed,dZ,dY,dX,dW,dV,dU,dT,dS,dR,dQ,dP,dO,dN,dM,dL,dK,dJ,dI,dH,dG,dF,dE,dD,dC,dB,dA,dz,dy,dx,dw,du,dt,fq,fp,gm,iu,ir,ik,ij,ig,ie,ib,gZ,gY,gX,gW,gV,gU,gT,gS,gR,gQ,gP,gO,gN,gM,gK,gJ,gI,gH,gG,gF,gE,gB,gA,jA,jz,jy,jx,jw,jv,ju,jt,js,jr,jq,jo,jn,jm,jl,jk,jj,ji,jh,jg,jf,je,jd,jc,jb,ja,iZ,iY,iX,iW,iV,iU,iT,iS,iR,iQ,iP,iO,iN,iM,iL,iK,iJ,iI,iH,iG,iF,gj,gi,gh,gg,gf,gd,ga,fZ,fY,fX,tO,tN,tM,tL,tK,tJ,tI,tH,tG,tF,nT,nR,nQ,nP,nO,nM,nL,nJ,nI,nH,nG,nF,nE,nD,nB,nA,nz,ny,nv,nu,nt,nr,np,nk,nj,ni,nh,ng,nc,na,m9,m8,m7,mZ,mY,mX,mW,mV,mU,mT,mS,mR,mQ,mP,mO,mN,mM,mL,mK,mJ,mI,mH],[]⟩ W')) :
  Code.wp Tryz.prog NF Q ⟨#[.pointer (some ⟨fb,0,none⟩),.pointer (some ⟨sb,0,none⟩),u2,u3,u4,u5,.pointer (some ⟨mb,0,none⟩),u7,u8,u9,rS,.pointer (some ⟨rb,0,none⟩),tP,ux,.slice (some ⟨gx,0,none⟩) SZ cx,se,u16,.int .i64 0,rR,oY,oX,oW,oV,oU,oT,oS,oR,oQ,oP,oO,oN,oM,u32,oL,oK,oJ,oI,oH,oG,oF,oE,oD,oC,oB,oA,oz,oy,ox,ow,ou,ot,oq,oo,om,oj,oi,oh,og,oe,od,ob,oa,nZ,nY,u64,pS,pR,qn,qm,ql,qk,qj,qi,qh,qg,qf,qe,qd,qc,qb,qa,qt,qq,qp,rE,rD,rC,rB,rA,rz,ry,ru,rq,rp,rm,rk,rj,rh,ra,qZ,fc,ey,ew,ev,eu,ej,eh,ed,dZ,dY,dX,dW,dV,dU,dT,dS,dR,dQ,dP,dO,dN,dM,dL,dK,dJ,dI,dH,dG,dF,dE,dD,dC,dB,dA,dz,dy,dx,dw,du,dt,fq,fp,gm,iu,ir,ik,ij,ig,ie,ib,gZ,gY,gX,gW,gV,gU,gT,gS,gR,gQ,gP,gO,gN,gM,gK,gJ,gI,gH,gG,gF,gE,gB,gA,kL,kK,kJ,kI,kG,kF,kE,kD,kC,kB,ky,kv,ku,kj,kf,ke,j9,j8,j7,j6,j5,j4,jZ,jY,jX,jW,jV,jU,jT,jS,jR,jQ,jP,jO,jN,jM,jL,jK,jJ,jI,jH,jG,jF,jE,jD,jC,jB,gj,gi,gh,gg,gf,gd,ga,fZ,fY,fX,tO,tN,tM,tL,tK,tJ,tI,tH,tG,tF,nT,nR,nQ,nP,nO,nM,nL,nJ,nI,nH,nG,nF,nE,nD,nB,nA,nz,ny,nv,nu,nt,nr,np,nk,nj,ni,nh,ng,nc,na,m9,m8,m7,mZ,mY,mX,mW,mV,mU,mT,mS,mR,mQ,mP,mO,mN,mM,mL,mK,mJ,mI,mH],[]⟩ w:=by
 conv=>arg 2;whnf
 go_wp2_with fail;go_loopg [17] CL (fun m uu W=>∃ k:Nat,k<=CL/\uu = .int .i64 (k:Int)/\m=CL - k/\Kept w W/\Hid (K=3->∀ j,j<k->¬ palN / 3<=qy D x j))
 case atStart=>exact ⟨0,by omega,rfl,by omega,Kept.refl _,fun _ j hj=>by omega⟩
 case round=>
  obtain ⟨k,hkl,rfl,hm,hw,HN⟩:=hrel;have HM:Hid _:=hm;have HW:Hid (Kept w wr):=hw;have lsb:sb<w.heap.size:=World.block_lt_of_cell? _ _ hs0;have lrb:rb<w.heap.size:=World.block_lt_of_cell? _ _ r2;have lfb:fb<w.heap.size:=World.block_lt_of_cell? _ _ f3;have lmb:mb<w.heap.size:=World.block_lt_of_cell? _ _ m5;have s0:=(hw.cell (p:=⟨sb,0,none⟩) lsb).trans hs0;have q2:=(hw.cell (p:=⟨rb,2,none⟩) lrb).trans r2;have q3:=(hw.cell (p:=⟨rb,3,none⟩) lrb).trans r3;have q4:=(hw.cell (p:=⟨rb,4,none⟩) lrb).trans r4;have g3:=(hw.cell (p:=⟨fb,3,none⟩) lfb).trans f3;have g4:=(hw.cell (p:=⟨fb,4,none⟩) lfb).trans f4;have g8:=(hw.cell (p:=⟨fb,8,none⟩) lfb).trans f8;have h5:=(hw.cell (p:=⟨mb,5,none⟩) lmb).trans m5;have h6:=(hw.cell (p:=⟨mb,6,none⟩) lmb).trans m6;have hf1:∀ k,wr.frozen? ⟨mb,k,none⟩=false:=fun k=>(hw.frozen (p:=⟨mb,k,none⟩) lmb).trans (hfz k)
  clear hm hw;by_cases c:k<CL/\K=3
  ·obtain ⟨c1,c2⟩:=c
   subst c2;have hci:(k:Int)<(CL:Int):=by omega
   have HZ:=hz.out.fr (S:=fun _=>False) (Fr.of_kept HW.out) (fun g hg e=>e);obtain ⟨g,hg,z0,z1⟩:=HZ.cells _ _ rfl (FR+SZ) (by omega)
   injection hg with hg
   injection hg with hg
   subst hg;have HX:Hid (fC wr gx SZ x):=by
    by_cases h0:SZ=0
    ·subst h0;exact ⟨(fun j hj=>by omega),(fun j hj=>by omega)⟩
    ·exact hx.out.kept (by omega) HW.out
   obtain ⟨V,hV⟩:∃ V,V=qy D x k:=⟨_,rfl⟩;have FS:Hid (Calls Tryz.prog 73 #[.slice (some ⟨gx,0,none⟩) SZ cx,.int .i64 (k:Int),.int .i64 (D:Int)] wr fun r w'=>r = .returned (.int .i64 (V:Int))/\Kept wr w'):=by
    have:=BJ gx SZ cx k D x wr HX.out hD.out (hk.out rfl k c1) (by omega)
    rw[<- hV] at this;exact this
   have HV:Hid _:=hV;obtain ⟨A,hA⟩:∃ A,A=pAt out (FR+SZ):=⟨_,rfl⟩;rw[<- hA] at z1;have HA:Hid _:=hA;have HZ1:Hid _:=z1;clear hV z0 HZ hA z1 hs0 r2 r3 r4 f3 f4 f8 m5 m6 hfz;go_wp2_with fail;refine FS.out.mono ?_;rintro r w1 ⟨rfl,hw1⟩;have lsb1:sb<wr.heap.size:=World.block_lt_of_cell? _ _ s0;have lrb1:rb<wr.heap.size:=World.block_lt_of_cell? _ _ q2;have lfb1:fb<wr.heap.size:=World.block_lt_of_cell? _ _ g3;have lmb1:mb<wr.heap.size:=World.block_lt_of_cell? _ _ h5;have s0':=(hw1.cell (p:=⟨sb,0,none⟩) lsb1).trans s0;have q2':=(hw1.cell (p:=⟨rb,2,none⟩) lrb1).trans q2;have q4':=(hw1.cell (p:=⟨rb,4,none⟩) lrb1).trans q4;have g8':=(hw1.cell (p:=⟨fb,8,none⟩) lfb1).trans g8;have h5':=(hw1.cell (p:=⟨mb,5,none⟩) lmb1).trans h5;have h6':=(hw1.cell (p:=⟨mb,6,none⟩) lmb1).trans h6;have hf1':∀ k,w1.frozen? ⟨mb,k,none⟩=false:=fun k=>(hw1.frozen (p:=⟨mb,k,none⟩) lmb1).trans (hf1 k)
   have lgz:gz<wr.heap.size:=World.block_lt_of_cell? _ _ HZ1.out;have z1':=(hw1.cell (p:=⟨gz,(FR+SZ)*2+1,none⟩) lgz).trans HZ1.out;have HW1:Hid (Kept w w1):=HW.out.trans hw1;clear s0 q2 q3 q4 g3 g4 g8 h5 h6 hf1 hw1 HZ1;by_cases e:palN / 3<=V
   ·have HB:Hid (wM 3 D (palN / 3) CL x=true):=IX rfl c1 (by rw[<- HV.out];exact e)
    have ei:(palN:Int) / 3<=(V:Int):=by omega
    clear e;obtain ⟨P,hP⟩:∃ P,P=FR+SZ:=⟨_,rfl⟩;rw[<- hP] at z1';have w1':IntKind.i64.wrap ((FR:Int)+(SZ:Int))=(P:Int):=by rw[IntKind.wrap_i64];omega
    have w2':IntKind.i64.wrap (P:Int)=(P:Int):=by rw[IntKind.wrap_i64];omega
    have hPl:(P:Int)<(out.length:Int):=by omega
    have hPn:(0:Int)<=(P:Int):=by omega
    have k0:=(ax (b:=mb) w1 5 0 (.int .i64 16) n1).trans s0';have k2:=(ax (b:=mb) w1 5 2 (.int .i64 16) n2).trans q2';have k4:=(ax (b:=mb) w1 5 4 (.int .i64 16) n2).trans q4';have kz:=(ax (b:=mb) w1 5 (P*2+1) (.int .i64 16) n4).trans z1';have k6:(w1.setCell ⟨mb,5,none⟩ (.int .i64 16)).cell? ⟨mb,6,none⟩=some v6:=(aa _ _ _ _ _ (by omega)).trans h6';have HP:Hid _:=hP;clear hP;go_wp2_with fail;go_region_held3 (fun W=>W.cell? ⟨sb,0,none⟩=some (.slice (some ⟨gz,0,none⟩) out.length co)/\W.cell? ⟨rb,2,none⟩=some (.int .i64 (FR:Int))/\W.cell? ⟨rb,4,none⟩=some (.int .i64 (SZ:Int))/\W.cell? ⟨gz,P*2+1,none⟩=some (.int .i64 (A:Int))) (first | exact ⟨k0,k2,k4,kz⟩ | exact ⟨(ax _ _ _ _ (by omega)).trans k0,(ax _ _ _ _ (by omega)).trans k2,(ax _ _ _ _ (by omega)).trans k4,(ax _ _ _ _ (by omega)).trans kz⟩ | go_keep) (fail)
    go_wp2_with fail;refine hQr.out HB.out _ _ _ _ _ _ _ _ _ _ _ _ _ _ _ _ _ _ _ _ _ _ _ _ _ _ _ _ _ _ _ _ _ _ _ _ _ _ _ _ _ _ _ _ _ _ _ _ _ _ _ HW1.out ?_;rw[<- HA.out]
   ·have HB:Hid (¬ palN / 3<=V):=e
    have ei:¬ (palN:Int) / 3<=(V:Int):=by omega
    clear e;go_wp2_with fail;go_roundg (CL - (k+1))
    case measure=>have:=HM.out;omega
    refine ⟨k+1,by omega,by go_num,rfl,HW1.out,fun q j hj => ?_⟩;by_cases e:j=k
    ·subst e;rw[<- HV.out];exact HB.out
    ·exact HN.out (by first | rfl | trivial) j (by omega)
  ·have HB:Hid (wM K D (palN / 3) CL x=false):=KU (fun q j hj=>HN.out q j (by omega))
   clear hs0 r2 r3 r4 f3 f4 f8 m5 m6 hfz;by_cases c1:k<CL
   ·have c2:((K:Int) == 3)=false:=by rw[beq_eq_false_iff_ne];omega
    have hci:(k:Int)<(CL:Int):=by omega
    clear c;go_wp2_with fail;exact hQn.out HB.out _ _ _ _ _ _ _ _ _ _ _ _ _ _ _ _ _ _ _ _ _ _ _ _ _ _ _ _ _ _ _ _ _ _ _ _ _ _ _ _ _ _ _ _ _ _ _ _ _ _ _ HW.out
   ·have hci:¬ (k:Int)<(CL:Int):=by omega
    clear c;go_wp2_with fail;exact hQn.out HB.out _ _ _ _ _ _ _ _ _ _ _ _ _ _ _ _ _ _ _ _ _ _ _ _ _ _ _ _ _ _ _ _ _ _ _ _ _ _ _ _ _ _ _ _ _ _ _ _ _ _ _ HW.out
