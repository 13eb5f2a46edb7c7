import Derived.Test.YtmbmecfodigciaaGreatDoorTu19
import Derived.Test.YtmbmecfodigciaaGreatDoorTu35
import Derived.Test.YtmbmecfodigciaaGreatDoorTu36
set_option maxRecDepth 100000
set_option maxHeartbeats 6400000
namespace Go.Proofs.YtmbmecfodigciaaGreatDoor
open Go.RowKit Px
set_option linter.unusedSimpArgs false
set_option linter.unusedVariables false
def fileX (W H D K L:Nat) (pal clr:List Int) (PL:List (List Int)):List Int:=
 signI++chB ihdr (hdI W H D K L)++palB pal++clrB K clr++chL PL++chB iend []
theorem strB_pos (V:Nat) (BL:List (Nat × List Nat)):16<=(strB V BL).length:=by
 unfold strB
 rw[List.length_append,xb_len];omega
theorem write_x (W H K D L P V:Nat) (srch:Int) (pp qp xp fp kp cp:Option Addr) (pc qc xc fc kc cc:Nat) (pal clr pix fl kl cl rl:List Int) (w:World) (hI:OkIm W H K D pal clr pix) (hL:L<=1) (hkl0:0<kl.length) (hkl1:kl.length<=64) (hkl2:∀ y ∈ kl,0<=y/\y<=2) (hcl0:0<cl.length) (hcl1:cl.length<=64) (hcl2:∀ y ∈ cl,0<=y/\y<=65536) (hcl3:1<=cl.getD 0 0) (hP1:1<=P) (hPb:P<=1048576) (hrl0:0<rl.length) (hrl1:rl.length<=9000) (hV:V<=7)
  (hp:LAt w .i64 (.slice pp pal.length pc) pal) (hq:LAt w .i64 (.slice qp clr.length qc) clr) (hkk:LAt w .i64 (.slice kp kl.length kc) kl) (hcc:LAt w .i64 (.slice cp cl.length cc) cl)
  (hcb:∀ g,sliceBlock (.slice cp cl.length cc)=some g->g<w.heap.size)
  (hFB:∀ W0:World,Kept w W0->Calls Tryz.prog 68 #[.agg #[.int .i64 (W:Int),.int .i64 (H:Int),.int .i64 (D:Int),.int .i64 (K:Int),.int .i64 (L:Int)],.slice xp pix.length xc,.slice fp fl.length fc] W0 fun r w'=>∃ ov,r = .returned ov/\OwnB w' W0.heap.size ov rl/\Kept W0 w') :
  Calls Tryz.prog 50 #[.agg #[.int .i64 (W:Int),.int .i64 (H:Int),.int .i64 (K:Int),.int .i64 (D:Int),.slice pp pal.length pc,.slice qp clr.length qc,.slice xp pix.length xc],.agg #[.int .i64 (L:Int),.slice fp fl.length fc,.slice kp kl.length kc,.int .i64 (P:Int),.slice cp cl.length cc,.int .i64 (V:Int),.int .i64 srch]] w fun r w'=>∃ PL,r = .returned (.string (strOfNums (fileX W H D K L pal clr PL)))/\PL≠[]/\isBytes PL.flatten/\PL.flatten.length<=65536/\(fileX W H D K L pal clr PL).length<=90000000/\flat8 (nl PL.flatten)=strB V (blL P kl rl.length 0 rl)/\Kept w w':=by
 have HFE0:∀ PL,fileX W H D K L pal clr PL=signI++chB ihdr (hdI W H D K L)++palB pal++clrB K clr++chL PL++chB iend []:=fun _=>rfl
 generalize fileX W H D K L pal clr=FX0 at *
 have HFE:Hid (∀ PL,FX0 PL=signI++chB ihdr (hdI W H D K L)++palB pal++clrB K clr++chL PL++chB iend []):=HFE0
 clear HFE0
 have hk0:Kept w (((w.alloc (Obj.cells #[.int .i64 (W:Int),.int .i64 (H:Int),.int .i64 (K:Int),.int .i64 (D:Int),.slice pp pal.length pc,.slice qp clr.length qc,.slice xp pix.length xc] 33)).alloc (Obj.cells #[.int .i64 (L:Int),.slice fp fl.length fc,.slice kp kl.length kc,.int .i64 (P:Int),.slice cp cl.length cc,.int .i64 (V:Int),.int .i64 srch] 35)).alloc (Obj.cells #[.int .i64 (W:Int),.int .i64 (H:Int),.int .i64 (D:Int),.int .i64 (K:Int),.int .i64 (L:Int)] 71)):=Below.alloc (Below.alloc (Below.alloc (Below.refl _ _) (Nat.le_refl _) _) (by simp) _) (by simp;omega) _
 have hs0:(((w.alloc (Obj.cells #[.int .i64 (W:Int),.int .i64 (H:Int),.int .i64 (K:Int),.int .i64 (D:Int),.slice pp pal.length pc,.slice qp clr.length qc,.slice xp pix.length xc] 33)).alloc (Obj.cells #[.int .i64 (L:Int),.slice fp fl.length fc,.slice kp kl.length kc,.int .i64 (P:Int),.slice cp cl.length cc,.int .i64 (V:Int),.int .i64 srch] 35)).alloc (Obj.cells #[.int .i64 (W:Int),.int .i64 (H:Int),.int .i64 (D:Int),.int .i64 (K:Int),.int .i64 (L:Int)] 71)).heap.size=w.heap.size+3:=by simp
 have hA0:∀ W':World,(∀ (b j:Nat),w.heap.size<=b->b<w.heap.size+3->W'.cell? ⟨b,j,none⟩=(((w.alloc (Obj.cells #[.int .i64 (W:Int),.int .i64 (H:Int),.int .i64 (K:Int),.int .i64 (D:Int),.slice pp pal.length pc,.slice qp clr.length qc,.slice xp pix.length xc] 33)).alloc (Obj.cells #[.int .i64 (L:Int),.slice fp fl.length fc,.slice kp kl.length kc,.int .i64 (P:Int),.slice cp cl.length cc,.int .i64 (V:Int),.int .i64 srch] 35)).alloc (Obj.cells #[.int .i64 (W:Int),.int .i64 (H:Int),.int .i64 (D:Int),.int .i64 (K:Int),.int .i64 (L:Int)] 71)).cell? ⟨b,j,none⟩)->W'.cell? ⟨w.heap.size,0,none⟩=some (.int .i64 (W:Int))/\W'.cell? ⟨w.heap.size,1,none⟩=some (.int .i64 (H:Int))/\W'.cell? ⟨w.heap.size,2,none⟩=some (.int .i64 (K:Int))/\W'.cell? ⟨w.heap.size,3,none⟩=some (.int .i64 (D:Int))/\W'.cell? ⟨w.heap.size,4,none⟩=some (.slice pp pal.length pc)/\W'.cell? ⟨w.heap.size,5,none⟩=some (.slice qp clr.length qc)/\W'.cell? ⟨w.heap.size,6,none⟩=some (.slice xp pix.length xc)/\W'.cell? ⟨w.heap.size+1,0,none⟩=some (.int .i64 (L:Int))/\W'.cell? ⟨w.heap.size+1,1,none⟩=some (.slice fp fl.length fc)/\W'.cell? ⟨w.heap.size+1,2,none⟩=some (.slice kp kl.length kc)/\W'.cell? ⟨w.heap.size+1,3,none⟩=some (.int .i64 (P:Int))/\W'.cell? ⟨w.heap.size+1,4,none⟩=some (.slice cp cl.length cc)/\W'.cell? ⟨w.heap.size+1,5,none⟩=some (.int .i64 (V:Int))/\W'.cell? ⟨w.heap.size+1,6,none⟩=some (.int .i64 srch)/\W'.cell? ⟨w.heap.size+1+1,0,none⟩=some (.int .i64 (W:Int))/\W'.cell? ⟨w.heap.size+1+1,1,none⟩=some (.int .i64 (H:Int))/\W'.cell? ⟨w.heap.size+1+1,2,none⟩=some (.int .i64 (D:Int))/\W'.cell? ⟨w.heap.size+1+1,3,none⟩=some (.int .i64 (K:Int))/\W'.cell? ⟨w.heap.size+1+1,4,none⟩=some (.int .i64 (L:Int)):=by
  intro W' hh
  have i1:∀ j,W'.cell? ⟨w.heap.size,j,none⟩=#[Value.int .i64 (W:Int),.int .i64 (H:Int),.int .i64 (K:Int),.int .i64 (D:Int),.slice pp pal.length pc,.slice qp clr.length qc,.slice xp pix.length xc][j]? := fun j=>by
   rw[hh _ _ (by omega) (by omega),World.cell?_alloc_lt _ _ _ (by simp;omega),World.cell?_alloc_lt _ _ _ (by simp),World.cell?_alloc_at _ _ _ _ rfl]
  have i2:∀ j,W'.cell? ⟨w.heap.size+1,j,none⟩=#[Value.int .i64 (L:Int),.slice fp fl.length fc,.slice kp kl.length kc,.int .i64 (P:Int),.slice cp cl.length cc,.int .i64 (V:Int),.int .i64 srch][j]? := fun j=>by
   rw[hh _ _ (by omega) (by omega),World.cell?_alloc_lt _ _ _ (by simp),World.cell?_alloc_at _ _ _ _ (by simp)]
  have i3:∀ j,W'.cell? ⟨w.heap.size+1+1,j,none⟩=#[Value.int .i64 (W:Int),.int .i64 (H:Int),.int .i64 (D:Int),.int .i64 (K:Int),.int .i64 (L:Int)][j]? := fun j=>by
   rw[hh _ _ (by omega) (by omega),World.cell?_alloc_at _ _ _ _ (by simp)]
  exact ⟨i1 0,i1 1,i1 2,i1 3,i1 4,i1 5,i1 6,i2 0,i2 1,i2 2,i2 3,i2 4,i2 5,i2 6,i3 0,i3 1,i3 2,i3 3,i3 4⟩
 have FB:=hFB (((w.alloc (Obj.cells #[.int .i64 (W:Int),.int .i64 (H:Int),.int .i64 (K:Int),.int .i64 (D:Int),.slice pp pal.length pc,.slice qp clr.length qc,.slice xp pix.length xc] 33)).alloc (Obj.cells #[.int .i64 (L:Int),.slice fp fl.length fc,.slice kp kl.length kc,.int .i64 (P:Int),.slice cp cl.length cc,.int .i64 (V:Int),.int .i64 srch] 35)).alloc (Obj.cells #[.int .i64 (W:Int),.int .i64 (H:Int),.int .i64 (D:Int),.int .i64 (K:Int),.int .i64 (L:Int)] 71)) hk0
 have HCC:Hid (∀ y ∈ cl,0<=y/\y<=65536):=hcl2
 clear hFB hcl2
 replace FB:Hid _:=FB
 replace hA0:Hid _:=hA0
 go_enter Tryz.func50,Tryz.ntmps50
 go_wp2_with fail
 generalize (((w.alloc (Obj.cells #[.int .i64 (W:Int),.int .i64 (H:Int),.int .i64 (K:Int),.int .i64 (D:Int),.slice pp pal.length pc,.slice qp clr.length qc,.slice xp pix.length xc] 33)).alloc (Obj.cells #[.int .i64 (L:Int),.slice fp fl.length fc,.slice kp kl.length kc,.int .i64 (P:Int),.slice cp cl.length cc,.int .i64 (V:Int),.int .i64 srch] 35)).alloc (Obj.cells #[.int .i64 (W:Int),.int .i64 (H:Int),.int .i64 (D:Int),.int .i64 (K:Int),.int .i64 (L:Int)] 71))=w0 at *
 refine Calls.mono FB.out ?_
 rintro r w1 ⟨ov,rfl,ho,hk1⟩
 obtain ⟨g1,c1,rfl,hc1,hg1⟩:=ho.cap hrl0
 have hK1:Kept w w1:=hk0.trans hk1
 have FJ:=stream_x g1 0 c1 (.slice kp kl.length kc) (.slice fp fl.length fc) (.slice cp cl.length cc) rl kl (L:Int) srch P V w1 ho.lat ho.1 hc1 (hkk.kept hK1) (by omega) hrl0 hkl0 hkl1 hkl2 hP1 hPb hV
 replace FJ:Hid _:=FJ
 have hs1:=hk1.size
 obtain ⟨z0,z1,z2,z3,z4,z5,z6,z7,z8,z9,z10,z11,z12,z13,z14,z15,z16,z17,z18⟩:=hA0.out w1 (fun b j b1 b2=>hk1.cell (p:=⟨b,j,none⟩) (by show b<_;omega))
 replace hrl0:Hid _:=hrl0
 have hrl2:Hid (rl.length<=9000):=hrl1
 clear hrl1 hkl2
 replace ho:Hid _:=ho
 go_wp2_with fail
 refine Calls.mono FJ.out ?_
 rintro r w2 ⟨ov2,sl,rfl,ho2,hsl1,hsl2,hk2⟩
 have hszl:0<sl.length:=by
  have h1:=congrArg List.length hsl2
  rw[flat8_len,nl_len] at h1
  have h2:=strB_pos V (blL P kl rl.length 0 rl)
  omega
 have hszu:sl.length<=65536:=by have:=hrl2.out;omega
 replace hsl2:Hid _:=hsl2
 clear hsl1
 obtain ⟨g2,c2,rfl,hc2,hg2⟩:=ho2.cap hszl
 have hsb:=ho2.1
 have hsa:=ho2.lat
 clear z0 z1 z2 z3 z4 z5 z6 z7 z8 z9 z10 z11 z12 z13 z14 z15 z16 z17 z18 FJ ho
 have HSB:Hid (isBytes sl):=hsb
 have hK2:Kept w w2:=hK1.trans hk2
 have FBg:Hid (∀ W':World,Calls Tryz.prog 70 #[] W' fun r w'=>∃ g,r = .returned (.agg #[.slice (some ⟨g,0,none⟩) 8 8])/\W'.heap.size<=g/\(∀ j,j<8->w'.cell? ⟨g,j,none⟩=some (.int .u8 (signI.getD j 0)))/\Kept W' w'):=begin_b
 go_wp2_with fail
 refine (FBg.out _).mono ?_
 rintro r w3 ⟨g3,rfl,hg3,hbc,hk3⟩
 have hK3:Kept w w3:=hK2.trans hk3
 have hK03:Kept w0 w3:=(hk1.trans hk2).trans hk3
 have hs3:=hK03.size
 have hg3':g3<w3.heap.size:=World.block_lt_of_cell? _ _ (hbc 0 (by omega))
 have hk4:Kept w3 (w3.alloc (Obj.cells #[.slice (some ⟨g3,0,none⟩) 8 8] 122)):=Below.alloc (Below.refl _ _) (Nat.le_refl _) _
 have HF:WrFB (w3.alloc (Obj.cells #[.slice (some ⟨g3,0,none⟩) 8 8] 122)) w3.heap.size (w3.heap.size+1) g3 (S0 w3.heap.size (w3.heap.size+1)):=⟨by omega,by simp,fun k=>World.frozen?_alloc_at _ _ _ _ rfl,Or.inl rfl,fun g hg=>Or.inr (by simp at hg;omega),by rw[World.cell?_alloc_at _ _ _ _ rfl];rfl,by omega,fun j hj=>(hk4.cell (p:=⟨g3,j,none⟩) hg3').trans (hbc j hj)⟩
 have FH:=headC_b w3.heap.size (w3.heap.size+1) g3 W H D K L _ HF hI.w2 hI.h2 hI.lg.k6.2 hI.lg.k6.1 hL
 obtain ⟨A0,hA00⟩:∃ A0,A0=signI++chB ihdr (hdI W H D K L):=⟨_,rfl⟩
 have hA0l:A0.length=33:=by rw[hA00,List.length_append,chB_len];rfl
 rw[<- hA00] at FH
 replace HFE:Hid (∀ PL,FX0 PL=A0++palB pal++clrB K clr++chL PL++chB iend []):=fun PL=>by rw[hA00];exact HFE.out PL
 clear hA00
 replace FH:Hid _:=FH
 obtain ⟨z0,z1,z2,z3,z4,z5,z6,z7,z8,z9,z10,z11,z12,z13,z14,z15,z16,z17,z18⟩:=hA0.out (w3.alloc (Obj.cells #[.slice (some ⟨g3,0,none⟩) 8 8] 122)) (fun b j b1 b2=>((hK03.trans hk4).cell (p:=⟨b,j,none⟩) (by show b<_;omega)))
 go_wp2_with fail
 refine Calls.mono FH.out ?_
 rintro r w5 ⟨rfl,hP5⟩
 have hK4:Kept w (w3.alloc (Obj.cells #[.slice (some ⟨g3,0,none⟩) 8 8] 122)):=hK3.trans hk4
 have hK04:Kept w0 (w3.alloc (Obj.cells #[.slice (some ⟨g3,0,none⟩) 8 8] 122)):=hK03.trans hk4
 have hsa4:LAt (w3.alloc (Obj.cells #[.slice (some ⟨g3,0,none⟩) 8 8] 122)) .u8 (.slice (some ⟨g2,0,none⟩) sl.length c2) sl:=(hsa.kept hk3).kept hk4
 have hg2x:g2<w3.heap.size:=Nat.lt_of_lt_of_le (hsa.lt hszl g2 rfl) hk3.size
 clear z0 z1 z2 z3 z4 z5 z6 z7 z8 z9 z10 z11 z12 z13 z14 z15 z16 z17 z18 FH HF hbc
 generalize (w3.alloc (Obj.cells #[.slice (some ⟨g3,0,none⟩) 8 8] 122))=w4 at *
 generalize w3.heap.size=x at *
 have hs4:=hK04.size
 have HA:Hid (∀ (W':World) (m:List Int),PutB x (x+1) m (S0 x (x+1)) w4 W'->W'.cell? ⟨w.heap.size,0,none⟩=some (.int .i64 (W:Int))/\W'.cell? ⟨w.heap.size,1,none⟩=some (.int .i64 (H:Int))/\W'.cell? ⟨w.heap.size,2,none⟩=some (.int .i64 (K:Int))/\W'.cell? ⟨w.heap.size,3,none⟩=some (.int .i64 (D:Int))/\W'.cell? ⟨w.heap.size,4,none⟩=some (.slice pp pal.length pc)/\W'.cell? ⟨w.heap.size,5,none⟩=some (.slice qp clr.length qc)/\W'.cell? ⟨w.heap.size,6,none⟩=some (.slice xp pix.length xc)/\W'.cell? ⟨w.heap.size+1,0,none⟩=some (.int .i64 (L:Int))/\W'.cell? ⟨w.heap.size+1,1,none⟩=some (.slice fp fl.length fc)/\W'.cell? ⟨w.heap.size+1,2,none⟩=some (.slice kp kl.length kc)/\W'.cell? ⟨w.heap.size+1,3,none⟩=some (.int .i64 (P:Int))/\W'.cell? ⟨w.heap.size+1,4,none⟩=some (.slice cp cl.length cc)/\W'.cell? ⟨w.heap.size+1,5,none⟩=some (.int .i64 (V:Int))/\W'.cell? ⟨w.heap.size+1,6,none⟩=some (.int .i64 srch)/\W'.cell? ⟨w.heap.size+1+1,0,none⟩=some (.int .i64 (W:Int))/\W'.cell? ⟨w.heap.size+1+1,1,none⟩=some (.int .i64 (H:Int))/\W'.cell? ⟨w.heap.size+1+1,2,none⟩=some (.int .i64 (D:Int))/\W'.cell? ⟨w.heap.size+1+1,3,none⟩=some (.int .i64 (K:Int))/\W'.cell? ⟨w.heap.size+1+1,4,none⟩=some (.int .i64 (L:Int))):=fun W' m hP=>hA0.out W' (fun b j b1 b2=>(hP.fr.cell (by omega) (by show ¬ (b=x\/x+1<=b);omega)).trans (hK04.cell (p:=⟨b,j,none⟩) (by show b<_;omega)))
 have HLst:Hid (∀ (W':World) (m:List Int) (v:Value) (l:List Int),PutB x (x+1) m (S0 x (x+1)) w4 W'->LAt w .i64 v l->0<l.length->LAt W' .i64 v l):=fun W' m v l hP hl h0=>(hl.kept hK4).fr hP.fr (fun g hg=>by have:=hl.lt h0 g hg;show ¬ (g=x\/x+1<=g);have:=hk0.size;omega)
 have FD:Hid (∀ (W':World) (m:List Int),PutB x (x+1) m (S0 x (x+1)) w4 W'->0<m.length->m.length<=10000000->Calls Tryz.prog 76 #[.pointer (some ⟨x,0,none⟩),.slice (some ⟨g2,0,none⟩) sl.length c2,.slice cp cl.length cc] W' fun r w'=>r = .returned (.tuple #[])/\∃ PL:List (List Int),PL≠[]/\PL.flatten=sl/\(chL PL).length<=60000000/\PutB x (x+1) (m++chL PL) (S0 x (x+1)) W' w'):=by
  intro W' m hP h0 h1
  exact wdata_x x (x+1) g2 0 c2 m (S0 x (x+1)) (.slice cp cl.length cc) sl cl W' hP.at' h0 h1 (hsa4.fr hP.fr (fun g hg=>by
   have:g2=g:=by injection hg
   show ¬ (g=x\/x+1<=g);omega)) hsb hc2 hszl hszu (by show ¬ (g2=x\/x+1<=g2);omega) ((hcc.kept hK4).fr hP.fr (fun g hg=>by have:=hcb g hg;show ¬ (g=x\/x+1<=g);have:=hk0.size;omega)) hcl0 hcl1 (fun g hg=>by have:=hcb g hg;show ¬ (g=x\/x+1<=g);have:=hk0.size;omega) HCC.out hcl3
 have FE:Hid (∀ (W':World) (m:List Int),PutB x (x+1) m (S0 x (x+1)) w4 W'->0<m.length->m.length<=100000000->Calls Tryz.prog 77 #[.pointer (some ⟨x,0,none⟩)] W' fun r w'=>r = .returned (.tuple #[])/\PutB x (x+1) (m++chB iend []) (S0 x (x+1)) W' w'):=fun W' m hP h0 h1=>endw_b x (x+1) m _ W' hP.at' h0 (by omega)
 have FT:Hid (∀ (W':World) (m:List Int),PutB x (x+1) m (S0 x (x+1)) w4 W'->0<m.length->m.length<=100000000->Calls Tryz.prog 78 #[.pointer (some ⟨x,0,none⟩)] W' fun r w'=>r = .returned (.string (strOfNums m))/\Kept W' w'):=fun W' m hP h0 h1=>text_b x (x+1) m _ W' hP.at' h0 (by omega)
 have hplb:Hid (pal.length<=768):=by
  show _<=_
  by_cases h3:K=3
  ·obtain ⟨n,a,b,c⟩:=hI.pal3 h3
   have hd:D=1\/D=2\/D=4\/D=8:=by have:=hI.lg;unfold legal at this;omega
   have:=pow8_le hd
   omega
  ·rw[hI.palN h3];simp
 have hclb:Hid (clr.length<=65536):=by
  show _<=_
  rcases hI.clr with e | ⟨_,e2,_⟩ | ⟨e1,_,e3,_⟩
  ·rw[e];simp
  ·have:=(@chan_le K).2;omega
  ·have:=hplb.out;omega
 have FSg:Hid (∀ (W':World) (m:List Int),PutB x (x+1) m (S0 x (x+1)) w4 W'->0<pal.length->Calls Tryz.prog 73 #[.slice pp pal.length pc] W' fun r w'=>∃ ov:Value,r = .returned ov/\MadeB W' w' ov pal):=fun W' m hP h0=>singles_b _ pal W' (HLst.out W' m _ pal hP hp h0) (by have:=hplb.out;omega) hI.palB
 have FCl:Hid (∀ (W':World) (m:List Int),PutB x (x+1) m (S0 x (x+1)) w4 W'->0<clr.length->Calls Tryz.prog 75 #[.agg #[.int .i64 (W:Int),.int .i64 (H:Int),.int .i64 (K:Int),.int .i64 (D:Int),.slice pp pal.length pc,.slice qp clr.length qc,.slice xp pix.length xc]] W' fun r w'=>∃ ov:Value,r = .returned ov/\MadeB W' w' ov (if (K:Int)=3 then clr else twoB clr)):=by
  intro W' m hP h0
  refine clearOf_b (W:Int) (H:Int) (K:Int) (D:Int) _ _ _ clr W' (HLst.out W' m _ clr hP hq h0) hclb.out ?_ ?_
  ·intro y hy
   rcases hI.clr with e | ⟨_,_,e3⟩ | ⟨_,_,_,e4⟩
   ·rw[e] at hy;simp at hy
   ·have h1:=e3 y hy
    have h2:=pow_le hI.lg.d
    omega
   ·have:=e4 y hy;omega
  ·intro h3 y hy
   rcases hI.clr with e | ⟨h4,_,_⟩ | ⟨_,_,_,e4⟩
   ·rw[e] at hy;simp at hy
   ·omega
   ·exact e4 y hy
 have HKx:Hid (∀ (W':World) (m:List Int),PutB x (x+1) m (S0 x (x+1)) w4 W'->Kept w W'):=fun W' m hP=>Fr.to_kept hK4 hP.fr (fun i hi=>by show ¬ (i=x\/x+1<=i);have:=hk0.size;omega)
 clear hA0 FB hp hq hkk hcc hcb hsa hsa4 hsb ho2 hK1 hK2 hK3 hK4 hK03 hK04 hk1 hk2 hk3 hk4 FBg hI hc2
 obtain ⟨z0,z1,z2,z3,z4,z5,z6,z7,z8,z9,z10,z11,z12,z13,z14,z15,z16,z17,z18⟩:=HA.out w5 A0 hP5
 replace hP5:Hid (PutB x (x+1) A0 (S0 x (x+1)) w4 w5):=hP5
 rcases Nat.eq_zero_or_pos pal.length with hp0 | hp0
 ·have hp0':(pal.length:Int)=0:=by omega
  have HPL:Hid (palB pal=[]):=by show palB pal=[];unfold palB;rw[if_pos hp0]
  rcases Nat.eq_zero_or_pos clr.length with hc0 | hc0
  ·have hc0':(clr.length:Int)=0:=by omega
   have HCL:Hid (clrB K clr=[]):=by show clrB K clr=[];unfold clrB;rw[if_pos hc0]
   have HM1:Hid (0<(A0).length/\(A0).length<=300000):=by show 0<A0.length/\A0.length<=300000;omega
   have F9:=FD.out w5 (A0) hP5.out HM1.out.1 (by have:=HM1.out.2;omega)
   replace F9:Hid _:=F9
   go_wp2_with fail
   refine Calls.mono F9.out ?_
   rintro r w9 ⟨rfl,PL,hPn,hPf,hPb2,hw9⟩
   obtain ⟨M1,hM1⟩:∃ M1,M1=A0++chL PL:=⟨_,rfl⟩
   have HMd:Hid (0<M1.length/\M1.length<=70000000):=by
    show 0<M1.length/\M1.length<=70000000
    rw[hM1,List.length_append];have:=HM1.out;omega
   obtain ⟨M2,hM2⟩:∃ M2,M2=M1++chB iend []:=⟨_,rfl⟩
   have HMe:Hid (0<M2.length/\M2.length<=80000000):=by
    show 0<M2.length/\M2.length<=80000000
    rw[hM2,List.length_append,chB_len];have:=HMd.out;simp;omega
   have HFF:Hid (M2=FX0 PL):=by show M2=FX0 PL;rw[hM2,hM1,HFE.out,HPL.out,HCL.out];try (first | rfl | simp only [List.append_nil,List.append_assoc])
   rw[<- hM1] at hw9
   have F10:Hid (∀ W',PutB x (x+1) M1 (S0 x (x+1)) w4 W'->Calls Tryz.prog 77 #[.pointer (some ⟨x,0,none⟩)] W' fun r w'=>r = .returned (.tuple #[])/\PutB x (x+1) M2 (S0 x (x+1)) W' w'):=fun W' hP=>by rw[hM2];exact FE.out W' M1 hP HMd.out.1 (by have:=HMd.out.2;omega)
   clear z0 z1 z2 z3 z4 z5 z6 z7 z8 z9 z10 z11 z12 z13 z14 z15 z16 z17 z18
   have P9:Hid (PutB x (x+1) M1 (S0 x (x+1)) w4 w9):=hP5.out.trans hw9
   replace hM1:Hid _:=hM1
   replace hM2:Hid _:=hM2
   replace hPn:Hid _:=hPn
   replace hPf:Hid _:=hPf
   clear hw9 hPb2
   go_wp2_with fail
   refine (F10.out w9 P9.out).mono ?_
   rintro r w10 ⟨rfl,hw10⟩
   have P10:Hid (PutB x (x+1) M2 (S0 x (x+1)) w4 w10):=P9.out.trans hw10
   clear hw10
   go_wp2_with fail
   refine (FT.out w10 _ P10.out HMe.out.1 (by have:=HMe.out.2;omega)).mono ?_
   rintro r w11 ⟨rfl,hk11⟩
   have HK:Hid (Kept w w11):=(HKx.out w10 _ P10.out).trans hk11
   clear hk11
   go_wp2
   go_ret
   exact ⟨PL,by rw[HFF.out];rfl,hPn.out,by rw[hPf.out];exact HSB.out,by rw[hPf.out];exact hszu,by rw[<- HFF.out];have:=HMe.out.2;omega,by rw[hPf.out];exact hsl2.out,HK.out⟩
  ·have hc0':(0:Int)<(clr.length:Int):=by omega
   have FX:=FCl.out w5 _ hP5.out (by omega)
   obtain ⟨CL,hCL⟩:∃ CL:List Int,CL=(if (K:Int)=3 then clr else twoB clr):=⟨_,rfl⟩
   rw[<- hCL] at FX
   have hCLb:Hid (0<CL.length/\CL.length<=131072):=by
    show 0<CL.length/\CL.length<=131072
    have:=hclb.out
    rw[hCL]
    split
    ·omega
    ·rw[twoB_len];omega
   have HCL:Hid (clrB K clr=chB trns CL):=by show clrB K clr=chB trns CL;unfold clrB;rw[if_neg (show ¬ clr.length=0 by omega),<- hCL]
   replace FX:Hid _:=FX
   clear hCL
   rw[hp0] at FX
   go_wp2_with fail
   refine Calls.mono FX.out ?_
   rintro r w7 ⟨ov,rfl,⟨hLb,hLa,hnn,hnew,hk7⟩⟩
   obtain ⟨d,o,c',rfl,hcell⟩:=hLa.addr hCLb.out.1
   have hd7:d<w7.heap.size:=World.block_lt_of_cell? _ _ (hcell 0 hCLb.out.1)
   have FY:=clrw_b x (x+1) (A0) (S1 x (x+1) d) _ CL w7 (WrB.apart hP5.out.at' hk7 (hnew d rfl) hd7) (by omega) hLa hLb hnn (fun g hg e=>e.2 (by injection hg with hg;exact hg.symm)) (by omega) (by have:=hCLb.out;omega)
   replace FY:Hid _:=FY
   replace hk7:Hid _:=hk7
   clear hcell hLa hnn hnew hLb
   go_wp2_with fail
   refine Calls.mono FY.out ?_
   rintro r w8 ⟨rfl,hw8⟩
   have P8:Hid (PutB x (x+1) (A0++chB trns CL) (S0 x (x+1)) w4 w8):=PutB.step hP5.out hk7.out hw8
   clear hw8 z0 z1 z2 z3 z4 z5 z6 z7 z8 z9 z10 z11 z12 z13 z14 z15 z16 z17 z18
   obtain ⟨z0,z1,z2,z3,z4,z5,z6,z7,z8,z9,z10,z11,z12,z13,z14,z15,z16,z17,z18⟩:=HA.out w8 _ P8.out
   have HM1:Hid (0<(A0++chB trns CL).length/\(A0++chB trns CL).length<=300000):=by show 0<(A0++chB trns CL).length/\(A0++chB trns CL).length<=300000;rw[List.length_append,chB_len];have:=hCLb.out;omega
   have F9:=FD.out w8 (A0++chB trns CL) P8.out HM1.out.1 (by have:=HM1.out.2;omega)
   replace F9:Hid _:=F9
   go_wp2_with fail
   refine Calls.mono F9.out ?_
   rintro r w9 ⟨rfl,PL,hPn,hPf,hPb2,hw9⟩
   obtain ⟨M1,hM1⟩:∃ M1,M1=A0++chB trns CL++chL PL:=⟨_,rfl⟩
   have HMd:Hid (0<M1.length/\M1.length<=70000000):=by
    show 0<M1.length/\M1.length<=70000000
    rw[hM1,List.length_append];have:=HM1.out;omega
   obtain ⟨M2,hM2⟩:∃ M2,M2=M1++chB iend []:=⟨_,rfl⟩
   have HMe:Hid (0<M2.length/\M2.length<=80000000):=by
    show 0<M2.length/\M2.length<=80000000
    rw[hM2,List.length_append,chB_len];have:=HMd.out;simp;omega
   have HFF:Hid (M2=FX0 PL):=by show M2=FX0 PL;rw[hM2,hM1,HFE.out,HPL.out,HCL.out];try (first | rfl | simp only [List.append_nil,List.append_assoc])
   rw[<- hM1] at hw9
   have F10:Hid (∀ W',PutB x (x+1) M1 (S0 x (x+1)) w4 W'->Calls Tryz.prog 77 #[.pointer (some ⟨x,0,none⟩)] W' fun r w'=>r = .returned (.tuple #[])/\PutB x (x+1) M2 (S0 x (x+1)) W' w'):=fun W' hP=>by rw[hM2];exact FE.out W' M1 hP HMd.out.1 (by have:=HMd.out.2;omega)
   clear z0 z1 z2 z3 z4 z5 z6 z7 z8 z9 z10 z11 z12 z13 z14 z15 z16 z17 z18
   have P9:Hid (PutB x (x+1) M1 (S0 x (x+1)) w4 w9):=P8.out.trans hw9
   replace hM1:Hid _:=hM1
   replace hM2:Hid _:=hM2
   replace hPn:Hid _:=hPn
   replace hPf:Hid _:=hPf
   clear hw9 hPb2
   go_wp2_with fail
   refine (F10.out w9 P9.out).mono ?_
   rintro r w10 ⟨rfl,hw10⟩
   have P10:Hid (PutB x (x+1) M2 (S0 x (x+1)) w4 w10):=P9.out.trans hw10
   clear hw10
   go_wp2_with fail
   refine (FT.out w10 _ P10.out HMe.out.1 (by have:=HMe.out.2;omega)).mono ?_
   rintro r w11 ⟨rfl,hk11⟩
   have HK:Hid (Kept w w11):=(HKx.out w10 _ P10.out).trans hk11
   clear hk11
   go_wp2
   go_ret
   exact ⟨PL,by rw[HFF.out];rfl,hPn.out,by rw[hPf.out];exact HSB.out,by rw[hPf.out];exact hszu,by rw[<- HFF.out];have:=HMe.out.2;omega,by rw[hPf.out];exact hsl2.out,HK.out⟩
 ·have hp0':(0:Int)<(pal.length:Int):=by omega
  have HPL:Hid (palB pal=chB plte pal):=by show palB pal=chB plte pal;unfold palB;rw[if_neg (by omega)]
  have FX:=FSg.out w5 A0 hP5.out hp0
  replace FX:Hid _:=FX
  have hplb':=hplb.out
  go_wp2_with fail
  refine Calls.mono FX.out ?_
  rintro r w6 ⟨ov,rfl,⟨hLb,hLa,hnn,hnew,hk6⟩⟩
  obtain ⟨d,o,c',rfl,hcell⟩:=hLa.addr (by omega)
  have hd6:d<w6.heap.size:=World.block_lt_of_cell? _ _ (hcell 0 (by omega))
  have FY:=palw_b x (x+1) A0 (S1 x (x+1) d) _ pal w6 (WrB.apart hP5.out.at' hk6 (hnew d rfl) hd6) (by omega) hLa hLb hnn (fun g hg e=>e.2 (by injection hg with hg;exact hg.symm)) (by omega) (by omega)
  replace FY:Hid _:=FY
  replace hk6:Hid _:=hk6
  clear hcell hLa hnn hnew hLb
  go_wp2_with fail
  refine Calls.mono FY.out ?_
  rintro r w6b ⟨rfl,hw6⟩
  have P6:Hid (PutB x (x+1) (A0++chB plte pal) (S0 x (x+1)) w4 w6b):=PutB.step hP5.out hk6.out hw6
  have hA6:Hid (0<(A0++chB plte pal).length/\(A0++chB plte pal).length<=1000):=by show 0<(A0++chB plte pal).length/\(A0++chB plte pal).length<=1000;rw[List.length_append,chB_len];omega
  obtain ⟨A1,hA1⟩:∃ A1,A1=A0++chB plte pal:=⟨_,rfl⟩
  replace HPL:Hid (A0++palB pal=A1):=by show A0++palB pal=A1;rw[HPL.out,hA1]
  rw[<- hA1] at P6 hA6
  clear hA1
  clear hw6 z0 z1 z2 z3 z4 z5 z6 z7 z8 z9 z10 z11 z12 z13 z14 z15 z16 z17 z18
  obtain ⟨z0,z1,z2,z3,z4,z5,z6,z7,z8,z9,z10,z11,z12,z13,z14,z15,z16,z17,z18⟩:=HA.out w6b _ P6.out
  rcases Nat.eq_zero_or_pos clr.length with hc0 | hc0
  ·have hc0':(clr.length:Int)=0:=by omega
   have HCL:Hid (clrB K clr=[]):=by show clrB K clr=[];unfold clrB;rw[if_pos hc0]
   have HM1:Hid (0<(A1).length/\(A1).length<=300000):=by have:=hA6.out;show 0<A1.length/\A1.length<=300000;omega
   have F9:=FD.out w6b (A1) P6.out HM1.out.1 (by have:=HM1.out.2;omega)
   replace F9:Hid _:=F9
   go_wp2_with fail
   refine Calls.mono F9.out ?_
   rintro r w9 ⟨rfl,PL,hPn,hPf,hPb2,hw9⟩
   obtain ⟨M1,hM1⟩:∃ M1,M1=A1++chL PL:=⟨_,rfl⟩
   have HMd:Hid (0<M1.length/\M1.length<=70000000):=by
    show 0<M1.length/\M1.length<=70000000
    rw[hM1,List.length_append];have:=HM1.out;omega
   obtain ⟨M2,hM2⟩:∃ M2,M2=M1++chB iend []:=⟨_,rfl⟩
   have HMe:Hid (0<M2.length/\M2.length<=80000000):=by
    show 0<M2.length/\M2.length<=80000000
    rw[hM2,List.length_append,chB_len];have:=HMd.out;simp;omega
   have HFF:Hid (M2=FX0 PL):=by show M2=FX0 PL;rw[hM2,hM1,HFE.out,HPL.out,HCL.out];try (first | rfl | simp only [List.append_nil,List.append_assoc])
   rw[<- hM1] at hw9
   have F10:Hid (∀ W',PutB x (x+1) M1 (S0 x (x+1)) w4 W'->Calls Tryz.prog 77 #[.pointer (some ⟨x,0,none⟩)] W' fun r w'=>r = .returned (.tuple #[])/\PutB x (x+1) M2 (S0 x (x+1)) W' w'):=fun W' hP=>by rw[hM2];exact FE.out W' M1 hP HMd.out.1 (by have:=HMd.out.2;omega)
   clear z0 z1 z2 z3 z4 z5 z6 z7 z8 z9 z10 z11 z12 z13 z14 z15 z16 z17 z18
   have P9:Hid (PutB x (x+1) M1 (S0 x (x+1)) w4 w9):=P6.out.trans hw9
   replace hM1:Hid _:=hM1
   replace hM2:Hid _:=hM2
   replace hPn:Hid _:=hPn
   replace hPf:Hid _:=hPf
   clear hw9 hPb2
   go_wp2_with fail
   refine (F10.out w9 P9.out).mono ?_
   rintro r w10 ⟨rfl,hw10⟩
   have P10:Hid (PutB x (x+1) M2 (S0 x (x+1)) w4 w10):=P9.out.trans hw10
   clear hw10
   go_wp2_with fail
   refine (FT.out w10 _ P10.out HMe.out.1 (by have:=HMe.out.2;omega)).mono ?_
   rintro r w11 ⟨rfl,hk11⟩
   have HK:Hid (Kept w w11):=(HKx.out w10 _ P10.out).trans hk11
   clear hk11
   go_wp2
   go_ret
   exact ⟨PL,by rw[HFF.out];rfl,hPn.out,by rw[hPf.out];exact HSB.out,by rw[hPf.out];exact hszu,by rw[<- HFF.out];have:=HMe.out.2;omega,by rw[hPf.out];exact hsl2.out,HK.out⟩
  ·have hc0':(0:Int)<(clr.length:Int):=by omega
   have FX:=FCl.out w6b _ P6.out (by omega)
   obtain ⟨CL,hCL⟩:∃ CL:List Int,CL=(if (K:Int)=3 then clr else twoB clr):=⟨_,rfl⟩
   rw[<- hCL] at FX
   have hCLb:Hid (0<CL.length/\CL.length<=131072):=by
    show 0<CL.length/\CL.length<=131072
    have:=hclb.out
    rw[hCL]
    split
    ·omega
    ·rw[twoB_len];omega
   have HCL:Hid (clrB K clr=chB trns CL):=by show clrB K clr=chB trns CL;unfold clrB;rw[if_neg (show ¬ clr.length=0 by omega),<- hCL]
   replace FX:Hid _:=FX
   clear hCL
   go_wp2_with fail
   refine Calls.mono FX.out ?_
   rintro r w7 ⟨ov,rfl,⟨hLb,hLa,hnn,hnew,hk7⟩⟩
   obtain ⟨d,o,c',rfl,hcell⟩:=hLa.addr hCLb.out.1
   have hd7:d<w7.heap.size:=World.block_lt_of_cell? _ _ (hcell 0 hCLb.out.1)
   have FY:=clrw_b x (x+1) (A1) (S1 x (x+1) d) _ CL w7 (WrB.apart P6.out.at' hk7 (hnew d rfl) hd7) hA6.out.1 hLa hLb hnn (fun g hg e=>e.2 (by injection hg with hg;exact hg.symm)) (by have:=hA6.out.2;omega) (by have:=hCLb.out;omega)
   replace FY:Hid _:=FY
   replace hk7:Hid _:=hk7
   clear hcell hLa hnn hnew hLb
   go_wp2_with fail
   refine Calls.mono FY.out ?_
   rintro r w8 ⟨rfl,hw8⟩
   have P8:Hid (PutB x (x+1) (A1++chB trns CL) (S0 x (x+1)) w4 w8):=PutB.step P6.out hk7.out hw8
   clear hw8 z0 z1 z2 z3 z4 z5 z6 z7 z8 z9 z10 z11 z12 z13 z14 z15 z16 z17 z18
   obtain ⟨z0,z1,z2,z3,z4,z5,z6,z7,z8,z9,z10,z11,z12,z13,z14,z15,z16,z17,z18⟩:=HA.out w8 _ P8.out
   have HM1:Hid (0<(A1++chB trns CL).length/\(A1++chB trns CL).length<=300000):=by show 0<(A1++chB trns CL).length/\(A1++chB trns CL).length<=300000;rw[List.length_append,chB_len];have:=hCLb.out;have:=hA6.out;omega
   have F9:=FD.out w8 (A1++chB trns CL) P8.out HM1.out.1 (by have:=HM1.out.2;omega)
   replace F9:Hid _:=F9
   go_wp2_with fail
   refine Calls.mono F9.out ?_
   rintro r w9 ⟨rfl,PL,hPn,hPf,hPb2,hw9⟩
   obtain ⟨M1,hM1⟩:∃ M1,M1=A1++chB trns CL++chL PL:=⟨_,rfl⟩
   have HMd:Hid (0<M1.length/\M1.length<=70000000):=by
    show 0<M1.length/\M1.length<=70000000
    rw[hM1,List.length_append];have:=HM1.out;omega
   obtain ⟨M2,hM2⟩:∃ M2,M2=M1++chB iend []:=⟨_,rfl⟩
   have HMe:Hid (0<M2.length/\M2.length<=80000000):=by
    show 0<M2.length/\M2.length<=80000000
    rw[hM2,List.length_append,chB_len];have:=HMd.out;simp;omega
   have HFF:Hid (M2=FX0 PL):=by show M2=FX0 PL;rw[hM2,hM1,HFE.out,HPL.out,HCL.out];try (first | rfl | simp only [List.append_nil,List.append_assoc])
   rw[<- hM1] at hw9
   have F10:Hid (∀ W',PutB x (x+1) M1 (S0 x (x+1)) w4 W'->Calls Tryz.prog 77 #[.pointer (some ⟨x,0,none⟩)] W' fun r w'=>r = .returned (.tuple #[])/\PutB x (x+1) M2 (S0 x (x+1)) W' w'):=fun W' hP=>by rw[hM2];exact FE.out W' M1 hP HMd.out.1 (by have:=HMd.out.2;omega)
   clear z0 z1 z2 z3 z4 z5 z6 z7 z8 z9 z10 z11 z12 z13 z14 z15 z16 z17 z18
   have P9:Hid (PutB x (x+1) M1 (S0 x (x+1)) w4 w9):=P8.out.trans hw9
   replace hM1:Hid _:=hM1
   replace hM2:Hid _:=hM2
   replace hPn:Hid _:=hPn
   replace hPf:Hid _:=hPf
   clear hw9 hPb2
   go_wp2_with fail
   refine (F10.out w9 P9.out).mono ?_
   rintro r w10 ⟨rfl,hw10⟩
   have P10:Hid (PutB x (x+1) M2 (S0 x (x+1)) w4 w10):=P9.out.trans hw10
   clear hw10
   go_wp2_with fail
   refine (FT.out w10 _ P10.out HMe.out.1 (by have:=HMe.out.2;omega)).mono ?_
   rintro r w11 ⟨rfl,hk11⟩
   have HK:Hid (Kept w w11):=(HKx.out w10 _ P10.out).trans hk11
   clear hk11
   go_wp2
   go_ret
   exact ⟨PL,by rw[HFF.out];rfl,hPn.out,by rw[hPf.out];exact HSB.out,by rw[hPf.out];exact hszu,by rw[<- HFF.out];have:=HMe.out.2;omega,by rw[hPf.out];exact hsl2.out,HK.out⟩
