import Derived.Test.YtgooinallljbpaaGreatDoorTd16
import Derived.Deep.RegionWith
import Derived.Deep.RegionHeld3
set_option maxRecDepth 100000
set_option maxHeartbeats 6400000
namespace Go.Proofs.YtgooinallljbpaaGreatDoor
open Go.RowKit
set_option linter.unusedSimpArgs false
set_option linter.unusedVariables false
theorem eX (b B:Nat) (v:Value) (t:Px.Bt) (M:Nat) (w:World) (h:BAt w b v t) (ho:t.on=false) (hM:0<M) :
  Calls Tryz.prog 110 #[.pointer (some ⟨b,0,none⟩),.pointer (some ⟨B,0,none⟩),.int .i64 (M:Int)] w fun r w'=>r = .returned (.slice none 0 0)/\w'=w:=by
 have ON:Hid (Calls Tryz.prog 61 #[.pointer (some ⟨b,0,none⟩)] w fun r w'=>r = .returned (.bool false)/\w'=w):=by
  have:=a9 b v t w h;rw[ho] at this;exact this
 go_enter Tryz.func110,Tryz.ntmps110;go_wp2;go_loopw [7] (fun u W=>u = .slice none 0 0/\W=w) (fun _ _=>0)
 case atStart=>exact ⟨rfl,rfl⟩
 case round=>
  obtain ⟨rfl,rfl⟩:=hrel;go_wp2_with fail;refine ON.out.mono ?_;rintro r w1 ⟨rfl,rfl⟩;go_wp2;go_ret;exact ⟨rfl,rfl⟩
def vk:Array Value:=#[.int .i64 0,.int .i64 0,.int .i64 0,.int .i64 0,.int .i64 0,.int .i64 0,.int .i64 0,.int .i64 0,.int .i64 0,.int .i64 0,.int .i64 0,.int .i64 0,.int .i64 0,.int .i64 0,.int .i64 0,.int .i64 0,.int .i64 0,.int .i64 0,.int .i64 0]
theorem B8 (w:World):Sem.run Tryz.prog (Instr.makeSlice 30 (.int .i64 19) (.int .i64 19)) w = .ok (.slice (some ⟨w.heap.size,0,none⟩) 19 19) (w.alloc (.cells vk 3)):=by kernel_rfl
structure sg (w:World) (g:Nat) (cs:List Nat):Prop where
 len:cs.length=19
 cell:∀ i,i<19->w.cell? ⟨g,i,none⟩=some (.int .i64 (cs.getD i 0:Int))
 fz:∀ i,w.frozen? ⟨g,i,none⟩=false
theorem sg.lt {w:World} {g:Nat} {cs:List Nat} (h:sg w g cs):g<w.heap.size:=World.block_lt_of_cell? _ _ (h.cell 0 (by omega))
theorem sg.same {w w':World} {g:Nat} {cs:List Nat} (h:sg w g cs) (e:w'.heap[g]? = w.heap[g]?):sg w' g cs:=
 ⟨h.len,fun i hi=>(World.cell?_of_block (w:=w) e).trans (h.cell i hi),fun i=>(World.frozen?_of_block (w:=w) e).trans (h.fz i)⟩
theorem sg.fr {S:Nat->Prop} {w w':World} {g:Nat} {cs:List Nat} (h:sg w g cs) (k:Fr S w w') (hS:¬ S g):sg w' g cs:=h.same (k.block g h.lt hS)
theorem sg.set {w:World} {g:Nat} {cs:List Nat} (h:sg w g cs) (i x:Nat) (hi:i<19):sg (w.setCell ⟨g,i,none⟩ (.int .i64 (x:Int))) g (cs.set i x):=by
 refine ⟨by rw[List.length_set];exact h.len,?_,fun j=>by rw[World.frozen?_setCell];exact h.fz j⟩;intro j hj;by_cases e:j=i
 ·subst e
  rw[aj (h.cell j hj)]
  congr 2
  rw[List.getD_eq_getElem?_getD,List.getElem?_set_self (by rw[h.len];exact hj)];rfl
 ·rw[aa _ _ _ _ _ (fun q=>e q.symm),h.cell j hj]
  congr 3
  rw[List.getD_eq_getElem?_getD,List.getD_eq_getElem?_getD,List.getElem?_set_ne (fun q=>e q.symm)]
theorem sg.iat {w:World} {g:Nat} {cs:List Nat} (h:sg w g cs) (c:Nat):IAt w (.slice (some ⟨g,0,none⟩) 19 c) cs:=by
 refine ⟨⟨_,_,by rw[h.len]⟩,?_⟩;intro p c' hp i hi
 injection hp with hp _ _
 refine ⟨g,0,hp.symm,?_⟩;rw[Nat.zero_add];exact h.cell i (by rw[<- h.len];exact hi)
theorem uo {w3 w4:World} (hk:Kept (w3.alloc (.cells vk 3)) w4):sg w4 w3.heap.size (List.replicate 19 0):=by
 have hlt:w3.heap.size<(w3.alloc (.cells vk 3)).heap.size:=by simp
 refine ⟨by simp,?_,?_⟩
 ·intro i hi
  rw[hk.cell (p:=⟨w3.heap.size,i,none⟩) hlt,World.cell?_alloc_at _ _ _ _ rfl]
  match i,hi with
  | 0,_=>rfl | 1,_=>rfl | 2,_=>rfl | 3,_=>rfl | 4,_=>rfl | 5,_=>rfl | 6,_=>rfl | 7,_=>rfl | 8,_=>rfl | 9,_=>rfl
  | 10,_=>rfl | 11,_=>rfl | 12,_=>rfl | 13,_=>rfl | 14,_=>rfl | 15,_=>rfl | 16,_=>rfl | 17,_=>rfl | 18,_=>rfl
  | n+19,h=>exact absurd h (by omega)
 ·intro i
  rw[hk.frozen (p:=⟨w3.heap.size,i,none⟩) hlt];exact World.frozen?_alloc_at _ _ _ _ rfl
theorem IAt.take {w:World} {g c:Nat} {l:List Nat} (h:IAt w (.slice (some ⟨g,0,none⟩) l.length c) l) (k c':Nat) (hk:k<=l.length):IAt w (.slice (some ⟨g,0,none⟩) k c') (l.take k):=by
 have hl:(l.take k).length=k:=by rw[List.length_take];omega
 refine ⟨⟨_,_,by rw[hl]⟩,?_⟩;intro p c'' hp i hi;rw[hl] at hp hi
 injection hp with hp _ _
 obtain ⟨g',o',hp',hc⟩:=h.cells _ _ rfl i (by omega);refine ⟨g',o',by rw[<- hp];exact hp',?_⟩;rw[hc]
 congr 3
 rw[List.getD_eq_getElem?_getD,List.getD_eq_getElem?_getD,List.getElem?_take_of_lt hi]
theorem IAt.drop {w:World} {g c:Nat} {l:List Nat} (h:IAt w (.slice (some ⟨g,0,none⟩) l.length c) l) (k m c':Nat) (hk:m=l.length - k):IAt w (.slice (some ⟨g,k,none⟩) m c') (l.drop k):=by
 have hl:(l.drop k).length=m:=by rw[List.length_drop];omega
 refine ⟨⟨_,_,by rw[hl]⟩,?_⟩;intro p c'' hp i hi;rw[hl] at hp hi
 injection hp with hp _ _
 obtain ⟨g',o',hp',hc⟩:=h.cells _ _ rfl (k+i) (by omega)
 injection hp' with hp'
 injection hp' with h1 h2
 subst h1;subst h2;refine ⟨g,k,hp.symm,?_⟩;rw[Nat.zero_add] at hc;rw[hc]
 congr 3
 rw[List.getD_eq_getElem?_getD,List.getD_eq_getElem?_getD,List.getElem?_drop]
theorem Dy {W:World} {p:Option Addr} {n c:Nat} {l:List Nat} (h:IAt W (.slice p n c) l) (hn:0<n):0<l.length:=by
 obtain ⟨p',c',e⟩:=h.form
 injection e with e1 e2 e3
 omega
structure yR (w:World) (b:Nat) (v:Value) (z:List Px.One) (a0:Nat) (s:Px.St) (lv dv:Value) (W:World) (t':Px.Bt):Prop where
 bat:BAt W b v t'
 fr:Fr1 b w W
 st:(t'.cut=false/\t'.err=0/\t'.a<=8*z.length/\∃ lit dist,IAt W lv lit/\IAt W dv dist/\Px.bD lit/\Px.bD dist/\(∀ g,ae lv=some g->w.heap.size<=g)/\(∀ g,ae dv=some g->w.heap.size<=g)/\Px.Run z a0 (Px.coS s) t'.a { s with ph := .sym lit dist }/\0<lit.length/\0<dist.length)\/Px.Stop z a0 (Px.coS s) s.out t'
 lf:∃ p n c,lv = .slice p n c
 df:∃ p n c,dv = .slice p n c
theorem Ay (b:Nat) (v:Value) (z:List Px.One) (a0:Nat) (s:Px.St) (w:World) (h:BAt w b v ⟨a0,false,0⟩) (hz:ZAt w v z) (hv:∀ g,ae v=some g->g≠b) (hg:Px.good z) (ha:a0<=8*z.length) :
  Calls Tryz.prog 66 #[.pointer (some ⟨b,0,none⟩)] w fun r w'=>∃ (lv dv:Value) (t':Px.Bt),r = .returned (.tuple #[lv,dv])/\yR w b v z a0 s lv dv w' t':=by
 have hz2:=hg.2.1;have hbw:=h.lt;go_enter Tryz.func66,Tryz.ntmps66;go_wp2_with fail;refine (oa b v z ⟨a0,false,0⟩ 5 w h hz hv hg ha (by omega) rfl).mono ?_;rintro r w1 ⟨x1,rfl,hx1,hy1,hb1,hw1⟩
 -- the second and third number,whether or not the bits have ended
 have NUM:∀ (t:Px.Bt) (n:Nat) (W:World),BAt W b v t->Fr1 b w W->t.a<=8*z.length->n<=32->Calls Tryz.prog 59 #[.pointer (some ⟨b,0,none⟩),.int .i64 (n:Int)] W fun r w'=>∃ x:Nat,r = .returned (.int .i64 (x:Int))/\x<2^n/\(t.cut=false->t.a+n<=8*z.length->x=Px.ab z t.a n)/\BAt w' b v (t.num z n)/\Fr1 b w w':=by
  intro t n W hW hF hta hn;cases hc:t.cut
  ·refine (oa b v z t n W hW (hz.fr hF hv) hv hg hta hn hc).mono ?_
   rintro r w' ⟨x,rfl,h1,h2,h3,h4⟩;exact ⟨x,rfl,h1,fun _=>h2,h3,hF.trans h4⟩
  ·refine (Dl b v t n W hW hc).mono ?_
   rintro r w' ⟨rfl,rfl⟩;refine ⟨0,rfl,Nat.two_pow_pos n,(fun h=>by cases h),?_,hF⟩;have e:t.num z n=t:=by unfold Px.Bt.num;rw[if_pos hc]
   rw[e];exact hW
 have numa:∀ (t:Px.Bt) (n:Nat),t.a<=8*z.length->(t.num z n).a<=8*z.length:=by
  intro t n ht;unfold Px.Bt.num;split
  ·exact ht
  ·split
   ·assumption
   ·exact Nat.le_refl _
 have hNUM:Hid (∀ (t:Px.Bt) (n:Nat) (W:World),BAt W b v t->Fr1 b w W->t.a<=8*z.length->n<=32->Calls Tryz.prog 59 #[.pointer (some ⟨b,0,none⟩),.int .i64 (n:Int)] W fun r w'=>∃ x:Nat,r = .returned (.int .i64 (x:Int))/\x<2^n/\(t.cut=false->t.a+n<=8*z.length->x=Px.ab z t.a n)/\BAt w' b v (t.num z n)/\Fr1 b w w'):=NUM;clear NUM;go_wp2_with fail;refine (hNUM.out _ 5 w1 hb1 hw1 (numa _ _ ha) (by omega)).mono ?_;rintro r w2 ⟨x2,rfl,hx2,hy2,hb2,hw2⟩;go_wp2_with fail;refine (hNUM.out _ 4 w2 hb2 hw2 (numa _ _ (numa _ _ ha)) (by omega)).mono ?_;rintro r w3 ⟨x3,rfl,hx3,hy3,hb3,hw3⟩;clear hNUM numa;by_cases h14:a0+14<=8*z.length
 ·obtain ⟨e3,e1,e2⟩:=Px.J5 h14
  rw[e3] at hb3;rw[e2] at hy3;rw[e1] at hy2;have q1:=hy1 (by omega);have q2:x2=Px.ab z (a0+5) 5:=hy2 rfl (by show a0+5+5<=_;omega);have q3:x3=Px.ab z (a0+10) 4:=hy3 rfl (by show a0+10+4<=_;omega);have c2:w3.cell? ⟨b,2,none⟩=some (.bool false):=hb3.c2;clear hy1 hy2 hy3 hb1 hb2 e1 e2 e3 hw1 hw2;by_cases hm:286<x1+257\/30<x2+1
  ·have FA:Hid (Calls Tryz.prog 60 #[.pointer (some ⟨b,0,none⟩),.int .i64 12] w3 fun r w'=>r = .returned (.tuple #[])/\BAt w' b v ⟨a0+14,false,12⟩/\Fr1 b w3 w'):=cV b v _ 12 w3 hb3 rfl rfl
   have hstop:Hid (Px.Stop z a0 (Px.coS s) s.out ⟨a0+14,false,12⟩) := .err a0 _ 12 _ (.refl _ _) (Px.AD h14 (by rw[<- q1,<- q2];exact hm)) rfl (by decide) h14;have ONF:Hid (∀ W,BAt W b v ⟨a0+14,false,12⟩->Calls Tryz.prog 61 #[.pointer (some ⟨b,0,none⟩)] W fun r w'=>r = .returned (.bool false)/\w'=W):=fun W hW=>a9 b v _ W hW
   have hx1':x1<32:=by omega
   have hx2':x2<32:=by omega
   have hx3':x3<16:=by omega
   have hmk:=B8;clear q1 q2 q3;rcases hm with hm | hm
   ·go_wp2_with fail
    refine FA.out.mono ?_;rintro r wf ⟨rfl,hbf,hwf⟩;have hwF:Fr1 b w wf:=hw3.trans hwf;go_wp2_with fail;refine (pR _).mono ?_;rintro r w4 ⟨rfl,ho4,hk4⟩;have hG:w.heap.size<=wf.heap.size:=hwF.size;have hcs4:=uo hk4;have hb4:BAt w4 b v _:=(hbf.kept ((Below.refl _ _).alloc (Nat.le_refl _) _)).kept hk4;have hF4:Fr1 b w w4:=(hwF.alloc _).kept hk4;have hz8:∀ x ∈ List.replicate 19 0,x<8:=fun x hx=>by rw[(List.mem_replicate.1 hx).2];omega
    have hcsh:Px.bD (List.replicate 19 0):=Px.iD _ hz8 (by simp);generalize wf.heap.size=G at *;clear hmk;go_wp2;go_loopw [9] (fun j W=>j = .int .i64 0/\W=w4) (fun _ _=>0)
    case atStart=>exact ⟨rfl,rfl⟩
    case round=>
     obtain ⟨rfl,rfl⟩:=hrel;go_wp2_with fail;refine (ONF.out _ hb4).mono ?_;rintro r w5 ⟨rfl,rfl⟩;go_wp2_with fail;refine (fX _ (List.replicate 19 0) false false _ (hcs4.iat 19) hcsh).mono ?_;rintro r w6 ⟨rfl,hk6⟩;have hb6:=hb4.kept hk6;have hcs6:=hcs4.same (hk6.block _ hcs4.lt);go_wp2_with fail;refine (ONF.out _ hb6).mono ?_;rintro r w6' ⟨rfl,rfl⟩;go_wp2_with fail;refine (fH _ (List.replicate 19 0) (fun k=>k=b) _ (hcs6.iat 19) hcsh (fun g hg=>by injection hg with hg;simp at hg;omega) (fun g hg=>by have:=hb6.lt;omega) (fun g hg=>by injection hg with hg;have:=hcs6.lt;simp at hg;omega)).mono ?_;rintro r w7 ⟨B,rfl,hB,hk7⟩;have hb7:=hb6.kept hk7;go_wp2_with fail;refine (eX b B v _ (x1+257+(x2+1)) _ hb7 rfl (by omega)).mono ?_;rintro r w8 ⟨rfl,rfl⟩;go_wp2_with fail;refine (ONF.out _ hb7).mono ?_;rintro r w8' ⟨rfl,rfl⟩;go_wp2;go_ret2;exact ⟨_,_,_,rfl,⟨hb7,(hF4.kept hk6).kept hk7,Or.inr hstop.out,⟨_,_,_,rfl⟩,⟨_,_,_,rfl⟩⟩⟩
   ·by_cases hm1:286<x1+257
    ·go_wp2_with fail
     refine FA.out.mono ?_;rintro r wf ⟨rfl,hbf,hwf⟩;have hwF:Fr1 b w wf:=hw3.trans hwf;go_wp2_with fail;refine (pR _).mono ?_;rintro r w4 ⟨rfl,ho4,hk4⟩;have hG:w.heap.size<=wf.heap.size:=hwF.size;have hcs4:=uo hk4;have hb4:BAt w4 b v _:=(hbf.kept ((Below.refl _ _).alloc (Nat.le_refl _) _)).kept hk4;have hF4:Fr1 b w w4:=(hwF.alloc _).kept hk4;have hz8:∀ x ∈ List.replicate 19 0,x<8:=fun x hx=>by rw[(List.mem_replicate.1 hx).2];omega
     have hcsh:Px.bD (List.replicate 19 0):=Px.iD _ hz8 (by simp);generalize wf.heap.size=G at *;clear hmk;go_wp2;go_loopw [9] (fun j W=>j = .int .i64 0/\W=w4) (fun _ _=>0)
     case atStart=>exact ⟨rfl,rfl⟩
     case round=>
      obtain ⟨rfl,rfl⟩:=hrel;go_wp2_with fail;refine (ONF.out _ hb4).mono ?_;rintro r w5 ⟨rfl,rfl⟩;go_wp2_with fail;refine (fX _ (List.replicate 19 0) false false _ (hcs4.iat 19) hcsh).mono ?_;rintro r w6 ⟨rfl,hk6⟩;have hb6:=hb4.kept hk6;have hcs6:=hcs4.same (hk6.block _ hcs4.lt);go_wp2_with fail;refine (ONF.out _ hb6).mono ?_;rintro r w6' ⟨rfl,rfl⟩;go_wp2_with fail;refine (fH _ (List.replicate 19 0) (fun k=>k=b) _ (hcs6.iat 19) hcsh (fun g hg=>by injection hg with hg;simp at hg;omega) (fun g hg=>by have:=hb6.lt;omega) (fun g hg=>by injection hg with hg;have:=hcs6.lt;simp at hg;omega)).mono ?_;rintro r w7 ⟨B,rfl,hB,hk7⟩;have hb7:=hb6.kept hk7;go_wp2_with fail;refine (eX b B v _ (x1+257+(x2+1)) _ hb7 rfl (by omega)).mono ?_;rintro r w8 ⟨rfl,rfl⟩;go_wp2_with fail;refine (ONF.out _ hb7).mono ?_;rintro r w8' ⟨rfl,rfl⟩;go_wp2;go_ret2;exact ⟨_,_,_,rfl,⟨hb7,(hF4.kept hk6).kept hk7,Or.inr hstop.out,⟨_,_,_,rfl⟩,⟨_,_,_,rfl⟩⟩⟩
    ·go_wp2_with fail
     refine FA.out.mono ?_;rintro r wf ⟨rfl,hbf,hwf⟩;have hwF:Fr1 b w wf:=hw3.trans hwf;go_wp2_with fail;refine (pR _).mono ?_;rintro r w4 ⟨rfl,ho4,hk4⟩;have hG:w.heap.size<=wf.heap.size:=hwF.size;have hcs4:=uo hk4;have hb4:BAt w4 b v _:=(hbf.kept ((Below.refl _ _).alloc (Nat.le_refl _) _)).kept hk4;have hF4:Fr1 b w w4:=(hwF.alloc _).kept hk4;have hz8:∀ x ∈ List.replicate 19 0,x<8:=fun x hx=>by rw[(List.mem_replicate.1 hx).2];omega
     have hcsh:Px.bD (List.replicate 19 0):=Px.iD _ hz8 (by simp);generalize wf.heap.size=G at *;clear hmk;go_wp2;go_loopw [9] (fun j W=>j = .int .i64 0/\W=w4) (fun _ _=>0)
     case atStart=>exact ⟨rfl,rfl⟩
     case round=>
      obtain ⟨rfl,rfl⟩:=hrel;go_wp2_with fail;refine (ONF.out _ hb4).mono ?_;rintro r w5 ⟨rfl,rfl⟩;go_wp2_with fail;refine (fX _ (List.replicate 19 0) false false _ (hcs4.iat 19) hcsh).mono ?_;rintro r w6 ⟨rfl,hk6⟩;have hb6:=hb4.kept hk6;have hcs6:=hcs4.same (hk6.block _ hcs4.lt);go_wp2_with fail;refine (ONF.out _ hb6).mono ?_;rintro r w6' ⟨rfl,rfl⟩;go_wp2_with fail;refine (fH _ (List.replicate 19 0) (fun k=>k=b) _ (hcs6.iat 19) hcsh (fun g hg=>by injection hg with hg;simp at hg;omega) (fun g hg=>by have:=hb6.lt;omega) (fun g hg=>by injection hg with hg;have:=hcs6.lt;simp at hg;omega)).mono ?_;rintro r w7 ⟨B,rfl,hB,hk7⟩;have hb7:=hb6.kept hk7;go_wp2_with fail;refine (eX b B v _ (x1+257+(x2+1)) _ hb7 rfl (by omega)).mono ?_;rintro r w8 ⟨rfl,rfl⟩;go_wp2_with fail;refine (ONF.out _ hb7).mono ?_;rintro r w8' ⟨rfl,rfl⟩;go_wp2;go_ret2;exact ⟨_,_,_,rfl,⟨hb7,(hF4.kept hk6).kept hk7,Or.inr hstop.out,⟨_,_,_,rfl⟩,⟨_,_,_,rfl⟩⟩⟩
  ·have hx1':x1<32:=by omega
   have hx2':x2<32:=by omega
   have hx3':x3<16:=by omega
   have hl1:x1+257<=286:=by omega
   have hl2:x2+1<=30:=by omega
   have hmk:=B8;have hstep:Hid (Px.Run z a0 (Px.coS s) (a0+14) (Px.shS s (x1+257) (x2+1) (x3+4) [])):=by
    have:=Px.AC (s:=s) h14 (by rw[<- q1];omega) (by rw[<- q2];omega)
    rw[<- q1,<- q2,<- q3] at this;exact .one this
   have ONT:Hid (∀ W a,BAt W b v ⟨a,false,0⟩->Calls Tryz.prog 61 #[.pointer (some ⟨b,0,none⟩)] W fun r w'=>r = .returned (.bool true)/\w'=W):=fun W a hW=>a9 b v _ W hW
   clear q1 q2 q3 hm;go_wp2_with fail;refine (pR _).mono ?_;rintro r w4 ⟨rfl,ho4,hk4⟩;have hG:w.heap.size<=w3.heap.size:=hw3.size;have hcs4:=uo hk4;have hb4:BAt w4 b v _:=(hb3.kept ((Below.refl _ _).alloc (Nat.le_refl _) _)).kept hk4;have hF4:Fr1 b w w4:=(hw3.alloc _).kept hk4;obtain ⟨G2,hG2,hG2'⟩:∃ G2,(w3.alloc (Obj.cells vk 3)).heap.size=G2/\w3.heap.size<G2:=⟨_,rfl,by simp⟩;rw[hG2] at ho4 ⊢;generalize w3.heap.size=G at *;clear hmk hG2;go_wp2;go_loopw [9] (fun j W=>∃ (i:Nat) (cs:List Nat) (t:Px.Bt),j = .int .i64 (i:Int)/\i<=x3+4/\sg W G cs/\(∀ x ∈ cs,x<8)/\BAt W b v t/\Fr (fun k=>k=b\/k=G) w4 W/\((∃ told a,t=⟨a,false,0⟩/\told.length=i/\(∀ x ∈ told,x<8)/\cs=Px.aM told/\a<=8*z.length/\Px.FQ z a0 s (x1+257) (x2+1) (x3+4) a told)\/Px.Stop z a0 (Px.coS s) s.out t)) (fun j _=>x3+4 - (intOf j).toNat)
   case atStart=>exact ⟨0,_,_,rfl,by omega,hcs4,(fun x hx=>by rw[(List.mem_replicate.1 hx).2];omega),hb4,Fr.refl _ _,Or.inl ⟨[],a0+14,rfl,rfl,by simp,rfl,h14,Or.inl ⟨by simp,hstep.out⟩⟩⟩
   case round=>
    obtain ⟨i,cs,t,rfl,hi,hcs,hc8,hb,hw,hst⟩:=hrel;have hFW:Fr1 b w wr:=hF4.trans' hw (fun k hk h=>by rcases h with h | h;exact h;omega);by_cases hlt:i<x3+4
    ·rcases hst with ⟨told,a,rfl,htl,ht8,rfl,hal,hso⟩ | hst
     ·have hrun:Hid (Px.Run z a0 (Px.coS s) a (Px.shS s (x1+257) (x2+1) (x3+4) told)):=by
       rcases hso with ⟨_,h6⟩ | ⟨h5,_⟩
       ·exact h6
       ·omega
      have hoi:∃ o,o=Px.x9.getD i 0/\o<19/\wr.cell? ⟨G2,i,none⟩=some (.int .i64 (o:Int)):=by
       refine ⟨_,rfl,Px.Dk i (by omega),?_⟩;obtain ⟨g,o,hp,hc⟩:=ho4.cells _ _ rfl i (by show i<19;omega)
       injection hp with hp
       injection hp with hp1 hp2
       subst hp1;subst hp2;rw[Nat.zero_add] at hc;rw[hw.cell (c:=G2) (World.block_lt_of_cell? _ _ hc) (by omega)];exact hc
      obtain ⟨o,ho,ho19,hoc⟩:=hoi;have NU:Hid (∀ W,BAt W b v ⟨a,false,0⟩->Fr1 b w W->Calls Tryz.prog 59 #[.pointer (some ⟨b,0,none⟩),.int .i64 3] W fun r w'=>∃ x:Nat,r = .returned (.int .i64 (x:Int))/\x<2^3/\(a+3<=8*z.length->x=Px.ab z a 3)/\BAt w' b v ((⟨a,false,0⟩:Px.Bt).num z 3)/\Fr1 b W w'):=fun W h1 h2=>oa b v z ⟨a,false,0⟩ 3 W h1 (hz.fr h2 hv) hv hg hal (by omega) rfl
      clear hso;go_wp2_with fail;refine (ONT.out _ _ hb).mono ?_;rintro r w5 ⟨rfl,rfl⟩;go_wp2_with fail;have hcsc:=hcs.cell o ho19;have hcsf:=hcs.fz o;have hGl:G2<w5.heap.size:=World.block_lt_of_cell? _ _ hoc;have hGl1:G<w5.heap.size:=hcs.lt;have hGb:G≠b:=by omega
      have hG2b:G2≠b:=by omega
      have hi19:(i:Int)<19:=by omega
      have hi0:(0:Int)<=(i:Int):=by omega
      have ho19i:(o:Int)<19:=by omega
      have ho0:(0:Int)<=(o:Int):=by omega
      have hb5:Hid (BAt w5 b v ⟨a,false,0⟩):=hb;have hF5:Hid (Fr1 b w w5):=hFW;have K1:Hid (sg w5 G (Px.aM told)/\(∀ x ∈ Px.aM told,x<8)/\BAt w5 b v ⟨a,false,0⟩/\Fr (fun k=>k=b\/k=G) w4 w5/\Fr1 b w w5/\told.length=i/\(∀ x ∈ told,x<8)/\a<=8*z.length/\i<=x3+4/\i<x3+4/\o=Px.x9.getD i 0):=⟨hcs,hc8,hb,hw,hFW,htl,ht8,hal,hi,hlt,ho⟩;clear hcs hc8 hb hw hFW htl ht8 hal hi hlt ho hz hv hg h hw3 hb3 hb4 hF4 ho4 hcs4 hk4 c2 hx1 hx2 hx3 ha hz2 h14;go_region_held3 (fun W=>W.cell? ⟨G2,i,none⟩=some (.int .i64 (o:Int))) (first | exact hoc | exact hoc6 | (rw[World.cell?_setCell_other _ _ _ _ (by intro e;injection e;omega)];exact hoc6) | go_keep) ((go_at_call 59;refine (NU.out _ (by exact hb5.out.same rfl) (by exact hF5.out.kept ⟨rfl,rfl,rfl,Nat.le_refl _,fun _ _=>rfl⟩)).mono ?_;rintro r w6 ⟨x,rfl,hx,hx2,hb6,hw6⟩;have hoc6:w6.cell? ⟨G2,i,none⟩=some (.int .i64 (o:Int)):=(hw6.cell hGl hG2b).trans hoc;have hcsc6:w6.cell? ⟨G,o,none⟩=_:=(hw6.cell hGl1 hGb).trans hcsc;have hcsf6:w6.frozen? ⟨G,o,none⟩=false:=(hw6.frozen hGl1 hGb).trans hcsf))
      go_wp2;obtain ⟨hcs,hc8,hb,hw,hFW,htl,ht8,hal,hi,hlt,ho⟩:=K1.out;have hx8:x<8:=by simpa using hx
      have hw6':Fr1 b w5 w6:=⟨hw6.os,hw6.tape,hw6.output,hw6.size,hw6.block⟩;have hF6:Fr (fun k=>k=b\/k=G) w4 (w6.setCell ⟨G,o,none⟩ (.int .i64 (x:Int))):=(hw.trans (hw6'.mono (fun i _ h=>Or.inl h))).setCell (Or.inl (Or.inr rfl)) _ _;have hcs6:=(hcs.fr hw6' hGb).set o x ho19;have hb7:=hb6.same (w':=w6.setCell ⟨G,o,none⟩ (.int .i64 (x:Int))) (Below.heap_setCell _ _ _ _ (fun e=>hGb e.symm));have hc8':∀ y ∈ (Px.aM told).set o x,y<8:=by
       intro y hy;rcases List.mem_or_eq_of_mem_set hy with hy | hy
       ·exact hc8 y hy
       ·omega
      refine ⟨⟨i+1,_,_,by go_num,by omega,hcs6,hc8',hb7,hF6,?_⟩,by simp [intOf];omega⟩;by_cases hfit:a+3<=8*z.length
      ·left
       refine ⟨told++[x],a+3,Px.cA hfit,by simp;exact htl,?_,?_,hfit,?_⟩
       ·intro y hy
        rcases List.mem_append.1 hy with hy | hy
        ·exact ht8 y hy
        ·simp at hy;omega
       ·rw[Px.ua,htl,<- ho]
       ·rw[hx2 hfit];exact Px.FQ.next hrun.out (by omega) hfit
      ·right
       rw[Px.cM (by omega)];exact .cut a _ hrun.out (.num (n:=3) rfl (by omega)) rfl
     ·skip
      have hoff:=hst.off;have hstop:Hid (Px.Stop z a0 (Px.coS s) s.out t):=hst;have ONF:Hid (∀ W,BAt W b v t->Calls Tryz.prog 61 #[.pointer (some ⟨b,0,none⟩)] W fun r w'=>r = .returned (.bool false)/\w'=W):=fun W hW=>by have:=a9 b v t W hW;rw[hoff] at this;exact this
      have hcsh:Px.bD cs:=Px.iD _ hc8 hcs.len;clear hst;go_wp2_with fail;refine (ONF.out _ hb).mono ?_;rintro r w5 ⟨rfl,rfl⟩;go_wp2_with fail;refine (fX _ cs false false _ (hcs.iat 19) hcsh).mono ?_;rintro r w6 ⟨rfl,hk6⟩;have hb6:=hb.kept hk6;have hcs6:=hcs.same (hk6.block _ hcs.lt);go_wp2_with fail;refine (ONF.out _ hb6).mono ?_;rintro r w6' ⟨rfl,rfl⟩;go_wp2_with fail;refine (fH _ cs (fun k=>k=b) _ (hcs6.iat 19) hcsh (fun g hg=>by injection hg with hg;simp at hg;omega) (fun g hg=>by have:=hb6.lt;omega) (fun g hg=>by injection hg with hg;have:=hcs6.lt;simp at hg;omega)).mono ?_;rintro r w7 ⟨B,rfl,hB,hk7⟩;have hb7:=hb6.kept hk7;go_wp2_with fail;refine (eX b B v _ (x1+257+(x2+1)) _ hb7 hoff (by omega)).mono ?_;rintro r w8 ⟨rfl,rfl⟩;go_wp2_with fail;refine (ONF.out _ hb7).mono ?_;rintro r w8' ⟨rfl,rfl⟩;go_wp2;go_ret2;exact ⟨_,_,_,rfl,⟨hb7,(hFW.kept hk6).kept hk7,Or.inr hstop.out,⟨_,_,_,rfl⟩,⟨_,_,_,rfl⟩⟩⟩
    ·rcases hst with ⟨told,a,rfl,htl,ht8,rfl,hal,hso⟩ | hst
     ·have hend:Hid (Px.Ends z a0 (Px.coS s) a (if Px.db (Px.aM told) false false=false then .err 12 else s.to (.clen (x1+257) (x2+1) (Px.aM told) [])) s.out):=by
       rcases hso with ⟨h5,_⟩ | ⟨_,h6⟩
       ·omega
       ·exact h6
      have hcsh:Px.bD (Px.aM told):=Px.iD _ hc8 hcs.len;clear hso;go_wp2_with fail;refine (fX _ (Px.aM told) false false _ (hcs.iat 19) hcsh).mono ?_;rintro r w6 ⟨rfl,hk6⟩;have hb6:=hb.kept hk6;have hcs6:=hcs.same (hk6.block _ hcs.lt);have hFW6:Fr1 b w w6:=hFW.kept hk6;cases hfb:Px.db (Px.aM told) false false
      ·rw[hfb,if_pos rfl] at hend
       have hstop:Hid (Px.Stop z a0 (Px.coS s) s.out ⟨a,false,12⟩):=hend.out.stop (by decide) hal;have FA:Hid (Calls Tryz.prog 60 #[.pointer (some ⟨b,0,none⟩),.int .i64 12] w6 fun r w'=>r = .returned (.tuple #[])/\BAt w' b v ⟨a,false,12⟩/\Fr1 b w6 w'):=cV b v _ 12 w6 hb6 rfl rfl;have ONF:Hid (∀ W,BAt W b v ⟨a,false,12⟩->Calls Tryz.prog 61 #[.pointer (some ⟨b,0,none⟩)] W fun r w'=>r = .returned (.bool false)/\w'=W):=fun W hW=>a9 b v _ W hW
       go_wp2_with fail;refine (ONT.out _ _ hb6).mono ?_;rintro r w6' ⟨rfl,rfl⟩;go_wp2_with fail;refine FA.out.mono ?_;rintro r wf ⟨rfl,hbf,hwf⟩;have hcsf:=hcs6.fr hwf (by omega);have hFWf:Fr1 b w wf:=hFW6.trans hwf;go_wp2_with fail;refine (fH _ (Px.aM told) (fun k=>k=b) _ (hcsf.iat 19) hcsh (fun g hg=>by injection hg with hg;simp at hg;omega) (fun g hg=>by have:=hbf.lt;omega) (fun g hg=>by injection hg with hg;have:=hcsf.lt;simp at hg;omega)).mono ?_;rintro r w7 ⟨B,rfl,hB,hk7⟩;have hb7:=hbf.kept hk7;go_wp2_with fail;refine (eX b B v _ (x1+257+(x2+1)) _ hb7 rfl (by omega)).mono ?_;rintro r w8 ⟨rfl,rfl⟩;go_wp2_with fail;refine (ONF.out _ hb7).mono ?_;rintro r w8' ⟨rfl,rfl⟩;go_wp2;go_ret2;exact ⟨_,_,_,rfl,⟨hb7,hFWf.kept hk7,Or.inr hstop.out,⟨_,_,_,rfl⟩,⟨_,_,_,rfl⟩⟩⟩
      ·rw[hfb,if_neg (by decide)] at hend
       have hrunC:Hid (Px.Run z a0 (Px.coS s) a (Px.clS s (x1+257) (x2+1) (Px.aM told) [])):=hend.out.ok;have h19:=hcs.len;go_wp2_with fail;refine (ONT.out _ _ hb6).mono ?_;rintro r w6' ⟨rfl,rfl⟩;go_wp2_with fail;refine (fH _ (Px.aM told) (fun k=>k=b) _ (hcs6.iat 19) hcsh (fun g hg=>by injection hg with hg;simp at hg;omega) (fun g hg=>by have:=hb6.lt;omega) (fun g hg=>by injection hg with hg;have:=hcs6.lt;simp at hg;omega)).mono ?_;rintro r w7 ⟨B,rfl,hB,hk7⟩;have hb7:=hb6.kept hk7;have hFW7:Fr1 b w w7:=hFW6.kept hk7;go_wp2_with fail;refine (Am b B v z a (x1+257) (x2+1) s (Px.aM told) w7 hb7 (hz.fr hFW7 hv) hv hB hcsh h19 hg hal (by omega) (by omega) (x1+257+(x2+1)) rfl).mono ?_;rintro r w8 ⟨u,out,t',rfl,hp8⟩;have hFW8:Fr1 b w w8:=hFW7.trans' hp8.fr (fun i _ h=>h);obtain ⟨pu,cu,rfl⟩:=aq hp8.own;rcases hp8.st with ⟨e1,e2,e3,e4,e5⟩ | hst
       ·obtain ⟨a',rfl⟩:∃ a',t'=⟨a',false,0⟩:=⟨t'.a,by cases t';simp at e1 e2;subst e1;subst e2;rfl⟩
        go_wp2_with fail;refine (ONT.out _ _ hp8.bat).mono ?_;rintro r w8' ⟨rfl,rfl⟩;have hown8:=hp8.own;have hpu:∃ g,pu=some ⟨g,0,none⟩/\w7.heap.size<=g/\out.length<=cu:=by
         rcases hown8.2 with ⟨hv0,h0⟩ | ⟨g,cap,cur,hv0,hg0,r⟩
         ·omega
         ·injection hv0 with q1 q2 q3
          exact ⟨g,q1,hg0,by rw[q3];exact r.2.1⟩
        obtain ⟨g,rfl,hgw,hcap⟩:=hpu;have hcapI:(out.length:Int)<=(cu:Int):=by omega
        have HI:Hid (IAt w8' (.slice (some ⟨g,0,none⟩) out.length cu) out):=mK hown8;have hb8:=hp8.bat;have hb1:(x1:Int)+257<=(out.length:Int):=by omega
        have hb0:(0:Int)<=(x1:Int)+257:=by omega
        have E4:Hid (out.length=x1+257+(x2+1)):=e4;have E5:Hid (Px.Ends z a (Px.clS s (x1+257) (x2+1) (Px.aM told) []) a' (s.lens (x1+257) (x2+1) (Px.aM told) out) s.out):=e5;have H15:Hid (∀ x ∈ out,x<=15):=hp8.le;have hol316:out.length<=316:=by omega
        have hlsh:Px.bD (out.take (x1+257)):=⟨fun x hx=>H15.out x (List.mem_of_mem_take hx),by rw[List.length_take];omega⟩;have hdsh:Px.bD (out.drop (x1+257)):=⟨fun x hx=>H15.out x (List.mem_of_mem_drop hx),by rw[List.length_drop];omega⟩;have F1:Hid (∀ W,Kept w8' W->Calls Tryz.prog 109 #[.slice (some ⟨g,0,none⟩) (x1+257) cu,.bool true,.bool false] W fun r w'=>r = .returned (.bool (Px.db (out.take (x1+257)) true false))/\Kept W w'):=fun W hW=>fX _ _ true false W ((HI.out.take (x1+257) cu (by omega)).kept hW) hlsh
        have F2:Hid (∀ W,Kept w8' W->Calls Tryz.prog 109 #[.slice (some ⟨g,x1+257,none⟩) (x2+1) (cu - (x1+257)),.bool true,.bool true] W fun r w'=>r = .returned (.bool (Px.db (out.drop (x1+257)) true true))/\Kept W w'):=fun W hW=>fX _ _ true true W ((HI.out.drop (x1+257) (x2+1) (cu - (x1+257)) (by omega)).kept hW) hdsh
        have HL:Hid (IAt w8' (.slice (some ⟨g,0,none⟩) (x1+257) cu) (out.take (x1+257))):=HI.out.take (x1+257) cu (by omega);have HD:Hid (IAt w8' (.slice (some ⟨g,x1+257,none⟩) (x2+1) (cu - (x1+257))) (out.drop (x1+257))):=HI.out.drop (x1+257) (x2+1) (cu - (x1+257)) (by omega);have HSH:Hid (Px.bD (out.take (x1+257))/\Px.bD (out.drop (x1+257))):=⟨hlsh,hdsh⟩;have h256:w8'.cell? ⟨g,256,none⟩=some (.int .i64 (out.getD 256 0:Int)):=by
         obtain ⟨g',o',hp',hc'⟩:=HI.out.cells _ _ rfl 256 (by omega)
         injection hp' with hp'
         injection hp' with h1 h2
         subst h1;subst h2
         simpa using hc'
        have hLE:Hid (s.lens (x1+257) (x2+1) (Px.aM told) out=if Px.db (out.take (x1+257)) true false=false\/Px.db (out.drop (x1+257)) true true=false\/out.getD 256 0=0 then .err 12 else s.to (.sym (out.take (x1+257)) (out.drop (x1+257)))):=by
         show _=_
         unfold Px.St.lens;rw[if_neg (by omega)]
        have hgw':w.heap.size<=g:=Nat.le_trans hFW7.size hgw;have FA:Hid (∀ W,BAt W b v ⟨a',false,0⟩->Calls Tryz.prog 60 #[.pointer (some ⟨b,0,none⟩),.int .i64 12] W fun r w'=>r = .returned (.tuple #[])/\BAt w' b v ⟨a',false,12⟩/\Fr1 b W w'):=fun W hW=>cV b v _ 12 W hW rfl rfl
        clear e4 e5 hp8 hown8 hlsh hdsh;go_wp2_with fail
        ·exfalso;have:=E4.out;omega
        ·refine (F1.out _ (Kept.refl _)).mono ?_
         rintro r w9 ⟨rfl,hk9⟩;go_wp2_with fail;refine (F2.out _ hk9).mono ?_;rintro r w10 ⟨rfl,hk10⟩;have hkk:Kept w8' w10:=hk9.trans hk10;have h256':w10.cell? ⟨g,256,none⟩=_:=(hkk.cell (p:=⟨g,256,none⟩) (World.block_lt_of_cell? _ _ h256)).trans h256;have hb10:=hb8.kept hkk;have bad:(Px.db (out.take (x1+257)) true false=false\/Px.db (out.drop (x1+257)) true true=false\/out.getD 256 0=0)->Px.Stop z a0 (Px.coS s) s.out ⟨a',false,12⟩:=by
          intro h;have q:=E5.out;rw[hLE.out,if_pos h] at q;exact (Px.Ends.after hrunC.out q).stop (by decide) e3
         have good:¬ (Px.db (out.take (x1+257)) true false=false\/Px.db (out.drop (x1+257)) true true=false\/out.getD 256 0=0)->Px.Run z a0 (Px.coS s) a' { s with ph := .sym (out.take (x1+257)) (out.drop (x1+257)) }:=by
          intro h;have q:=E5.out;rw[hLE.out,if_neg h] at q;exact hrunC.out.trans q.ok
         have BAD:Hid _:=bad;have GOOD:Hid _:=good;clear bad good;generalize Px.db (out.take (x1+257)) true false=f1 at *;generalize Px.db (out.drop (x1+257)) true true=f2 at *;generalize out.getD 256 0=N256 at *;have finB:∀ W,BAt W b v ⟨a',false,12⟩->Fr1 b w W->(f1=false\/f2=false\/N256=0)->yR w b v z a0 s (.slice (some ⟨g,0,none⟩) (x1+257) cu) (.slice (some ⟨g,x1+257,none⟩) (x2+1) (cu - (x1+257))) W ⟨a',false,12⟩:=fun W h1 h2 h3=>⟨h1,h2,Or.inr (BAD.out h3),⟨_,_,_,rfl⟩,⟨_,_,_,rfl⟩⟩
         have finG:¬ (f1=false\/f2=false\/N256=0)->yR w b v z a0 s (.slice (some ⟨g,0,none⟩) (x1+257) cu) (.slice (some ⟨g,x1+257,none⟩) (x2+1) (cu - (x1+257))) w10 ⟨a',false,0⟩:=fun h3=>
          ⟨hb10,hFW8.kept hkk,Or.inl ⟨rfl,rfl,e3,_,_,HL.out.kept hkk,HD.out.kept hkk,HSH.out.1,HSH.out.2,(fun g' hg'=>by injection hg' with hg';simp at hg';omega),(fun g' hg'=>by injection hg' with hg';simp at hg';omega),GOOD.out h3,Dy HL.out (by omega),Dy HD.out (by omega)⟩,⟨_,_,_,rfl⟩,⟨_,_,_,rfl⟩⟩
         have FB:Hid _:=finB;have FG:Hid _:=finG;have hF10:Hid (Fr1 b w w10):=hFW8.kept hkk;clear finB finG;cases f1
         ·go_wp2_with fail
          refine (FA.out _ hb10).mono ?_;rintro r w11 ⟨rfl,hb11,hw11⟩;go_wp2;go_ret2;exact ⟨_,_,_,rfl,FB.out _ hb11 (hF10.out.trans hw11) (by simp)⟩
         ·cases f2
          ·go_wp2_with fail
           refine (FA.out _ hb10).mono ?_;rintro r w11 ⟨rfl,hb11,hw11⟩;go_wp2;go_ret2;exact ⟨_,_,_,rfl,FB.out _ hb11 (hF10.out.trans hw11) (by simp)⟩
          ·by_cases h0:N256=0
           ·subst h0
            go_wp2_with fail;refine (FA.out _ hb10).mono ?_;rintro r w11 ⟨rfl,hb11,hw11⟩;go_wp2;go_ret2;exact ⟨_,_,_,rfl,FB.out _ hb11 (hF10.out.trans hw11) (by simp)⟩
           ·have g0:((N256:Int) == 0)=false:=beq_eq_false_iff_ne.2 (by omega)
            have FG2:Hid _:=FG.out (by simp [h0]);clear h0;go_wp2;go_ret2;exact ⟨_,_,_,rfl,FG2.out⟩
       ·have hoff:=hst.off
        have hstop:Hid (Px.Stop z a0 (Px.coS s) s.out t'):=hst.after hrunC.out;have ONF:Hid (Calls Tryz.prog 61 #[.pointer (some ⟨b,0,none⟩)] w8 fun r w'=>r = .returned (.bool false)/\w'=w8):=by have:=a9 b v t' w8 hp8.bat;rw[hoff] at this;exact this
        go_wp2_with fail;refine ONF.out.mono ?_;rintro r w8' ⟨rfl,rfl⟩;go_wp2;go_ret2;exact ⟨_,_,_,rfl,⟨hp8.bat,hFW8,Or.inr hstop.out,⟨_,_,_,rfl⟩,⟨_,_,_,rfl⟩⟩⟩
     ·skip
      have hoff:=hst.off;have hstop:Hid (Px.Stop z a0 (Px.coS s) s.out t):=hst;have ONF:Hid (∀ W,BAt W b v t->Calls Tryz.prog 61 #[.pointer (some ⟨b,0,none⟩)] W fun r w'=>r = .returned (.bool false)/\w'=W):=fun W hW=>by have:=a9 b v t W hW;rw[hoff] at this;exact this
      have hcsh:Px.bD cs:=Px.iD _ hc8 hcs.len;clear hst;go_wp2_with fail;refine (fX _ cs false false _ (hcs.iat 19) hcsh).mono ?_;rintro r w6 ⟨rfl,hk6⟩;have hb6:=hb.kept hk6;have hcs6:=hcs.same (hk6.block _ hcs.lt);go_wp2_with fail;refine (ONF.out _ hb6).mono ?_;rintro r w6' ⟨rfl,rfl⟩;go_wp2_with fail;refine (fH _ cs (fun k=>k=b) _ (hcs6.iat 19) hcsh (fun g hg=>by injection hg with hg;simp at hg;omega) (fun g hg=>by have:=hb6.lt;omega) (fun g hg=>by injection hg with hg;have:=hcs6.lt;simp at hg;omega)).mono ?_;rintro r w7 ⟨B,rfl,hB,hk7⟩;have hb7:=hb6.kept hk7;go_wp2_with fail;refine (eX b B v _ (x1+257+(x2+1)) _ hb7 hoff (by omega)).mono ?_;rintro r w8 ⟨rfl,rfl⟩;go_wp2_with fail;refine (ONF.out _ hb7).mono ?_;rintro r w8' ⟨rfl,rfl⟩;go_wp2;go_ret2;exact ⟨_,_,_,rfl,⟨hb7,(hFW.kept hk6).kept hk7,Or.inr hstop.out,⟨_,_,_,rfl⟩,⟨_,_,_,rfl⟩⟩⟩
 ·rw[Px.G7 h14] at hb3
  have hstop:Hid (Px.Stop z a0 (Px.coS s) s.out ⟨8*z.length,true,0⟩) := .cut a0 _ (.refl _ _) (.num (n:=14) rfl (by omega)) rfl;have c2:w3.cell? ⟨b,2,none⟩=some (.bool true):=hb3.c2;have ONF:Hid (∀ W,BAt W b v ⟨8*z.length,true,0⟩->Calls Tryz.prog 61 #[.pointer (some ⟨b,0,none⟩)] W fun r w'=>r = .returned (.bool false)/\w'=W):=fun W hW=>a9 b v _ W hW
  clear hy1 hy2 hy3 hb1 hb2 hw1 hw2;have hx1':x1<32:=by omega
  have hx2':x2<32:=by omega
  have hx3':x3<16:=by omega
  have hmk:=B8;go_wp2_with fail;refine (pR _).mono ?_;rintro r w4 ⟨rfl,ho4,hk4⟩;have hG:w.heap.size<=w3.heap.size:=hw3.size;have hcs4:=uo hk4;have hb4:BAt w4 b v _:=(hb3.kept ((Below.refl _ _).alloc (Nat.le_refl _) _)).kept hk4;have hF4:Fr1 b w w4:=(hw3.alloc _).kept hk4;have hz8:∀ x ∈ List.replicate 19 0,x<8:=fun x hx=>by rw[(List.mem_replicate.1 hx).2];omega
  have hcsh:Px.bD (List.replicate 19 0):=Px.iD _ hz8 (by simp);generalize w3.heap.size=G at *;clear hmk;go_wp2;go_loopw [9] (fun j W=>j = .int .i64 0/\W=w4) (fun _ _=>0)
  case atStart=>exact ⟨rfl,rfl⟩
  case round=>
   obtain ⟨rfl,rfl⟩:=hrel;go_wp2_with fail;refine (ONF.out _ hb4).mono ?_;rintro r w5 ⟨rfl,rfl⟩;go_wp2_with fail;refine (fX _ (List.replicate 19 0) false false _ (hcs4.iat 19) hcsh).mono ?_;rintro r w6 ⟨rfl,hk6⟩;have hb6:=hb4.kept hk6;have hcs6:=hcs4.same (hk6.block _ hcs4.lt);go_wp2_with fail;refine (ONF.out _ hb6).mono ?_;rintro r w6' ⟨rfl,rfl⟩;go_wp2_with fail;refine (fH _ (List.replicate 19 0) (fun k=>k=b) _ (hcs6.iat 19) hcsh (fun g hg=>by injection hg with hg;simp at hg;omega) (fun g hg=>by have:=hb6.lt;omega) (fun g hg=>by injection hg with hg;have:=hcs6.lt;simp at hg;omega)).mono ?_;rintro r w7 ⟨B,rfl,hB,hk7⟩;have hb7:=hb6.kept hk7;go_wp2_with fail;refine (eX b B v _ (x1+257+(x2+1)) _ hb7 rfl (by omega)).mono ?_;rintro r w8 ⟨rfl,rfl⟩;go_wp2_with fail;refine (ONF.out _ hb7).mono ?_;rintro r w8' ⟨rfl,rfl⟩;go_wp2;go_ret2;exact ⟨_,_,_,rfl,⟨hb7,(hF4.kept hk6).kept hk7,Or.inr hstop.out,⟨_,_,_,rfl⟩,⟨_,_,_,rfl⟩⟩⟩
theorem Ax (k:Nat) (h:k<288):Px.aO.take (k+1)=Px.aO.take k++[if k<144 then 8 else if k<256 then 9 else if k<280 then 7 else 8]:=by
 have hl:Px.aO.length=288:=by unfold Px.aO;simp
 rw[List.take_succ_eq_append_getElem (by omega)]
 congr 2
 simp [Px.aO]
theorem EC (w:World) :
  Calls Tryz.prog 64 #[] w fun r w'=>∃ lv dv,r = .returned (.tuple #[lv,dv])/\IAt w' lv Px.aO/\IAt w' dv Px.bW/\(∀ g,ae lv=some g->w.heap.size<=g)/\(∀ g,ae dv=some g->w.heap.size<=g)/\Kept w w':=by
 go_enter Tryz.func64,Tryz.ntmps64;go_wp2;go_loopw [2,4] (fun u j W=>∃ k:Nat,k<=288/\j = .int .i64 (k:Int)/\W.ownsRow w.heap.size 3 1 u (Px.aO.take k).length (ints (Px.aO.take k))/\Kept w W) (fun _ j _=>288 - (intOf j).toNat)
 case atStart=>exact ⟨0,by omega,rfl,World.ownsRow_nil _ _ _ _,Kept.refl _⟩
 case round=>
  obtain ⟨k,hk,rfl,ho,hK⟩:=hrel;obtain ⟨p,c,rfl⟩:=aq ho;have hfl:Px.aO.length=288:=by unfold Px.aO;simp
  have hcl:(Px.aO.take k).length<=288:=by rw[List.length_take];omega
  have hsz:=hK.size;by_cases hlt:k<288
  ·have HT:Hid (Px.aO.take (k+1)=Px.aO.take k++[if k<144 then 8 else if k<256 then 9 else if k<280 then 7 else 8]):=Ax k hlt
   have HO:Hid (wr.ownsRow w.heap.size 3 1 (.slice p (Px.aO.take k).length c) (Px.aO.take k).length (ints (Px.aO.take k))):=ho;clear ho hfl;generalize Px.aO.take k=L at *;have hcase:k<144\/(144<=k/\k<256)\/(256<=k/\k<280)\/280<=k:=by omega
   rcases hcase with q | ⟨q1,q2⟩ | ⟨q1,q2⟩ | q
   ·rw[if_pos q] at HT
    go_wp2_with (at_builtin;refine cI _ rfl _ _ rfl w.heap.size (.slice p L.length c) L rfl (HO.out.alloc _) wr.heap.size 1 8 rfl (by simp) (by omega) (by simp;omega) ?_)
    intro u' w4 ho4 hg4 hn4;obtain ⟨p',c',rfl⟩:=aq ho4;have ho4':w4.ownsRow w.heap.size 3 1 (.slice p' (L.length+1) c') (L.length+1) (ints (L++[8])):=by simpa using ho4
    have HO4:Hid (w4.ownsRow w.heap.size 3 1 (.slice p' (L.length+1) c') (L.length+1) (ints (L++[8]))):=ho4';have hK4:Hid (Kept w w4):=(hK.alloc (by omega) _).grown hg4 (by simp;omega) (fun j hj=>(HO.out.lt j hj).1);clear ho4 ho4' hg4 hn4;go_wp2;exact ⟨⟨k+1,by omega,by go_num,by rw[HT.out,List.length_append];exact HO4.out,hK4.out⟩,by simp [intOf];omega⟩
   ·rw[if_neg (by omega),if_pos q2] at HT
    go_wp2_with (at_builtin;refine cI _ rfl _ _ rfl w.heap.size (.slice p L.length c) L rfl (HO.out.alloc _) wr.heap.size 1 9 rfl (by simp) (by omega) (by simp;omega) ?_)
    intro u' w4 ho4 hg4 hn4;obtain ⟨p',c',rfl⟩:=aq ho4;have ho4':w4.ownsRow w.heap.size 3 1 (.slice p' (L.length+1) c') (L.length+1) (ints (L++[9])):=by simpa using ho4
    have HO4:Hid (w4.ownsRow w.heap.size 3 1 (.slice p' (L.length+1) c') (L.length+1) (ints (L++[9]))):=ho4';have hK4:Hid (Kept w w4):=(hK.alloc (by omega) _).grown hg4 (by simp;omega) (fun j hj=>(HO.out.lt j hj).1);clear ho4 ho4' hg4 hn4;go_wp2;exact ⟨⟨k+1,by omega,by go_num,by rw[HT.out,List.length_append];exact HO4.out,hK4.out⟩,by simp [intOf];omega⟩
   ·rw[if_neg (by omega),if_neg (by omega),if_pos q2] at HT
    go_wp2_with (at_builtin;refine cI _ rfl _ _ rfl w.heap.size (.slice p L.length c) L rfl (HO.out.alloc _) wr.heap.size 1 7 rfl (by simp) (by omega) (by simp;omega) ?_)
    intro u' w4 ho4 hg4 hn4;obtain ⟨p',c',rfl⟩:=aq ho4;have ho4':w4.ownsRow w.heap.size 3 1 (.slice p' (L.length+1) c') (L.length+1) (ints (L++[7])):=by simpa using ho4
    have HO4:Hid (w4.ownsRow w.heap.size 3 1 (.slice p' (L.length+1) c') (L.length+1) (ints (L++[7]))):=ho4';have hK4:Hid (Kept w w4):=(hK.alloc (by omega) _).grown hg4 (by simp;omega) (fun j hj=>(HO.out.lt j hj).1);clear ho4 ho4' hg4 hn4;go_wp2;exact ⟨⟨k+1,by omega,by go_num,by rw[HT.out,List.length_append];exact HO4.out,hK4.out⟩,by simp [intOf];omega⟩
   ·rw[if_neg (by omega),if_neg (by omega),if_neg (by omega)] at HT
    go_wp2_with (at_builtin;refine cI _ rfl _ _ rfl w.heap.size (.slice p L.length c) L rfl (HO.out.alloc _) wr.heap.size 1 8 rfl (by simp) (by omega) (by simp;omega) ?_)
    intro u' w4 ho4 hg4 hn4;obtain ⟨p',c',rfl⟩:=aq ho4;have ho4':w4.ownsRow w.heap.size 3 1 (.slice p' (L.length+1) c') (L.length+1) (ints (L++[8])):=by simpa using ho4
    have HO4:Hid (w4.ownsRow w.heap.size 3 1 (.slice p' (L.length+1) c') (L.length+1) (ints (L++[8]))):=ho4';have hK4:Hid (Kept w w4):=(hK.alloc (by omega) _).grown hg4 (by simp;omega) (fun j hj=>(HO.out.lt j hj).1);clear ho4 ho4' hg4 hn4;go_wp2;exact ⟨⟨k+1,by omega,by go_num,by rw[HT.out,List.length_append];exact HO4.out,hK4.out⟩,by simp [intOf];omega⟩
  ·have hke:k=288:=by omega
   have hall:Px.aO.take k=Px.aO:=List.take_of_length_le (by omega);rw[hall] at ho;have HL:Hid (IAt wr (.slice p 288 c) Px.aO):=by have:=mK ho;rw[hfl] at this;exact this
   have HLB:Hid (∀ g,ae (.slice p 288 c)=some g->w.heap.size<=g/\g<wr.heap.size):=by
    intro g hg;rw[hfl] at ho;rw[cj _ ho] at hg;exact ho.lt g hg
   rw[hall,hfl];have hge:(288:Int)<=(k:Int):=by omega
   clear ho hall hcl hke hfl
   rename World=>W1
   go_wp2;go_loopw [3,6] (fun u j W=>∃ k:Nat,k<=30/\j = .int .i64 (k:Int)/\W.ownsRow W1.heap.size 3 1 u (List.replicate k 5).length (ints (List.replicate k 5))/\Kept W1 W) (fun _ j _=>30 - (intOf j).toNat)
   case atStart=>exact ⟨0,by omega,rfl,World.ownsRow_nil _ _ _ _,Kept.refl _⟩
   case round=>
    obtain ⟨k,hk2,rfl,ho,hK2⟩:=hrel;obtain ⟨p2,c2,rfl⟩:=aq ho;have hsz2:=hK2.size;by_cases hlt2:k<30
    ·have HT:Hid (List.replicate (k+1) 5=List.replicate k 5++[5]):=by show _=_;rw[List.replicate_succ']
     have hll:(List.replicate k 5).length<=30:=by simp;omega
     have HO:Hid (wr.ownsRow W1.heap.size 3 1 (.slice p2 (List.replicate k 5).length c2) (List.replicate k 5).length (ints (List.replicate k 5))):=ho;clear ho;generalize List.replicate k 5=L at *;go_wp2_with (at_builtin;refine cI _ rfl _ _ rfl W1.heap.size (.slice p2 L.length c2) L rfl (HO.out.alloc _) wr.heap.size 1 5 rfl (by simp) (by omega) (by simp;omega) ?_)
     intro u' w4 ho4 hg4 hn4;obtain ⟨p',c',rfl⟩:=aq ho4;have ho4':w4.ownsRow W1.heap.size 3 1 (.slice p' (L.length+1) c') (L.length+1) (ints (L++[5])):=by simpa using ho4
     have HO4:Hid (w4.ownsRow W1.heap.size 3 1 (.slice p' (L.length+1) c') (L.length+1) (ints (L++[5]))):=ho4';have hK4:Hid (Kept W1 w4):=(hK2.alloc (by omega) _).grown hg4 (by simp;omega) (fun j hj=>(HO.out.lt j hj).1);clear ho4 ho4' hg4 hn4;go_wp2;exact ⟨⟨k+1,by omega,by go_num,by rw[HT.out,List.length_append];exact HO4.out,hK4.out⟩,by simp [intOf];omega⟩
    ·have hke:k=30:=by omega
     subst hke;have hrl:(List.replicate 30 5).length=30:=by simp
     rw[hrl] at ho ⊢;have HO:Hid (wr.ownsRow W1.heap.size 3 1 (.slice p2 30 c2) 30 (ints (List.replicate 30 5))):=ho;have HC:Hid (∀ j u,[Value.int .i64 5,Value.int .i64 5][j]? = some u->(wr.alloc (.cells #[.int .i64 5,.int .i64 5] 3)).cell? (Addr.add ⟨wr.heap.size,0,none⟩ j)=some u):=by
      intro j u hj
      match j,hj with
      | 0,hj=>simp at hj;subst hj;simp [Addr.add]
      | 1,hj=>simp at hj;subst hj;simp [Addr.add]
      | j+2,hj=>simp at hj
     clear ho hrl hlt2 hk2;go_wp2_with (at_builtin;refine cT _ 30 3 1 8 (.int .i64 0) Tryz.underlying30 rS rfl (by omega) rfl _ _ rfl W1.heap.size (.slice p2 30 c2) 30 (ints (List.replicate 30 5)) rfl (HO.out.alloc _) ⟨wr.heap.size,0,none⟩ 2 2 [.int .i64 5,.int .i64 5] rfl rfl (by omega) HC.out (by intro u hu;simp at hu;subst hu;rfl) (by unfold maxLen;omega) (by omega) (by simp;omega) ?_)
     intro u' w4 ho4 hg4 hn4;have ho5:w4.ownsRow W1.heap.size 3 1 u' Px.bW.length (ints Px.bW):=ho4;have hK4:Kept W1 w4:=(hK2.alloc (by omega) _).grown hg4 (by simp;omega) (fun j hj=>(HO.out.lt j hj).1);obtain ⟨p',c',rfl⟩:=aq ho4;have fin:IAt w4 (.slice p 288 c) Px.aO/\IAt w4 (.slice p' 32 c') Px.bW/\(∀ g,ae (.slice p 288 c)=some g->w.heap.size<=g)/\(∀ g,ae (.slice p' 32 c')=some g->w.heap.size<=g)/\Kept w w4:=by
      refine ⟨HL.out.kept hK4,mK ho5,fun g hg=>(HLB.out g hg).1,fun g hg => ?_,hK.trans hK4⟩;rw[cj _ ho4] at hg
      have:=(ho4.lt g hg).1
      omega
     have FIN:Hid _:=fin;clear fin ho4 ho5 hg4 hn4;go_wp2;go_ret2;exact ⟨_,_,rfl,FIN.out⟩
def gH (l:List Px.One):List Value:=l.flatMap fun x=>[Value.int .i64 (x.1:Int),Value.int .i64 (x.2:Int)]
theorem vU (l:List Px.One) (x:Px.One):gH (l++[x])=gH l++[Value.int .i64 (x.1:Int),Value.int .i64 (x.2:Int)]:=by simp [gH]
theorem rQ (l:List Px.One) (i:Nat) (h:i<l.length):(gH l)[i*2]? = some (.int .i64 (Px.vAt l i:Int))/\(gH l)[i*2+1]? = some (.int .i64 (Px.pAt l i:Int)):=by
 induction l generalizing i with
 | nil=>simp at h
 | cons x r ih=>
  have e:gH (x::r)=Value.int .i64 (x.1:Int)::Value.int .i64 (x.2:Int)::gH r:=rfl;cases i with
  | zero=>rw[e];exact ⟨rfl,rfl⟩
  | succ i=>
   have:=ih i (by simpa using h)
   rw[e,show (i+1)*2=i*2+2 from by omega];exact this
theorem Du:(Tryz.prog.info? 148).map (fun i=>(i.zero,i.size,i.bytes))=some (some (.agg #[.int .i64 0,.int .i64 0]),2,16):=by kernel_rfl
structure OAt (W:World) (s N:Nat) (ov:Value) (out:List Px.One):Prop where
 c0:W.cell? ⟨s,0,none⟩=some ov
 fz:∀ k,W.frozen? ⟨s,k,none⟩=false
 own:W.ownsRow N 148 2 ov out.length (gH out)
theorem OAt.zat {W:World} {s N:Nat} {ov:Value} {out:List Px.One} (h:OAt W s N ov out):ZAt W ov out:=by
 have ho:=h.own;rcases ho.2 with ⟨hv,h0⟩ | ⟨g,cap,cur,hv,hg,r⟩
 ·refine ⟨⟨none,0,by rw[hv,h0]⟩,?_⟩
  intro p c _ i hi;omega
 ·refine ⟨⟨_,_,hv⟩,?_⟩
  intro p c hp i hi;rw[hv] at hp
  injection hp with hp _ _
  have hob:ov.ownBlock=some g:=by rw[hv];rfl
  have h1:=ho.cells hob (i*2) _ (rQ out i hi).1;have h2:=ho.cells hob (i*2+1) _ (rQ out i hi).2;have e1:(Addr.add ⟨g,0,none⟩ (i*2))=⟨g,i*2,none⟩:=by simp [Addr.add];intro h;omega
  have e2:(Addr.add ⟨g,0,none⟩ (i*2+1))=⟨g,i*2+1,none⟩:=by simp [Addr.add]
  rw[e1] at h1;rw[e2] at h2;exact ⟨g,hp.symm,h1,h2⟩
theorem wo (b s N x:Nat) (v ov:Value) (z out:List Px.One) (t:Px.Bt) (w:World) (h:BAt w b v t) (hz:ZAt w v z) (hg:Px.good z) (h0:0<t.a) (ha:t.a<=8*z.length) (hO:OAt w s N ov out) (hsN:s<N) (hN:N<=w.heap.size) (hol:out.length<4294967296) :
  Calls Tryz.prog 103 #[.pointer (some ⟨s,0,none⟩),.pointer (some ⟨b,0,none⟩),.int .i64 (x:Int)] w fun r w'=>∃ ov',r = .returned (.tuple #[])/\OAt w' s N ov' (out++[(x,Px.ay z t.a)])/\Fr (fun g=>g=s\/ov.ownBlock=some g) w w'/\(∀ g,ov'.ownBlock=some g->ov.ownBlock=some g\/w.heap.size<=g)/\(∀ j,j≠0->w'.cell? ⟨s,j,none⟩=w.cell? ⟨s,j,none⟩):=by
 have HE:Hid (Calls Tryz.prog 68 #[.pointer (some ⟨b,0,none⟩)] w fun r w'=>r = .returned (.int .i64 (Px.ay z t.a:Int))/\Kept w w'):=fW b v z t w h hz hg h0 ha;generalize Px.ay z t.a=P at *;have hs:=World.block_lt_of_cell? _ _ hO.c0;go_enter Tryz.func103,Tryz.ntmps103;go_wp2_with fail;refine HE.out.mono ?_;rintro r w1 ⟨rfl,hk1⟩;have c0:w1.cell? ⟨s,0,none⟩=some ov:=(hk1.cell (p:=⟨s,0,none⟩) hs).trans hO.c0;have hf:∀ k,w1.frozen? ⟨s,k,none⟩=false:=fun k=>(hk1.frozen (p:=⟨s,k,none⟩) hs).trans (hO.fz k)
 have hown:Hid (w1.ownsRow N 148 2 ov out.length (gH out)):=cC hO.own hk1;have hs1:s<w1.heap.size:=World.block_lt_of_cell? _ _ c0;have hN1:N<=w1.heap.size:=Nat.le_trans hN hk1.size;have HC:Hid (∀ j u,[Value.int .i64 (x:Int),Value.int .i64 (P:Int)][j]? = some u->(w1.alloc (.cells #[.int .i64 (x:Int),.int .i64 (P:Int)] 148)).cell? (Addr.add ⟨w1.heap.size,0,none⟩ j)=some u):=by
  intro j u hj
  match j,hj with
  | 0,hj=>simp at hj;subst hj;simp [Addr.add]
  | 1,hj=>simp at hj;subst hj;simp [Addr.add]
  | j+2,hj=>simp at hj
 go_wp2_with (at_builtin;refine cT _ 85 148 2 16 (.agg #[.int .i64 0,.int .i64 0]) Tryz.underlying85 Du rfl (by omega) rfl _ _ rfl N ov out.length (gH out) rfl (hown.out.alloc _) ⟨w1.heap.size,0,none⟩ 1 1 [.int .i64 (x:Int),.int .i64 (P:Int)] rfl rfl (by omega) HC.out (by intro u hu;simp at hu;rcases hu with rfl | rfl<;>rfl) (by unfold maxLen;omega) (by omega) (by simp;omega) ?_)
 intro v' w2 ho2 hg2 hn2;obtain ⟨p',c',rfl⟩:=aq ho2;have hne:some s≠ov.ownBlock:=fun e=>by have:=(hown.out.lt _ e.symm).1;omega
 have hsa:s<(w1.alloc (Obj.cells #[Value.int .i64 (x:Int),Value.int .i64 (P:Int)] 148)).heap.size:=by simp;omega
 have blk:w2.heap[s]? = w1.heap[s]? := (hg2.block _ hsa hne).trans (Below.heap_alloc _ _ _ hs1);have c0':w2.cell? ⟨s,0,none⟩=_:=(World.cell?_of_block (w:=w1) blk).trans c0;have hf':∀ k,w2.frozen? ⟨s,k,none⟩=false:=fun k=>(World.frozen?_of_block (w:=w1) blk).trans (hf k)
 have hF2:Hid (Fr (fun g=>g=s\/ov.ownBlock=some g) w w2):=(((Fr.refl _ _).kept hk1).alloc _).grown hg2 (fun k hk=>Or.inl (Or.inr hk));have hO2:Hid (w2.ownsRow N 148 2 (.slice p' (out.length+1) c') (out.length+1) (gH out++[.int .i64 (x:Int),.int .i64 (P:Int)])):=ho2;have hN2:Hid (∀ g,Value.ownBlock (.slice p' (out.length+1) c')=some g->ov.ownBlock=some g\/w.heap.size<=g):=by
  intro g hg;rcases hn2 g hg with h | h
  ·exact Or.inl h
  ·right
   have:=hk1.size
   omega
 have hSC:Hid (∀ j,w2.cell? ⟨s,j,none⟩=w.cell? ⟨s,j,none⟩):=fun j=>(World.cell?_of_block (w:=w1) blk).trans (hk1.cell (p:=⟨s,j,none⟩) hs)
 clear ho2 hg2 hn2 c0 hf blk;go_wp2;go_end0
 refine ⟨_,rfl,⟨aj c0' _,fun k=>by rw[World.frozen?_setCell];exact hf' k,?_⟩,hF2.out.setCell (Or.inl (Or.inl rfl)) _ _,hN2.out,fun j hj=>by rw[aa _ _ _ _ _ (fun e=>hj e.symm)];exact hSC.out j⟩;rw[vU,List.length_append];exact ownsRow_setCell_below hO2.out (show s<N from hsN) _
end Go.Proofs.YtgooinallljbpaaGreatDoor
namespace Px
abbrev ssS (s:St):St:={ s with ph := .ssize }
def ebS (s:St) (out:List One):Res:=St.endBlock { s with out:=out }
def AZ (z:List One) (a0:Nat) (s:St) (n i a:Nat) (out:List One):Prop:=
 (i<n/\Run z a0 (ssS s) a { s with ph := .stored (n - i),out:=out })\/(i=n/\∃ o,Ends z a0 (ssS s) a (ebS s out) o)
theorem Li (z:List One) (a:Nat):ab z a 32=ab z a 16+65536*ab z (a+16) 16:=dg z a 16 16
theorem AZ.start {z:List One} {a0:Nat} {s:St} (hb:a0+32<=8*z.length) (h:ab z a0 16+ab z (a0+16) 16=65535):AZ z a0 s (ab z a0 16) 0 (a0+32) s.out:=by
 have e:=Li z a0;have l1:=bO z a0 16;have l2:=bO z (a0+16) 16;have q1:ab z a0 32 % 65536=ab z a0 16:=by omega
 have q2:ab z a0 32 / 65536=ab z (a0+16) 16:=by omega
 have hr:bF (ssS s) (ab z a0 32) (ay z (a0+32))=if ab z a0 16=0 then ebS s s.out else (ssS s).to (.stored (ab z a0 16)):=by
  show (if ab z a0 32 % 65536+ab z a0 32 / 65536≠65535 then _ else if ab z a0 32 % 65536=0 then _ else _)=_
  rw[q1,q2,if_neg (by omega)];rfl
 by_cases h0:ab z a0 16=0
 ·rw[if_pos h0] at hr
  exact Or.inr ⟨h0.symm,s.out,a0,_,.refl _ _,rfl,Or.inl ⟨32,rfl,rfl,hb,hr⟩⟩
 ·rw[if_neg h0] at hr
  exact Or.inl ⟨by omega,.one (.num (k:=false) (n:=32) rfl hb hr)⟩
theorem BC {z:List One} {a0:Nat} {s:St} (hb:a0+32<=8*z.length) (h:ab z a0 16+ab z (a0+16) 16≠65535):Fails z a0 (ssS s) 11 (a0+32):=by
 have e:=Li z a0;have l1:=bO z a0 16;have l2:=bO z (a0+16) 16;have q1:ab z a0 32 % 65536=ab z a0 16:=by omega
 have q2:ab z a0 32 / 65536=ab z (a0+16) 16:=by omega
 refine Fails.num (n:=32) rfl hb ?_;show (if ab z a0 32 % 65536+ab z a0 32 / 65536≠65535 then _ else if ab z a0 32 % 65536=0 then _ else _)=_
 rw[q1,q2,if_pos h]
theorem AZ.next {z:List One} {a0:Nat} {s:St} {n i a:Nat} {out:List One} (h:Run z a0 (ssS s) a { s with ph := .stored (n - i),out:=out }) (hi:i<n) (hb:a+8<=8*z.length):AZ z a0 s n (i+1) (a+8) (out++[(ab z a 8,ay z (a+8))]):=by
 by_cases e:i+1=n
 ·refine Or.inr ⟨e,out,a,_,h,rfl,Or.inl ⟨8,rfl,rfl,hb,?_⟩⟩
  show (if n - i<=1 then _ else _)=_
  rw[if_pos (by omega)];rfl
 ·refine Or.inl ⟨by omega,.tail h (.num (k:=false) (n:=8) rfl hb ?_)⟩
  show (if n - i<=1 then _ else _)=_
  rw[if_neg (by omega),show n - (i+1)=n - i - 1 from by omega];rfl
theorem xG {z:List One} {a:Nat} (h:a<=8*z.length):up8 a<=8*z.length:=by unfold up8;omega
theorem J6 {z:List One} {a:Nat} (h:a+32<=8*z.length):((⟨a,false,0⟩:Bt).num z 16)=⟨a+16,false,0⟩/\(((⟨a,false,0⟩:Bt).num z 16).num z 16)=⟨a+32,false,0⟩:=by
 have e1:((⟨a,false,0⟩:Bt).num z 16)=⟨a+16,false,0⟩:=cA (by omega);have e2:((⟨a+16,false,0⟩:Bt).num z 16)=⟨a+32,false,0⟩:=cA (by omega);rw[e1,e2];exact ⟨rfl,rfl⟩
theorem G9 {z:List One} {a:Nat} (h:¬ a+32<=8*z.length):(((⟨a,false,0⟩:Bt).num z 16).num z 16)=⟨8*z.length,true,0⟩:=by
 by_cases h1:a+16<=8*z.length
 ·rw[cA h1,cM (by omega)]
 ·rw[cM (by omega),kV rfl]
end Px
