import Derived.Test.YtmbmecfodigciaaGreatDoorTu38
import Derived.Test.YtmbmecfodigciaaGreatDoorTu44
import Derived.Test.YtmbmecfodigciaaGreatDoorTu45
import Derived.Test.YtmbmecfodigciaaGreatDoorTu24
import Derived.Test.YtmbmecfodigciaaGreatDoorTu26
import Derived.Test.YtmbmecfodigciaaGreatDoorTu15
set_option maxRecDepth 100000
set_option maxHeartbeats 6400000
namespace Go.Proofs.YtmbmecfodigciaaGreatDoor
open Go.RowKit Px
set_option linter.unusedSimpArgs false
set_option linter.unusedVariables false
theorem grd_x {W:World} (h:GridAt W):GrdAt W:=by
 intro j hj
 rw[h j hj]
 have:∀ j,j<42->gridL.getD j 0=(grdN j:Int):=by decide
 rw[this j hj]
def FileT (W H D K L P V:Nat) (pal clr pix fl kl:List Int) (s:ByteArray):Prop:=∃ PL,s=strOfNums (fileX W H D K L pal clr PL)/\FileOk W H D K L P V pal clr pix fl kl PL
theorem fileT_size {W H D K L P V:Nat} {pal clr pix fl kl:List Int} {s:ByteArray} (h:FileT W H D K L P V pal clr pix fl kl s):57<s.size/\s.size<=90000000:=by
 obtain ⟨PL,rfl,ok⟩:=h
 rw[strOfNums_size]
 refine ⟨?_,ok.all⟩
 have h1:=congrArg List.length ok.str
 rw[flat8_len,nl_len] at h1
 have h2:=strB_pos V (blL P kl (allB ⟨W,H,D,K,L⟩ pix fl (cntP L)).length 0 (allB ⟨W,H,D,K,L⟩ pix fl (cntP L)))
 have h3:=chL_len PL
 have h4:0<PL.length:=List.length_pos_iff.2 ok.ne
 unfold fileX
 rw[List.length_append,List.length_append,List.length_append,List.length_append,List.length_append,chB_len,chB_len,h3,signI_len]
 have h5:(hdI W H D K L).length=13:=rfl
 have h6:([]:List Int).length=0:=rfl
 omega
theorem bsOf_strx {l:List Int} (h:isBytes l):bsOf (strOfNums l)=nl l:=by
 unfold bsOf nl
 rw[strOfNums_data,List.map_map]
 apply List.map_congr_left
 intro x hx
 have:=h x hx
 show (UInt8.ofNat x.toNat).toNat=x.toNat
 exact UInt8.toNat_ofNat_of_lt' (show x.toNat<256 by omega)
theorem chB_bytes (T:Nat) {l:List Int} (h:isBytes l):isBytes (chB T l):=by
 unfold chB
 intro y hy
 simp only [List.mem_append] at hy
 rcases hy with hy | hy | hy | hy
 ·exact beB_ok _ y hy
 ·exact beB_ok _ y hy
 ·exact h y hy
 ·exact beB_ok _ y hy
theorem deskWrite_x (x wd H K D L P V Z:Nat) (pp qp xp fp kp cp:Option Addr) (pc qc xc fc kc cc:Nat) (pal clr pix fl kl cl:List Int) (w:World) (h:Dk w x wd H K D L P V Z pp qp xp fp kp cp pc qc xc fc kc cc pal clr pix fl kl cl) (hx0:x≠0) :
  Calls Tryz.prog 20 #[.pointer (some ⟨x,0,none⟩)] w fun r w'=>r = .returned (.bool true)/\Dk w' x wd H K D L P V Z pp qp xp fp kp cp pc qc xc fc kc cc pal clr pix fl kl cl/\(∃ s,FileT wd H D K L P V pal clr pix fl kl s/\w'.cell? ⟨x,14,none⟩=some (.string s))/\Fr1 x w w':=by
 have FN:Hid (∀ W':World,Calls Tryz.prog 37 #[] W' fun r w'=>(∃ a,r = .returned (.pointer (some a)))/\Kept W' w'):=fun W'=>newEnc_any W'
 have FE:Hid (∀ (W':World) (a:Option Addr),Kept w W'->Calls Tryz.prog 38 #[.pointer a,.agg #[.int .i64 (wd:Int),.int .i64 (H:Int),.int .i64 (K:Int),.int .i64 (D:Int),.slice pp pal.length pc,.slice qp clr.length qc,.slice xp pix.length xc],.agg #[.int .i64 (L:Int),.slice fp fl.length fc,.slice kp kl.length kc,.int .i64 (P:Int),.slice cp cl.length cc,.int .i64 (V:Int),.int .i64 (Z:Int)]] W' fun r w'=>∃ s:ByteArray,r = .returned (.tuple #[.string s,.int .i64 0])/\57<s.size/\FileT wd H D K L P V pal clr pix fl kl s/\Kept W' w'):=by
  intro W' a k
  have hk:=h.kept k
  have hc:OkChB L P V fl kl cl:=⟨hk.ch.l,hk.ch.p1,by have:=hk.ch.p2;omega,hk.ch.v,hk.ch.f0,hk.ch.f1,hk.ch.fb,hk.ch.k0,hk.ch.k1,hk.ch.kb,hk.ch.c0,hk.ch.c1,hk.ch.cb,hk.ch.cf⟩
  exact (encode_x a wd H K D L P V Z pp qp xp fp kp cp pc qc xc fc kc cc pal clr pix fl kl cl W' hk.im hc hk.z (grd_x hk.grid) hk.lp hk.lq hk.lx hk.lf hk.lk hk.lc (fun g hg=>(hk.bx g hg).2) (fun g hg=>(hk.bf g hg).2) (fun g hg=>(hk.bc g hg).2)).mono (fun r w' ⟨PL,h1,h2,h3⟩=>⟨_,h1,(fileT_size ⟨PL,rfl,h2⟩).1,⟨PL,rfl,h2⟩,h3⟩)
 have hpix:(0:Int)<(pix.length:Int):=by
  have h1:=h.im.pixL
  have h2:0<wd*H*chan K:=Nat.mul_pos (Nat.mul_pos (by have:=h.im.w1;omega) (by have:=h.im.h1;omega)) (by rcases legal_K h.im.lg with rfl | rfl | rfl | rfl | rfl<;>decide)
  omega
 have hcl:(0:Int)<(cl.length:Int):=by have:=h.ch.c0;omega
 have p1:((pix.length:Int) == 0)=false:=by rw[beq_eq_false_iff_ne];omega
 have p2:((cl.length:Int) == 0)=false:=by rw[beq_eq_false_iff_ne];omega
 have k6:=h.c6
 have k11:=h.c11
 have HD:Hid (Dk w x wd H K D L P V Z pp qp xp fp kp cp pc qc xc fc kc cc pal clr pix fl kl cl):=h
 clear h
 go_enter Tryz.func20,Tryz.ntmps20
 go_wp2_with fail
 refine (FN.out _).mono ?_
 rintro r w1 ⟨⟨a,rfl⟩,hk1⟩
 have HK1:Hid (Kept w w1):=hk1
 clear hk1 k6 k11
 have D1:Hid (Dk w1 x wd H K D L P V Z pp qp xp fp kp cp pc qc xc fc kc cc pal clr pix fl kl cl):=HD.out.kept HK1.out
 clear HD
 go_wp2_with fail
 go_region_held3 (fun W'=>W'.cell? ⟨x,0,none⟩=some (.int .i64 (wd:Int))/\W'.cell? ⟨x,1,none⟩=some (.int .i64 (H:Int))/\W'.cell? ⟨x,2,none⟩=some (.int .i64 (K:Int))/\W'.cell? ⟨x,3,none⟩=some (.int .i64 (D:Int))/\W'.cell? ⟨x,4,none⟩=some (.slice pp pal.length pc)/\W'.cell? ⟨x,5,none⟩=some (.slice qp clr.length qc)/\W'.cell? ⟨x,6,none⟩=some (.slice xp pix.length xc)/\W'.cell? ⟨x,7,none⟩=some (.int .i64 (L:Int))/\W'.cell? ⟨x,8,none⟩=some (.slice fp fl.length fc)/\W'.cell? ⟨x,9,none⟩=some (.slice kp kl.length kc)/\W'.cell? ⟨x,10,none⟩=some (.int .i64 (P:Int))/\W'.cell? ⟨x,11,none⟩=some (.slice cp cl.length cc)/\W'.cell? ⟨x,12,none⟩=some (.int .i64 (V:Int))/\W'.cell? ⟨x,13,none⟩=some (.int .i64 (Z:Int))) (first | exact Dk.s D1.out | exact Dk.s (D1.out.kept ((Kept.refl _).drewN 1)) | exact hS2.out | go_keep) ((go_at_call 38;refine (FE.out _ _ (by exact HK1.out.drewN 1)).mono ?_;rintro r w2 ⟨s,rfl,h57,hfT,hk2⟩;have hk2':Kept w1 w2:=((Kept.refl _).drewN 1).trans hk2;have hS2:Hid (w2.cell? ⟨x,0,none⟩=some (.int .i64 (wd:Int))/\w2.cell? ⟨x,1,none⟩=some (.int .i64 (H:Int))/\w2.cell? ⟨x,2,none⟩=some (.int .i64 (K:Int))/\w2.cell? ⟨x,3,none⟩=some (.int .i64 (D:Int))/\w2.cell? ⟨x,4,none⟩=some (.slice pp pal.length pc)/\w2.cell? ⟨x,5,none⟩=some (.slice qp clr.length qc)/\w2.cell? ⟨x,6,none⟩=some (.slice xp pix.length xc)/\w2.cell? ⟨x,7,none⟩=some (.int .i64 (L:Int))/\w2.cell? ⟨x,8,none⟩=some (.slice fp fl.length fc)/\w2.cell? ⟨x,9,none⟩=some (.slice kp kl.length kc)/\w2.cell? ⟨x,10,none⟩=some (.int .i64 (P:Int))/\w2.cell? ⟨x,11,none⟩=some (.slice cp cl.length cc)/\w2.cell? ⟨x,12,none⟩=some (.int .i64 (V:Int))/\w2.cell? ⟨x,13,none⟩=some (.int .i64 (Z:Int))):=Dk.s (D1.out.kept hk2')))
 have D2:Hid (Dk w2 x wd H K D L P V Z pp qp xp fp kp cp pc qc xc fc kc cc pal clr pix fl kl cl):=D1.out.kept hk2'
 have HK2:Hid (Kept w w2):=Kept.trans HK1.out hk2'
 obtain ⟨u14,hu14⟩:=D2.out.c14
 replace hfT:Hid (FileT wd H D K L P V pal clr pix fl kl s):=hfT
 have z14:=D2.out.fz 14
 have h57':(57:Int)<(s.size:Int):=by omega
 clear hS2 hk2 hk2' D1
 go_wp2
 go_ret
 exact ⟨by first | rfl | simp,D2.out.set14 hx0 _,⟨s,hfT.out,cell_set_same hu14 _⟩,Fr1.set (Fr.of_kept HK2.out) _ _⟩
theorem bsOf_extr (t:ByteArray) (a b:Nat):bsOf (t.extract a b)=((bsOf t).drop a).take (b - a):=by
 unfold bsOf
 rw[ByteArray.data_extract,Array.toList_extract,List.extract_eq_take_drop,List.map_take,List.map_drop]
theorem isBytes.app' {a b:List Int} (h:isBytes a) (k:isBytes b):isBytes (a++b):=fun y hy=>by
 rw[List.mem_append] at hy
 rcases hy with hy | hy
 ·exact h y hy
 ·exact k y hy
theorem fileX_ok {W H K D L:Nat} {pal clr pix:List Int} {PL:List (List Int)} (ok:OkIm W H K D pal clr pix) (hL:L<=1) (hP:isBytes PL.flatten):isBytes (fileX W H D K L pal clr PL):=by
 have hK:=ok.lg.k6
 have e1:isBytes (palB pal):=by
  unfold palB;split
  ·exact isBytes.nil
  ·exact chB_bytes _ ok.palB
 have e2:isBytes (clrB K clr):=by
  unfold clrB;split
  ·exact isBytes.nil
  ·rename_i hc
   apply chB_bytes
   rcases ok.clr with h0 | ⟨k02,l2,y2⟩ | ⟨k3,l1,l2,y2⟩
   ·rw[h0] at hc;simp at hc
   ·have hp:=pow_le ok.lg.d
    rw[if_neg (by omega)]
    exact two_ok (fun y hy=>by have:=y2 y hy;omega)
   ·rw[if_pos (by omega)];exact y2
 have e3:∀ PL:List (List Int),isBytes PL.flatten->isBytes (chL PL):=fun PL=>by
  induction PL with
  | nil=>intro _;exact isBytes.nil
  | cons d t ih=>
   intro h
   have:chL (d::t)=chB idat d++chL t:=rfl
   rw[this]
   rw[List.flatten_cons] at h
   exact isBytes.app' (chB_bytes _ (fun y hy=>h y (List.mem_append.2 (Or.inl hy)))) (ih (fun y hy=>h y (List.mem_append.2 (Or.inr hy))))
 unfold fileX
 exact isBytes.app' (isBytes.app' (isBytes.app' (isBytes.app' (isBytes.app' signI_ok (chB_bytes _ (hdI_ok _ _ _ _ _ ok.w2 ok.h2 hK.2 hK.1 hL))) e1) e2) (e3 PL hP)) (chB_bytes _ isBytes.nil)
theorem fileT_taken {W H D K L P V:Nat} {pal clr pix fl kl cl:List Int} {s:ByteArray} (h:FileT W H D K L P V pal clr pix fl kl s) (ok:OkIm W H K D pal clr pix) (hc:OkCh L P V fl kl cl):∃ s',Rn rd0 (bsOf s) s'/\s'.part=5/\s'.hd=⟨W,H,D,K,L⟩/\FinP s'.rw/\RdInv s':=by
 obtain ⟨PL,rfl,fo⟩:=h
 rw[bsOf_strx (fileX_ok ok hc.l fo.byte)]
 exact file_taken ok hc.l hc.v hc.p1 hc.fb (allB_bytes (Or.inr trivial) hc.fb _) fo.ne fo.byte fo.len fo.str
def DeskX (w W:World) (r:Ending):Prop:=∃ x wd H K D L P V Z:Nat,∃ pp qp xp fp kp cp:Option Addr,∃ pc qc xc fc kc cc:Nat,∃ pal clr pix fl kl cl:List Int,∃ ff:ByteArray,r = .returned (.pointer (some ⟨x,0,none⟩))/\x≠0/\w.heap.size<=x/\Dk W x wd H K D L P V Z pp qp xp fp kp cp pc qc xc fc kc cc pal clr pix fl kl cl/\FileT wd H D K L P V pal clr pix fl kl ff/\W.cell? ⟨x,14,none⟩=some (.string ff)
theorem desked_x (a b:Int) (s t u v:ByteArray) (w:World) (ha1 : -9223372036854775808<=a) (ha2:a<9223372036854775808) (hb1 : -9223372036854775808<=b) (hb2:b<9223372036854775808) (hs:s.size<9223372036854775808) (ht:t.size<9223372036854775808) (hu:u.size<9223372036854775808) (hv:v.size<9223372036854775808) (hG:GridAt w) :
  Calls Tryz.prog 9 #[.int .i64 a,.string s,.string t,.int .i64 b,.string u,.string v] w fun r w'=>(decide (65536<s.size\/65536<t.size\/65536<u.size\/65536<v.size)=true/\r = .returned (.pointer none)\/decide (65536<s.size\/65536<t.size\/65536<u.size\/65536<v.size)=false/\DeskX w w' r)/\Kept w w':=by
 have FF:Hid (∀ W':World,Calls Tryz.prog 10 #[.string s,.string t,.string u,.string v] W' fun r w'=>r = .returned (.bool (decide (65536<s.size\/65536<t.size\/65536<u.size\/65536<v.size)))/\w'=W'):=fun W'=>far_any s t u v W' hs ht hu hv
 by_cases hfar:65536<s.size\/65536<t.size\/65536<u.size\/65536<v.size
 ·have hd:decide (65536<s.size\/65536<t.size\/65536<u.size\/65536<v.size)=true:=decide_eq_true hfar
  rw[hd]
  rw[hd] at FF
  clear hfar hd
  replace hG:Hid _:=hG
  go_enter Tryz.func9,Tryz.ntmps9
  go_wp2_with fail
  refine (FF.out _).mono ?_
  rintro r w1 ⟨rfl,hw⟩
  subst w1
  go_wp2
  go_ret
  exact ⟨Or.inl ⟨by first | trivial | rfl,rfl⟩,Kept.refl _⟩
 ·have hd:decide (65536<s.size\/65536<t.size\/65536<u.size\/65536<v.size)=false:=decide_eq_false hfar
  have hs':s.size<=65536:=by omega
  have ht':t.size<=65536:=by omega
  have hu':u.size<=65536:=by omega
  have hv':v.size<=65536:=by omega
  rw[hd]
  rw[hd] at FF
  clear hfar hd hs ht hu hv
  replace hG:Hid (GridAt w):=hG
  have FP:Hid (∀ (W':World) (c:Int),-9223372036854775808<=c->c<9223372036854775808->Calls Tryz.prog 17 #[.int .i64 c,.int .i64 1099511627776] W' fun r w'=>(∃ k:Nat,k<1099511627776/\r = .returned (.int .i64 (k:Int)))/\w'=W'):=fun W' c h1 h2=>pick_any c 1099511627776 W' h1 h2 (by omega) (by omega)
  go_enter Tryz.func9,Tryz.ntmps9
  go_wp2_with fail
  refine (FF.out _).mono ?_
  rintro r w1 ⟨rfl,hw⟩
  subst w1
  go_wp2_with fail
  refine (FP.out _ a ha1 ha2).mono ?_
  rintro r w1 ⟨⟨n,hn,rfl⟩,hw⟩
  subst w1
  go_wp2_with fail
  refine (FP.out _ b hb1 hb2).mono ?_
  rintro r w1 ⟨⟨m,hm,rfl⟩,hw⟩
  subst w1
  go_wp2_with fail
  have hk0:Kept w (w.alloc (Obj.cells #[.int .i64 0,.int .i64 0,.int .i64 0,.int .i64 0,.slice none 0 0,.slice none 0 0,.slice none 0 0,.int .i64 0,.slice none 0 0,.slice none 0 0,.int .i64 0,.slice none 0 0,.int .i64 0,.int .i64 0,.string ⟨#[]⟩] 37)):=Below.alloc (Below.refl _ _) (Nat.le_refl _) _
  have hs0:w.heap.size<(w.alloc (Obj.cells #[.int .i64 0,.int .i64 0,.int .i64 0,.int .i64 0,.slice none 0 0,.slice none 0 0,.slice none 0 0,.int .i64 0,.slice none 0 0,.slice none 0 0,.int .i64 0,.slice none 0 0,.int .i64 0,.int .i64 0,.string ⟨#[]⟩] 37)).heap.size:=by simp
  have hf0:∀ k,(w.alloc (Obj.cells #[.int .i64 0,.int .i64 0,.int .i64 0,.int .i64 0,.slice none 0 0,.slice none 0 0,.slice none 0 0,.int .i64 0,.slice none 0 0,.slice none 0 0,.int .i64 0,.slice none 0 0,.int .i64 0,.int .i64 0,.string ⟨#[]⟩] 37)).frozen? ⟨w.heap.size,k,none⟩=false:=fun k=>World.frozen?_alloc_at _ _ _ _ rfl
  have hc0:∀ j,j<15->((w.alloc (Obj.cells #[.int .i64 0,.int .i64 0,.int .i64 0,.int .i64 0,.slice none 0 0,.slice none 0 0,.slice none 0 0,.int .i64 0,.slice none 0 0,.slice none 0 0,.int .i64 0,.slice none 0 0,.int .i64 0,.int .i64 0,.string ⟨#[]⟩] 37)).cell? ⟨w.heap.size,j,none⟩).isSome=true:=fun j hj=>by
   rw[World.cell?_alloc_at _ _ _ _ rfl]
   match j,hj with
   | 0,_=>rfl
   | 1,_=>rfl
   | 2,_=>rfl
   | 3,_=>rfl
   | 4,_=>rfl
   | 5,_=>rfl
   | 6,_=>rfl
   | 7,_=>rfl
   | 8,_=>rfl
   | 9,_=>rfl
   | 10,_=>rfl
   | 11,_=>rfl
   | 12,_=>rfl
   | 13,_=>rfl
   | 14,_=>rfl
  generalize (w.alloc (Obj.cells #[.int .i64 0,.int .i64 0,.int .i64 0,.int .i64 0,.slice none 0 0,.slice none 0 0,.slice none 0 0,.int .i64 0,.slice none 0 0,.slice none 0 0,.int .i64 0,.slice none 0 0,.int .i64 0,.int .i64 0,.string ⟨#[]⟩] 37))=w0 at *
  have e1:(n:Int) % 256=((n % 256:Nat):Int):=by omega
  have e2:(n:Int) / 256 % 15=((n / 256 % 15:Nat):Int):=by omega
  have e3:(n:Int) / 3840=((n / 3840:Nat):Int):=by omega
  rw[e1,e2,e3]
  clear e1 e2 e3
  refine (deskImage_any w.heap.size (n % 256) (n / 256 % 15) (n / 3840) s t w0 hs0 hf0 hc0 (by omega) (by omega) (by omega) hs' ht').mono ?_
  rintro r W1 ⟨rfl,wd,H,K,D,L,pp,qp,xp,pc,qc,xc,pal,clr,pix,hI⟩
  have HI:Hid (ImR w0 W1 w.heap.size wd H K D L pp qp xp pc qc xc pal clr pix):=hI
  have HF:Hid (∀ k,W1.frozen? ⟨w.heap.size,k,none⟩=false):=hI.fz
  have HC:Hid (∀ j,j<15->(W1.cell? ⟨w.heap.size,j,none⟩).isSome=true):=fun j hj=>by
   rcases (by omega:j=0\/j=1\/j=2\/j=3\/j=4\/j=5\/j=6\/j=7\/7<j) with rfl | rfl | rfl | rfl | rfl | rfl | rfl | rfl | q
   ·rw[hI.c0];rfl
   ·rw[hI.c1];rfl
   ·rw[hI.c2];rfl
   ·rw[hI.c3];rfl
   ·rw[hI.c4];rfl
   ·rw[hI.c5];rfl
   ·rw[hI.c6];rfl
   ·rw[hI.c7];rfl
   ·rw[hI.rest j q];exact hc0 j hj
  have hs1:w.heap.size<W1.heap.size:=Nat.lt_of_lt_of_le hs0 hI.fr.size
  clear hI hc0 hf0
  replace hk0:Hid _:=hk0
  go_wp2_with fail
  have e1:(m:Int) % 4000=((m % 4000:Nat):Int):=by omega
  have e2:(m:Int) / 4000 % 8=((m / 4000 % 8:Nat):Int):=by omega
  have e3:(m:Int) / 32000=((m / 32000:Nat):Int):=by omega
  rw[e1,e2,e3]
  clear e1 e2 e3
  refine (deskChoice_any w.heap.size (m % 4000) (m / 4000 % 8) (m / 32000) u v W1 hs1 HF.out HC.out (by omega) (by omega) (by omega) hu' hv').mono ?_
  rintro r W2 ⟨rfl,P,V,Z,fp,kp,cp,fc,kc,cc,fl,kl,cl,hR⟩
  have hG2:GridAt W2:=by
   have g0:GridAt w0:=hG.out.kept hk0.out
   have hw0:0<w.heap.size:=World.block_lt_of_cell? w ⟨0,0,none⟩ (hG.out 0 (by omega))
   exact (g0.fr HI.out.fr (by omega)).fr hR.fr (by omega)
  have hw0:w.heap.size≠0:=by
   have:0<w.heap.size:=World.block_lt_of_cell? w ⟨0,0,none⟩ (hG.out 0 (by omega))
   omega
  have HD:Hid (Dk W2 w.heap.size wd H K D L P V Z pp qp xp fp kp cp pc qc xc fc kc cc pal clr pix fl kl cl):=Dk.make hs0 HI.out hR (Option.isSome_iff_exists.1 (HC.out 14 (by omega))) hG2
  have HK:Hid (Kept w W2):=Fr.to_kept (Fr.to_kept hk0.out HI.out.fr (fun i hi=>by omega)) hR.fr (fun i hi=>by omega)
  clear hR hG2 HC HF HI hG hk0
  go_wp2_with fail
  refine (deskWrite_x w.heap.size wd H K D L P V Z pp qp xp fp kp cp pc qc xc fc kc cc pal clr pix fl kl cl W2 HD.out hw0).mono ?_
  rintro r W3 ⟨rfl,hd3,⟨ff,hff1,hff2⟩,hf3⟩
  replace hff1:Hid _:=hff1
  replace hff2:Hid _:=hff2
  have HD3:Hid (Dk W3 w.heap.size wd H K D L P V Z pp qp xp fp kp cp pc qc xc fc kc cc pal clr pix fl kl cl):=hd3
  have HK3:Hid (Kept w W3):=Fr.to_kept HK.out hf3 (fun i hi=>by omega)
  clear hd3 hf3 HD HK
  go_wp2
  go_ret
  exact ⟨Or.inr ⟨by first | trivial | rfl,w.heap.size,wd,H,K,D,L,P,V,Z,pp,qp,xp,fp,kp,cp,pc,qc,xc,fc,kc,cc,pal,clr,pix,fl,kl,cl,ff,rfl,hw0,Nat.le_refl _,HD3.out,hff1.out,hff2.out⟩,HK3.out⟩
theorem npGo_smp:∀ (k:Nat) (r:Rw),(npGo k r).smp=r.smp
 | 0,_=>rfl
 | k+1,r=>by
  unfold npGo
  split
  ·split
   ·rfl
   ·exact npGo_smp k _
  ·rfl
theorem next_smp (r:Rw):r.next.smp=r.smp:=npGo_smp 8 _
theorem start_smp (h:Hd) (k j:Nat):(Rw.start h k).smp j<65536:=by
 show (rw0 h k).next.smp j<65536
 rw[next_smp]
 show 0<65536
 omega
theorem take_smp {r:Rw} (hg:RwGood r) (h:∀ j,r.smp j<65536) (x j:Nat):(r.take x).1.smp j<65536:=by
 unfold Rw.take
 split
 ·exact h j
 ·split
  ·unfold Rw.takeF
   split
   ·exact h j
   ·exact h j
  ·split
   ·exact h j
   ·have hi:RwIn (({ r with taken:=r.taken+1 }:Rw).lay (r.taken - 1) x):=(hg.in'.taken' (by have:=hg.tk;omega)).lay _ _
    have hq:∀ j,(({ r with taken:=r.taken+1 }:Rw).lay (r.taken - 1) x).smp j<65536:=h
    generalize ({ r with taken:=r.taken+1 }:Rw).lay (r.taken - 1) x=q at *
    unfold Rw.endRow
    split
    ·exact hq j
    ·have hl:∀ j,q.laid.smp j<65536:=fun j=>layPx_sm q hi.ok hq q.columns j
     show (if q.lines<=q.line+1 then q.laid.next else q.laid).smp j<65536
     split
     ·rw[next_smp];exact hl j
     ·exact hl j
theorem giveP_smp {s:St} {r:Rw} {x:Nat} (hg:RwGood r) (h:∀ j,r.smp j<65536) (j:Nat):(giveP s r x).2.1.smp j<65536:=by
 have:=take_smp hg h x j
 unfold giveP
 split
 ·split
  ·exact this
  ·exact this
 ·exact this
theorem copyGo_smp:∀ (k D:Nat) (s:St) (r:Rw),CopyOk k D s r->(∀ j,r.smp j<65536)->∀ j,(copyGo k D s r).2.1.smp j<65536
 | 0,_,_,_,_,h,j=>h j
 | k+1,D,s,r,c,h,j=>by
  unfold copyGo
  split
  ·rename_i he
   exact copyGo_smp k D _ _ (c.2 he) (giveP_smp c.1.good h) j
  ·exact giveP_smp c.1.good h j
theorem copyP_smp {s:St} {r:Rw} {D:Nat} (k:1<=D->D<=s.count->D<=s.window->CopyOk s.length D s r) (h:∀ j,r.smp j<65536) (j:Nat):(copyP s r D).2.1.smp j<65536:=by
 unfold copyP
 split
 ·exact h j
 ·rename_i q
  exact copyGo_smp _ _ _ _ (k (by omega) (by omega) (by omega)) h j
theorem distP_smp {s:St} {r:Rw} {σ:Int} (k:∀ D,1<=D->D<=s.count->D<=s.window->CopyOk s.length D s r) (h:∀ j,r.smp j<65536) (j:Nat):(distP s r σ).2.1.smp j<65536:=by
 unfold distP
 split
 ·exact h j
 ·split
  ·exact h j
  ·split
   ·exact copyP_smp (k _) h j
   ·exact h j
theorem numP_smp {s:St} {r:Rw} {v:Nat} (k:NumOk s r v) (h:∀ j,r.smp j<65536) (j:Nat):(numP s r v).2.1.smp j<65536:=by
 unfold numP
 split
 ·exact h j
 split
 ·exact h j
 split
 ·exact h j
 split
 ·rename_i h3
  have:=giveP_smp (s:=s) (x:=v) (k.good h3) h j
  unfold storedP
  split
  ·exact this
  ·exact this
 split
 ·exact h j
 split
 ·exact h j
 split
 ·exact h j
 split
 ·exact h j
 split
 ·rename_i h8
  exact copyP_smp (k.v8 h8).copy h j
 ·exact h j
theorem symP_smp {s:St} {r:Rw} {t:Nat} (k:SymOk s r t) (h:∀ j,r.smp j<65536) (j:Nat):(symP s r t).2.1.smp j<65536:=by
 unfold symP symT
 split
 ·exact h j
 split
 ·exact h j
 split
 ·exact h j
 split
 ·exact h j
 ·exact giveP_smp k.good h j
theorem bitP_smp {s:St} {r:Rw} {t:Nat} (k:BitOk s r t) (h:∀ j,r.smp j<65536) (j:Nat):(bitP s r t).2.1.smp j<65536:=by
 unfold bitP
 split
 ·rename_i h12
  exact symP_smp (k.sym h12) h j
 split
 ·exact h j
 split
 ·rename_i h13
  exact distP_smp (k.ds h13).copy h j
 split
 ·exact h j
 ·rename_i h12 h11 h13 hw
  exact numP_smp (k.num (by have:=k.part;omega) hw) h j
theorem bitsGo_smp (x:Nat):∀ (n i:Nat) (s:St) (r:Rw),BitsOk n i s r x->(∀ j,r.smp j<65536)->∀ j,(bitsGo n i s r x).2.1.smp j<65536
 | 0,_,_,_,_,h,j=>h j
 | n+1,i,s,r,k,h,j=>by
  unfold bitsGo
  split
  ·exact h j
  ·rename_i hs
   rcases k with q | ⟨k1,k2⟩
   ·exact absurd q hs
   ·have h1:=bitP_smp k1 h
    split
    ·rename_i he
     exact bitsGo_smp x n (i+1) _ _ (k2 he) h1 j
    ·exact h1 j
def SmI (s:Rd):Prop:=(∀ j,s.rw.smp j<65536)/\(s.hd.W=0\/1<=s.hd.H)
theorem SmI.begin {s:Rd} (h:SmI s):SmI s.begin:=by
 unfold Rd.begin
 split
 ·exact h
 ·exact ⟨fun j=>start_smp _ _ j,h.2⟩
theorem SmI.note {s:Rd} (h:SmI s):SmI s.note:=by
 have h1:SmI s.note1:=by
  unfold Rd.note1
  split
  ·exact h
  ·split
   ·exact h
   ·split
    ·exact h.begin
    ·exact h
 show SmI s.note1.note2
 unfold Rd.note2
 split
 ·exact h1
 ·exact h1
theorem headOf_ok (d:Nat->Nat) (h:(headOf d).1=0):(headOf d).2.W=0\/1<=(headOf d).2.H:=by
 rw[headOf_eq] at h ⊢
 split
 ·exact Or.inl rfl
 ·rename_i q
  split
  ·exact Or.inl rfl
  ·split
   ·exact Or.inl rfl
   ·right
    show 1<=hN d
    have:hN d≠0:=fun e=>q (Or.inr (Or.inl e))
    omega
theorem SmI.accept {s:Rd} (h:SmI s):SmI s.accept.1:=by
 unfold Rd.accept
 split
 ·unfold Rd.acceptHead
  split
  ·exact h
  ·rename_i q
   exact ⟨h.1,headOf_ok s.raw (by omega)⟩
 ·split
  ·exact h
  ·exact h
theorem SmI.keep {s:Rd} {x:Nat} (h:SmI s) (k:KeepOk s x):SmI (s.keep x).1:=by
 unfold Rd.keep
 split
 ·exact h
 ·split
  ·exact h
  ·split
   ·exact h
   ·split
    ·rename_i hi
     have hb:∀ j,(takeB s.st s.rw x).2.1.smp j<65536:=fun j=>by
      unfold takeB
      split
      ·exact h.1 j
      ·rename_i hp
       exact bitsGo_smp x 8 0 _ s.rw (k.bits hi hp) h.1 j
     have ht:SmI (s.streamed x):=⟨hb,h.2⟩
     unfold Rd.takeStream
     split
     ·exact ht
     ·split
      ·exact ht
      ·exact ht
    ·exact h
theorem SmI.take {s:Rd} {x:Nat} (h:SmI s) (k:TakeOk s x):SmI (s.take x).1:=by
 unfold Rd.take
 split
 ·unfold Rd.takeSign
  split
  ·exact h
  ·split
   ·exact h
   ·exact h
 ·split
  ·unfold Rd.takeLength
   split
   ·exact h
   ·split
    ·exact h
    ·exact h
  ·split
   ·unfold Rd.takeType
    have ht:SmI (s.typed x):=h
    split
    ·exact h
    ·split
     ·exact ht
     ·split
      ·exact ht.note
      ·exact ht.note
   ·split
    ·rename_i h3
     have hk:=SmI.keep (s:=s.summed x) (x:=x) h (k.keep h3)
     unfold Rd.takeData
     split
     ·exact hk
     ·show SmI ((s.summed x).keep x).1.dataEnd
      unfold Rd.dataEnd
      split
      ·exact hk
      ·exact hk
    ·split
     ·unfold Rd.takeSum
      have ha:SmI (s.num x).accept.1:=SmI.accept (s:=s.num x) h
      split
      ·exact h
      ·split
       ·exact h
       ·split
        ·exact ha
        ·split
         ·exact ha
         ·exact ha
     ·exact h
theorem Rn.smI:∀ {l:List Nat} {s b:Rd},Rn s l b->SmI s->SmI b
 | [],s,b,h,k=>by cases h;exact k
 | x::l,s,b,h,k=>Rn.smI h.2.2 (k.take h.1)
theorem smI0:SmI rd0:=⟨fun _=>by show 0<65536;omega,Or.inl rfl⟩
theorem lat_of {w:World} {g o N c:Nat} {f:Nat->Int} (h:∀ j,j<N->w.cell? ⟨g,o+j,none⟩=some (.int .i64 (f j))):LAt w .i64 (.slice (some ⟨g,o,none⟩) ((List.range N).map f).length c) ((List.range N).map f):=by
 have hl:((List.range N).map f).length=N:=by rw[List.length_map,List.length_range]
 refine ⟨⟨_,_,rfl⟩,fun p c' e i hi => ?_⟩
 injection e with e1 _ _
 rw[hl] at hi
 refine ⟨g,o,e1.symm,?_⟩
 rw[h i hi,List.getD_eq_getElem?_getD,List.getElem?_map,List.getElem?_range hi];rfl
def pxP (r:Rw) (t:Tl) (h:Hd) (x y:Nat):Nat->Int:=if r.known (y*16+x) then colP t h (r.smp (4*(y*16+x))) (r.smp (4*(y*16+x)+1)) (r.smp (4*(y*16+x)+2)) (r.smp (4*(y*16+x)+3)) else fun _=>0
theorem pixel_x (b o1 o2 n x y:Nat) (c:Nat->Value) (r:Rw) (t:Tl) (h:Hd) (w:World) (hB:Blk w b n c) (hp:PicOk c o1 o2 n r t h) (hpal:∀ j,t.pal j<256) (hx:x<16) (hy:y<16) :
  Calls Tryz.prog 90 #[hdV h,.pointer (some ⟨b,o1,none⟩),.pointer (some ⟨b,o2,none⟩),.int .i64 (x:Int),.int .i64 (y:Int)] w fun e w'=>FourX w (pxP r t h x y) e w':=by
 have EF:Hid (r.known (y*16+x)=false->pxP r t h x y=fun _=>0):=fun q=>by unfold pxP;rw[q,if_neg (by decide)]
 have ET:Hid (r.known (y*16+x)=true->pxP r t h x y=colP t h (r.smp (4*(y*16+x))) (r.smp (4*(y*16+x)+1)) (r.smp (4*(y*16+x)+2)) (r.smp (4*(y*16+x)+3))):=fun q=>by unfold pxP;rw[if_pos q]
 generalize pxP r t h x y=PX at *
 have HPl:Hid (∀ j,t.pal j<256):=hpal
 clear hpal
 obtain ⟨wa,hwa⟩:∃ wa,wa=w.alloc (Obj.cells #[.int .i64 (h.W:Int),.int .i64 (h.H:Int),.int .i64 (h.D:Int),.int .i64 (h.K:Int),.int .i64 (h.L:Int)] 71):=⟨_,rfl⟩
 obtain ⟨wb,hwb⟩:∃ wb,wb=wa.alloc (Obj.cells #[.int .i64 0,.int .i64 0,.int .i64 0,.int .i64 0] 138):=⟨_,rfl⟩
 have hsa:wa.heap.size=w.heap.size+1:=by rw[hwa];simp
 have Ka:Kept w wa:=by rw[hwa];exact Below.alloc (Below.refl _ _) (Nat.le_refl _) _
 have Kb:Kept wa wb:=by rw[hwb];exact Below.alloc (Below.refl _ _) (Nat.le_refl _) _
 have K0:Hid (Kept w wb):=Ka.trans Kb
 have hcell:∀ j v,(#[Value.int .i64 (h.W:Int),.int .i64 (h.H:Int),.int .i64 (h.D:Int),.int .i64 (h.K:Int),.int .i64 (h.L:Int)]:Array Value)[j]? = some v->wb.cell? ⟨w.heap.size,j,none⟩=some v:=fun j v hv=>by
  rw[Kb.cell (p:=⟨w.heap.size,j,none⟩) (by show w.heap.size<wa.heap.size;omega),hwa]
  exact (World.cell?_alloc_at _ _ _ _ rfl).trans hv
 have R4:Hid (FourAt wb (w.heap.size+1) (fun _=>0)):=by
  rw[hwb,<- hsa]
  refine ⟨?_,?_,?_,?_⟩<;>exact (World.cell?_alloc_at _ _ _ _ rfl).trans rfl
 have Z4:Hid (∀ j,wb.frozen? ⟨w.heap.size+1,j,none⟩=false):=fun j=>by rw[hwb,<- hsa];exact World.frozen?_alloc_at _ _ _ _ rfl
 have HB:Hid (Blk wb b n c):=hB.kept K0.out
 have HP:Hid (PicOk c o1 o2 n r t h):=hp
 have p0:=hcell 0 _ rfl
 have p1:=hcell 1 _ rfl
 have p2:=hcell 2 _ rfl
 have p3:=hcell 3 _ rfl
 have p4:=hcell 4 _ rfl
 have FK:Hid (Calls Tryz.prog 88 #[.pointer (some ⟨b,o1,none⟩),.int .i64 (x:Int),.int .i64 (y:Int)] wb fun e w'=>e = .returned (.bool (r.known (y*16+x)))/\Kept wb w'):=(rknown_x b o1 n x y c r wb HB.out hp.V hp.n1 hx hy).mono (fun e w' ⟨q1,q,q2⟩=>⟨q1,by rw[q2];exact (Kept.refl _).drewN _⟩)
 have hbw:=hB.lt
 clear hB hp hcell Ka Kb
 unfold hdV
 go_enter Tryz.func90,Tryz.ntmps90
 go_upto_region 1 with fail
 rw[<- hwa,<- hwb]
 replace hwa:Hid _:=hwa
 replace hwb:Hid _:=hwb
 go_wp2_with fail
 refine FK.out.mono ?_
 rintro e w2 ⟨rfl,hk2⟩
 have K2:Hid (Kept wb w2):=hk2
 have B2:Hid (Blk w2 b n c):=HB.out.kept hk2
 have R2:Hid (FourAt w2 (w.heap.size+1) (fun _=>0)):=R4.out.kept hk2
 have hs0:w.heap.size<wb.heap.size:=World.block_lt_of_cell? wb ⟨w.heap.size,0,none⟩ p0
 have hs1:w.heap.size+1<wb.heap.size:=World.block_lt_of_cell? wb ⟨w.heap.size+1,0,none⟩ R4.out.1
 have zr:∀ j,w2.frozen? ⟨w.heap.size+1,j,none⟩=false:=fun j=>(hk2.frozen (p:=⟨w.heap.size+1,j,none⟩) hs1).trans (Z4.out j)
 have d0:=(hk2.cell (p:=⟨w.heap.size,0,none⟩) hs0).trans p0
 have d1:=(hk2.cell (p:=⟨w.heap.size,1,none⟩) hs0).trans p1
 have d2:=(hk2.cell (p:=⟨w.heap.size,2,none⟩) hs0).trans p2
 have d3:=(hk2.cell (p:=⟨w.heap.size,3,none⟩) hs0).trans p3
 have d4:=(hk2.cell (p:=⟨w.heap.size,4,none⟩) hs0).trans p4
 clear FK p0 p1 p2 p3 p4 hk2 HB
 obtain ⟨r0,r1,r2,r3⟩:=R2.out
 cases hkn:r.known (y*16+x) with
 | false=>
  replace hkn:Hid _:=hkn
  go_wp2_with fail
  exact bodyPost_ret (results_cell1 rfl _ _ _ _ _ rfl (load4 (R2.out.put 0 0 0 0))) rfl ⟨by rw[EF.out hkn.out];rfl,((((K0.out.trans K2.out).setCell (Nat.le_add_right _ _) _).setCell (Nat.le_add_right _ _) _).setCell (Nat.le_add_right _ _) _).setCell (Nat.le_add_right _ _) _⟩
 | true=>
  replace ET:Hid _:=ET.out hkn
  have FJ:Hid (∀ W,Kept w2 W->Calls Tryz.prog 126 #[.pointer (some ⟨b,o1,none⟩),.int .i64 (x:Int),.int .i64 (y:Int)] W fun e w'=>e = .returned (.agg #[.int .i64 (r.smp (4*(y*16+x)):Int),.int .i64 (r.smp (4*(y*16+x)+1):Int),.int .i64 (r.smp (4*(y*16+x)+2):Int),.int .i64 (r.smp (4*(y*16+x)+3):Int)])/\Kept W w'):=fun W k=>rsamples_x b o1 n x y c r W (B2.out.kept k) HP.out.V HP.out.n1 hx hy HP.out.sm
  have FC:Hid (∀ W,Kept w2 W->Calls Tryz.prog 125 #[.pointer (some ⟨b,o2,none⟩),.agg #[.int .i64 (h.W:Int),.int .i64 (h.H:Int),.int .i64 (h.D:Int),.int .i64 (h.K:Int),.int .i64 (h.L:Int)],.agg #[.int .i64 (r.smp (4*(y*16+x)):Int),.int .i64 (r.smp (4*(y*16+x)+1):Int),.int .i64 (r.smp (4*(y*16+x)+2):Int),.int .i64 (r.smp (4*(y*16+x)+3):Int)]] W fun e w'=>e = .returned (.agg #[.int .i64 (PX 0),.int .i64 (PX 1),.int .i64 (PX 2),.int .i64 (PX 3)])/\Kept W w'):=fun W k=>by
   rw[ET.out]
   exact colour_x b o2 n c t h _ _ _ _ W (B2.out.kept k) HP.out.T HP.out.n2 HPl.out HP.out.cl HP.out.K (HP.out.sm _) (HP.out.sm _) (HP.out.sm _) (HP.out.sm _)
  clear ET
  generalize r.smp (4*(y*16+x))=S0 at *
  generalize r.smp (4*(y*16+x)+1)=S1 at *
  generalize r.smp (4*(y*16+x)+2)=S2 at *
  generalize r.smp (4*(y*16+x)+3)=S3 at *
  have hs02:w.heap.size<w2.heap.size:=World.block_lt_of_cell? w2 ⟨w.heap.size,0,none⟩ d0
  have HS:Hid (∀ W,Kept w2 W->(W.cell? ⟨w.heap.size,0,none⟩=some (.int .i64 (h.W:Int))/\W.cell? ⟨w.heap.size,1,none⟩=some (.int .i64 (h.H:Int))/\W.cell? ⟨w.heap.size,2,none⟩=some (.int .i64 (h.D:Int))/\W.cell? ⟨w.heap.size,3,none⟩=some (.int .i64 (h.K:Int))/\W.cell? ⟨w.heap.size,4,none⟩=some (.int .i64 (h.L:Int)))):=fun W k=>⟨(k.cell (p:=⟨w.heap.size,0,none⟩) hs02).trans d0,(k.cell (p:=⟨w.heap.size,1,none⟩) hs02).trans d1,(k.cell (p:=⟨w.heap.size,2,none⟩) hs02).trans d2,(k.cell (p:=⟨w.heap.size,3,none⟩) hs02).trans d3,(k.cell (p:=⟨w.heap.size,4,none⟩) hs02).trans d4⟩
  have n2:w.heap.size≠w.heap.size+1:=by omega
  have HS5:Hid (∀ (V:World) (x0 x1 x2 x3:Value) (W:World),Kept w2 V->W=((((V.setCell ⟨w.heap.size+1,0,none⟩ x0).setCell ⟨w.heap.size+1,1,none⟩ x1).setCell ⟨w.heap.size+1,2,none⟩ x2).setCell ⟨w.heap.size+1,3,none⟩ x3)->(W.cell? ⟨w.heap.size,0,none⟩=some (.int .i64 (h.W:Int))/\W.cell? ⟨w.heap.size,1,none⟩=some (.int .i64 (h.H:Int))/\W.cell? ⟨w.heap.size,2,none⟩=some (.int .i64 (h.D:Int))/\W.cell? ⟨w.heap.size,3,none⟩=some (.int .i64 (h.K:Int))/\W.cell? ⟨w.heap.size,4,none⟩=some (.int .i64 (h.L:Int)))):=fun V x0 x1 x2 x3 W k hW=>by
   obtain ⟨a0,a1,a2,a3,a4⟩:=HS.out V k
   subst hW
   exact ⟨(four_other _ n2 _ _ _ _ _).trans a0,(four_other _ n2 _ _ _ _ _).trans a1,(four_other _ n2 _ _ _ _ _).trans a2,(four_other _ n2 _ _ _ _ _).trans a3,(four_other _ n2 _ _ _ _ _).trans a4⟩
  go_wp2_with fail
  go_region_held3 (fun W=>W.cell? ⟨w.heap.size,0,none⟩=some (.int .i64 (h.W:Int))/\W.cell? ⟨w.heap.size,1,none⟩=some (.int .i64 (h.H:Int))/\W.cell? ⟨w.heap.size,2,none⟩=some (.int .i64 (h.D:Int))/\W.cell? ⟨w.heap.size,3,none⟩=some (.int .i64 (h.K:Int))/\W.cell? ⟨w.heap.size,4,none⟩=some (.int .i64 (h.L:Int))) (first | exact HS.out _ ((Kept.refl _).drewN 1) | exact HS5.out _ _ _ _ _ _ hk6 rfl | exact HS.out _ hk6 | exact HS.out _ hk5 | go_keep) ((first | (go_at_call 126;refine (FJ.out _ ((Kept.refl _).drewN 1)).mono ?_;rintro e w5 ⟨rfl,hk5'⟩;have hk5:Kept w2 w5:=((Kept.refl _).drewN 1).trans hk5') | (go_at_call 125;refine (FC.out _ hk5).mono ?_;rintro e w6 ⟨rfl,hk6'⟩;have hk6:Kept w2 w6:=hk5.trans hk6';have R6:Hid (FourAt w6 (w.heap.size+1) (fun _=>0)):=R2.out.kept hk6;have r06:=R6.out.1;have r16:=R6.out.2.1;have r26:=R6.out.2.2.1;have r36:=R6.out.2.2.2;have zr6:∀ j,w6.frozen? ⟨w.heap.size+1,j,none⟩=false:=fun j=>(hk6.frozen (p:=⟨w.heap.size+1,j,none⟩) (Nat.lt_of_lt_of_le hs1 K2.out.size)).trans (zr j))))
  go_wp2_with fail
  exact bodyPost_ret (results_cell1 rfl _ _ _ _ _ rfl (load4 (R6.out.put _ _ _ _))) rfl ⟨rfl,((((K0.out.trans (K2.out.trans hk6)).setCell (Nat.le_add_right _ _) _).setCell (Nat.le_add_right _ _) _).setCell (Nat.le_add_right _ _) _).setCell (Nat.le_add_right _ _) _⟩
def NumsAt (W:World) (g N:Nat) (f:Nat->Int):Prop:=(∀ j,j<N->W.cell? ⟨g,j,none⟩=some (.int .i64 (f j)))/\∀ j,W.frozen? ⟨g,j,none⟩=false
theorem NumsAt.set {W:World} {g N:Nat} {f f':Nat->Int} (h:NumsAt W g N f) (k:Nat) (v:Int) (h1:f' k=v) (h2:∀ j,j≠k->j<N->f' j=f j):NumsAt (W.setCell ⟨g,k,none⟩ (.int .i64 v)) g N f':=by
 refine ⟨fun j hj => ?_,fun j=>by rw[World.frozen?_setCell];exact h.2 j⟩
 by_cases e:j=k
 ·subst e;rw[h1];exact cell_set_same (h.1 j hj) _
 ·rw[cell_set_other _ _ _ _ _ (fun q=>e q.symm),h2 j e hj];exact h.1 j hj
theorem NumsAt.kept {W W':World} {g N:Nat} {f:Nat->Int} (h:NumsAt W g N f) (k:Kept W W') (hg:g<W.heap.size):NumsAt W' g N f:=
 ⟨fun j hj=>(k.cell (p:=⟨g,j,none⟩) hg).trans (h.1 j hj),fun j=>(k.frozen (p:=⟨g,j,none⟩) hg).trans (h.2 j)⟩
theorem NumsAt.congr {W:World} {g N:Nat} {f f':Nat->Int} (h:NumsAt W g N f) (e:∀ j,j<N->f' j=f j):NumsAt W g N f':=⟨fun j hj=>by rw[e j hj];exact h.1 j hj,h.2⟩
theorem play_x (g N i:Nat) (a0 a1 a2 a3:Int) (f:Nat->Int) (w:World) (hI:NumsAt w g N f) (hg:g<w.heap.size) (hi:4*i+3<N) (hN:N<=100000) :
  Calls Tryz.prog 89 #[.slice (some ⟨g,0,none⟩) N N,.int .i64 (i:Int),.agg #[.int .i64 a0,.int .i64 a1,.int .i64 a2,.int .i64 a3]] w fun e w'=>e = .returned (.tuple #[])/\NumsAt w' g N (fun j=>if j / 4=i then pick4 a0 a1 a2 a3 (j % 4) else f j)/\Fr1 g w w':=by
 have K0:Hid (Kept w (w.alloc (Obj.cells #[.int .i64 a0,.int .i64 a1,.int .i64 a2,.int .i64 a3] 138))):=Below.alloc (Below.refl _ _) (Nat.le_refl _) _
 have I0:Hid (NumsAt (w.alloc (Obj.cells #[.int .i64 a0,.int .i64 a1,.int .i64 a2,.int .i64 a3] 138)) g N f):=hI.kept K0.out hg
 have A0:Hid (FourAt (w.alloc (Obj.cells #[.int .i64 a0,.int .i64 a1,.int .i64 a2,.int .i64 a3] 138)) w.heap.size (pick4 a0 a1 a2 a3)):=by
  refine ⟨?_,?_,?_,?_⟩<;>exact (World.cell?_alloc_at _ _ _ _ rfl).trans rfl
 clear hI
 go_enter Tryz.func89,Tryz.ntmps89
 go_wp2_with fail
 generalize w.alloc (Obj.cells #[.int .i64 a0,.int .i64 a1,.int .i64 a2,.int .i64 a3] 138)=w1 at *
 go_loopg [6] 4 (fun m v W=>∃ k:Nat,m=4 - k/\k<=4/\v = .int .i64 (k:Int)/\Fr1 g w1 W/\NumsAt W g N (fun j=>if j / 4=i/\j % 4<k then pick4 a0 a1 a2 a3 (j % 4) else f j))
 case atStart=>exact ⟨0,by omega,by omega,rfl,Fr.refl _ _,I0.out.congr (fun j _=>if_neg (by omega))⟩
 case round=>
  obtain ⟨k,hgk,hk4,rfl,hfr,hin⟩:=hrel
  replace hgk:Hid _:=hgk
  have HF:Hid (Fr1 g w1 wr):=hfr
  have HI:Hid (NumsAt wr g N (fun j=>if j / 4=i/\j % 4<k then pick4 a0 a1 a2 a3 (j % 4) else f j)):=hin
  have HA:Hid (FourAt wr w.heap.size (pick4 a0 a1 a2 a3)):=A0.out.fr hfr (by omega)
  clear hfr hin
  by_cases hlt:k<4
  ·have hlt':(k:Int)<4:=by omega
   have k0:(0:Int)<=(k:Int):=by omega
   obtain ⟨Q,hQ⟩:∃ Q,Q=4*i+k:=⟨_,rfl⟩
   have eQ:4*(i:Int)+(k:Int)=(Q:Int):=by omega
   have hQN:(Q:Int)<(N:Int):=by omega
   have q0:(0:Int)<=(Q:Int):=by omega
   have ka:=HA.out.get k hlt
   obtain ⟨zz,kg⟩:∃ zz,wr.cell? ⟨g,Q,none⟩=some (.int .i64 zz):=⟨_,HI.out.1 Q (by omega)⟩
   have zg:=HI.out.2 Q
   generalize hAK:pick4 a0 a1 a2 a3 k=AK at *
   replace hAK:Hid _:=hAK
   replace hQ:Hid _:=hQ
   go_wp2_with fail
   go_roundg (4 - (k+1))
   case measure=>rw[hgk.out];omega
   case rel=>
    refine ⟨k+1,rfl,by omega,by go_num,Fr1.set HF.out _ _,HI.out.set _ _ ?_ ?_⟩
    ·show (if Q / 4=i/\Q % 4<k+1 then pick4 a0 a1 a2 a3 (Q % 4) else f Q)=_
     have:=hQ.out
     rw[if_pos (by omega),show Q % 4=k from by omega,hAK.out]
    ·intro j hj _
     show (if j / 4=i/\j % 4<k+1 then pick4 a0 a1 a2 a3 (j % 4) else f j)=if j / 4=i/\j % 4<k then pick4 a0 a1 a2 a3 (j % 4) else f j
     have:=hQ.out
     by_cases q:j / 4=i/\j % 4<k
     ·rw[if_pos q,if_pos (by omega)]
     ·rw[if_neg q,if_neg (by omega)]
  ·have hlt':¬ (k:Int)<4:=by omega
   go_wp2_with fail
   go_end0
   exact ⟨rfl,HI.out.congr (fun j _=>by
    have:j % 4<4:=Nat.mod_lt _ (by omega)
    by_cases q:j / 4=i
    ·rw[if_pos q,if_pos ⟨q,by omega⟩]
    ·rw[if_neg q,if_neg (fun e=>q e.1)]),Fr.trans' (Fr.of_kept K0.out) HF.out (fun _ _ q=>q)⟩
def PxEx (w:World) (f:Nat->Nat->Int) (h:Hd) (e:Ending) (w':World):Prop:=∃ g,e = .returned (.slice (some ⟨g,0,none⟩) (4*(h.W*h.H)) (4*(h.W*h.H)))/\w.heap.size<=g/\g<w'.heap.size/\(∀ j,j<4*(h.W*h.H)->w'.cell? ⟨g,j,none⟩=some (.int .i64 (f (j / 4) (j % 4))))/\Kept w w'
theorem pix_x (b o1 o2 n:Nat) (c:Nat->Value) (r:Rw) (t:Tl) (h:Hd) (w:World) (hB:Blk w b n c) (hp:PicOk c o1 o2 n r t h) (hpal:∀ j,t.pal j<256) :
  Calls Tryz.prog 57 #[hdV h,.pointer (some ⟨b,o1,none⟩),.pointer (some ⟨b,o2,none⟩)] w fun e w'=>PxEx w (fun i=>pxP r t h (i % h.W) (i / h.W)) h e w':=by
 have HPl:Hid (∀ j,t.pal j<256):=hpal
 clear hpal
 have HPX:Hid (∀ X Y,pxP r t h X Y=pxP r t h X Y):=fun _ _=>rfl
 have FJ:Hid (∀ W,Calls Tryz.prog 87 #[hdV h] W fun e w'=>e = .returned (.int .i64 ((h.W*h.H:Nat):Int))/\Kept W w'):=fun W=>psize_x h W hp.W1 hp.W2 hp.H1 hp.H2
 obtain ⟨T,hT⟩:∃ T,T=h.W*h.H:=⟨_,rfl⟩
 rw[<- hT] at FJ
 have hT6:T<=256:=by rw[hT];exact Nat.mul_le_mul hp.W2 hp.H2
 have HT:Hid (T=h.W*h.H):=hT
 obtain ⟨T4,hT4⟩:∃ T4,T4=4*T:=⟨_,rfl⟩
 have eT4:4*(T:Int)=(T4:Int):=by omega
 have HT4:Hid (T4=4*T):=hT4
 have hT4b:T4<=1024:=by omega
 have HP:Hid (PicOk c o1 o2 n r t h):=hp
 have HB:Hid (Blk w b n c):=hB
 have hbw:=hB.lt
 have w1p:=hp.W1
 have w2p:=hp.W2
 have h2p:=hp.H2
 clear hT hT4 hB hp
 have K0:Hid (Kept w (w.alloc (Obj.cells #[.int .i64 (h.W:Int),.int .i64 (h.H:Int),.int .i64 (h.D:Int),.int .i64 (h.K:Int),.int .i64 (h.L:Int)] 71))):=Below.alloc (Below.refl _ _) (Nat.le_refl _) _
 have C0:Hid (∀ W,W=w.alloc (Obj.cells #[.int .i64 (h.W:Int),.int .i64 (h.H:Int),.int .i64 (h.D:Int),.int .i64 (h.K:Int),.int .i64 (h.L:Int)] 71)->(W.cell? ⟨w.heap.size,0,none⟩=some (.int .i64 (h.W:Int))/\W.cell? ⟨w.heap.size,1,none⟩=some (.int .i64 (h.H:Int))/\W.cell? ⟨w.heap.size,2,none⟩=some (.int .i64 (h.D:Int))/\W.cell? ⟨w.heap.size,3,none⟩=some (.int .i64 (h.K:Int))/\W.cell? ⟨w.heap.size,4,none⟩=some (.int .i64 (h.L:Int)))):=fun W e=>by
  rw[e]
  refine ⟨?_,?_,?_,?_,?_⟩<;>exact (World.cell?_alloc_at _ _ _ _ rfl).trans rfl
 unfold hdV at *
 go_enter Tryz.func57,Tryz.ntmps57
 go_wp2_with fail
 generalize hw0:w.alloc (Obj.cells #[.int .i64 (h.W:Int),.int .i64 (h.H:Int),.int .i64 (h.D:Int),.int .i64 (h.K:Int),.int .i64 (h.L:Int)] 71)=w0 at *
 obtain ⟨z0,z1,z2,z3,z4⟩:=C0.out w0 rfl
 have hs0:w.heap.size<w0.heap.size:=World.block_lt_of_cell? w0 ⟨w.heap.size,0,none⟩ z0
 have HH:Hid (∀ W,Kept w0 W->(W.cell? ⟨w.heap.size,0,none⟩=some (.int .i64 (h.W:Int))/\W.cell? ⟨w.heap.size,1,none⟩=some (.int .i64 (h.H:Int))/\W.cell? ⟨w.heap.size,2,none⟩=some (.int .i64 (h.D:Int))/\W.cell? ⟨w.heap.size,3,none⟩=some (.int .i64 (h.K:Int))/\W.cell? ⟨w.heap.size,4,none⟩=some (.int .i64 (h.L:Int)))):=fun W k=>⟨(k.cell (p:=⟨w.heap.size,0,none⟩) hs0).trans z0,(k.cell (p:=⟨w.heap.size,1,none⟩) hs0).trans z1,(k.cell (p:=⟨w.heap.size,2,none⟩) hs0).trans z2,(k.cell (p:=⟨w.heap.size,3,none⟩) hs0).trans z3,(k.cell (p:=⟨w.heap.size,4,none⟩) hs0).trans z4⟩
 clear C0 z0 z1 z2 z3 z4 hw0
 refine (FJ.out _).mono ?_
 rintro e w1 ⟨rfl,hk1⟩
 have hmk:=make_ints w1 T4 (by omega)
 have K1:Hid (Kept w0 w1):=hk1
 have hws:w.heap.size<w1.heap.size:=Nat.lt_of_lt_of_le hs0 hk1.size
 have K2:Hid (Kept w1 (w1.alloc (.cells (madeCells #[Value.int .i64 0] T4) 3))):=Below.alloc (Below.refl _ _) (Nat.le_refl _) _
 have I2:Hid (NumsAt (w1.alloc (.cells (madeCells #[Value.int .i64 0] T4) 3)) w1.heap.size T4 (fun _=>0)):=⟨fun j hj=>(World.cell?_alloc_at _ _ _ _ rfl).trans (made_ints T4 j hj),fun j=>World.frozen?_alloc_at _ _ _ _ rfl⟩
 have hsz:w1.heap.size<(w1.alloc (.cells (madeCells #[Value.int .i64 0] T4) 3)).heap.size:=by simp
 clear hk1
 go_wp2_with fail
 generalize w1.alloc (.cells (madeCells #[Value.int .i64 0] T4) 3)=w2 at *
 clear hmk
 obtain ⟨g,hg⟩:∃ g,g=w1.heap.size:=⟨_,rfl⟩
 rw[<- hg] at I2 hws hsz ⊢
 replace hg:Hid _:=hg
 have K02:Hid (Kept w0 w2):=K1.out.trans (by rw[hg.out] at *;exact K2.out)
 have hgw:w.heap.size<g:=hws
 clear K1 K2
 go_loopg [8] T (fun m v W=>∃ k:Nat,m=T - k/\k<=T/\v = .int .i64 (k:Int)/\Fr1 g w2 W/\NumsAt W g T4 (fun j=>if j / 4<k then pxP r t h (j / 4 % h.W) (j / 4 / h.W) (j % 4) else 0))
 case atStart=>exact ⟨0,by omega,by omega,rfl,Fr.refl _ _,I2.out.congr (fun j _=>if_neg (by omega))⟩
 case round=>
  obtain ⟨k,hgk,hkT,rfl,hfr,hin⟩:=hrel
  replace hgk:Hid _:=hgk
  have HF:Hid (Fr1 g w2 wr):=hfr
  have HI:Hid (NumsAt wr g T4 (fun j=>if j / 4<k then pxP r t h (j / 4 % h.W) (j / 4 / h.W) (j % 4) else 0)):=hin
  have KR:Hid (∀ i,i<g->i<w2.heap.size->wr.heap[i]? = w2.heap[i]?):=fun i h1 h2=>hfr.block i h2 (by omega)
  have hcr:∀ j,wr.cell? ⟨w.heap.size,j,none⟩=w2.cell? ⟨w.heap.size,j,none⟩:=fun j=>hfr.cell (Nat.lt_trans hgw hsz) (by omega)
  obtain ⟨x0,x1,x2,x3,x4⟩:=HH.out w2 K02.out
  have c0:=(hcr 0).trans x0
  have c1:=(hcr 1).trans x1
  have c2:=(hcr 2).trans x2
  have c3:=(hcr 3).trans x3
  have c4:=(hcr 4).trans x4
  have hgr:g<wr.heap.size:=Nat.lt_of_lt_of_le hsz hfr.size
  have hsr:w.heap.size<wr.heap.size:=Nat.lt_trans hgw hgr
  have BR:Hid (Blk wr b n c):=(HB.out.kept (K0.out.trans K02.out)).fr hfr (by omega)
  clear hfr hin x0 x1 x2 x3 x4 hcr
  have g1:(0:Int)<(h.W:Int):=by omega
  have g0:¬ ((h.W:Int)=0):=by omega
  have g0':((h.W:Int) == 0)=false:=by rw[beq_eq_false_iff_ne];omega
  have g0'':¬ (h.W=0):=by omega
  go_wp2_with fail
  refine (FJ.out _).mono ?_
  rintro e w3 ⟨rfl,hk3⟩
  have K3:Hid (Kept wr w3):=hk3
  have d0:=(hk3.cell (p:=⟨w.heap.size,0,none⟩) hsr).trans c0
  have d1:=(hk3.cell (p:=⟨w.heap.size,1,none⟩) hsr).trans c1
  have d2:=(hk3.cell (p:=⟨w.heap.size,2,none⟩) hsr).trans c2
  have d3:=(hk3.cell (p:=⟨w.heap.size,3,none⟩) hsr).trans c3
  have d4:=(hk3.cell (p:=⟨w.heap.size,4,none⟩) hsr).trans c4
  have hs3:w.heap.size<w3.heap.size:=Nat.lt_of_lt_of_le hsr hk3.size
  have hg3:g<w3.heap.size:=Nat.lt_of_lt_of_le hgr hk3.size
  clear hk3 c0 c1 c2 c3 c4
  by_cases hlt:k<T
  ·have hlt':(k:Int)<(T:Int):=by omega
   obtain ⟨X,hX⟩:∃ X,X=k % h.W:=⟨_,rfl⟩
   obtain ⟨Y,hY⟩:∃ Y,Y=k / h.W:=⟨_,rfl⟩
   have eX:(k:Int) % (h.W:Int)=(X:Int):=by rw[hX];exact (Int.natCast_emod _ _).symm
   have eY:(k:Int) / (h.W:Int)=(Y:Int):=by rw[hY];exact (Int.natCast_ediv _ _).symm
   have hX16:X<16:=by rw[hX];exact Nat.lt_of_lt_of_le (Nat.mod_lt _ (by omega)) w2p
   have hY16:Y<16:=by
    rw[hY]
    exact Nat.lt_of_lt_of_le (Nat.div_lt_of_lt_mul (by rw[<- HT.out];exact hlt)) h2p
   have tm:(k:Int).tmod (h.W:Int)=(X:Int):=by rw[Int.tmod_eq_emod_of_nonneg (by omega)];exact eX
   have td:(k:Int).tdiv (h.W:Int)=(Y:Int):=by rw[Int.tdiv_eq_ediv_of_nonneg (by omega)];exact eY
   have wX:IntKind.i64.wrap (X:Int)=(X:Int):=by rw[IntKind.wrap_i64];omega
   have wY:IntKind.i64.wrap (Y:Int)=(Y:Int):=by rw[IntKind.wrap_i64];omega
   replace hX:Hid _:=hX
   replace hY:Hid _:=hY
   obtain ⟨PX,hPX⟩:∃ PX,PX=pxP r t h X Y:=⟨_,rfl⟩
   have FP:Hid (∀ W,Kept w3 W->Calls Tryz.prog 90 #[.agg #[.int .i64 (h.W:Int),.int .i64 (h.H:Int),.int .i64 (h.D:Int),.int .i64 (h.K:Int),.int .i64 (h.L:Int)],.pointer (some ⟨b,o1,none⟩),.pointer (some ⟨b,o2,none⟩),.int .i64 (X:Int),.int .i64 (Y:Int)] W fun e w'=>e = .returned (.agg #[.int .i64 (PX 0),.int .i64 (PX 1),.int .i64 (PX 2),.int .i64 (PX 3)])/\Kept W w'):=fun W kW=>by rw[hPX];exact pixel_x b o1 o2 n X Y c r t h W (BR.out.kept (K3.out.trans kW)) HP.out HPl.out hX16 hY16
   replace hPX:Hid _:=hPX
   have FL:Hid (∀ (W:World) (a0 a1 a2 a3:Int),Kept w3 W->Calls Tryz.prog 89 #[.slice (some ⟨g,0,none⟩) T4 T4,.int .i64 (k:Int),.agg #[.int .i64 a0,.int .i64 a1,.int .i64 a2,.int .i64 a3]] W fun e w'=>e = .returned (.tuple #[])/\NumsAt w' g T4 (fun j=>if j / 4=k then pick4 a0 a1 a2 a3 (j % 4) else if j / 4<k then pxP r t h (j / 4 % h.W) (j / 4 / h.W) (j % 4) else 0)/\Fr1 g W w'):=fun W a0 a1 a2 a3 kW=>play_x g T4 k a0 a1 a2 a3 _ W (HI.out.kept (K3.out.trans kW) hgr) (Nat.lt_of_lt_of_le hg3 kW.size) (by have:=HT4.out;omega) (by omega)
   have HS:Hid (∀ W,Kept w3 W->(W.cell? ⟨w.heap.size,0,none⟩=some (.int .i64 (h.W:Int))/\W.cell? ⟨w.heap.size,1,none⟩=some (.int .i64 (h.H:Int))/\W.cell? ⟨w.heap.size,2,none⟩=some (.int .i64 (h.D:Int))/\W.cell? ⟨w.heap.size,3,none⟩=some (.int .i64 (h.K:Int))/\W.cell? ⟨w.heap.size,4,none⟩=some (.int .i64 (h.L:Int)))):=fun W k=>⟨(k.cell (p:=⟨w.heap.size,0,none⟩) hs3).trans d0,(k.cell (p:=⟨w.heap.size,1,none⟩) hs3).trans d1,(k.cell (p:=⟨w.heap.size,2,none⟩) hs3).trans d2,(k.cell (p:=⟨w.heap.size,3,none⟩) hs3).trans d3,(k.cell (p:=⟨w.heap.size,4,none⟩) hs3).trans d4⟩
   have HS5:Hid (∀ V W,Kept w3 V->Fr1 g V W->(W.cell? ⟨w.heap.size,0,none⟩=some (.int .i64 (h.W:Int))/\W.cell? ⟨w.heap.size,1,none⟩=some (.int .i64 (h.H:Int))/\W.cell? ⟨w.heap.size,2,none⟩=some (.int .i64 (h.D:Int))/\W.cell? ⟨w.heap.size,3,none⟩=some (.int .i64 (h.K:Int))/\W.cell? ⟨w.heap.size,4,none⟩=some (.int .i64 (h.L:Int)))):=fun V W k f=>by
    obtain ⟨a0,a1,a2,a3,a4⟩:=HS.out V k
    have e:∀ j,W.cell? ⟨w.heap.size,j,none⟩=V.cell? ⟨w.heap.size,j,none⟩:=fun j=>f.cell (Nat.lt_of_lt_of_le hs3 k.size) (by omega)
    exact ⟨(e 0).trans a0,(e 1).trans a1,(e 2).trans a2,(e 3).trans a3,(e 4).trans a4⟩
   go_wp2_with fail
   go_region_held3 (fun W=>W.cell? ⟨w.heap.size,0,none⟩=some (.int .i64 (h.W:Int))/\W.cell? ⟨w.heap.size,1,none⟩=some (.int .i64 (h.H:Int))/\W.cell? ⟨w.heap.size,2,none⟩=some (.int .i64 (h.D:Int))/\W.cell? ⟨w.heap.size,3,none⟩=some (.int .i64 (h.K:Int))/\W.cell? ⟨w.heap.size,4,none⟩=some (.int .i64 (h.L:Int))) (first | exact HS.out _ ((Kept.refl _).drewN 1) | exact HS5.out _ _ hk5 hf6 | exact HS.out _ hk5 | go_keep) ((first | (go_at_call 90;refine (FP.out _ ((Kept.refl _).drewN 1)).mono ?_;rintro e w5 ⟨rfl,hk5'⟩;have hk5:Kept w3 w5:=((Kept.refl _).drewN 1).trans hk5') | (go_at_call 89;refine (FL.out _ _ _ _ _ hk5).mono ?_;rintro e w6 ⟨rfl,hi6,hf6⟩)))
   have I6:Hid (NumsAt w6 g T4 (fun j=>if j / 4<k+1 then pxP r t h (j / 4 % h.W) (j / 4 / h.W) (j % 4) else 0)):=hi6.congr (fun j _=>by
    by_cases q:j / 4=k
    ·rw[if_pos q,if_pos (by omega),q,<- hX.out,<- hY.out,<- hPX.out]
     have h4:j % 4<4:=Nat.mod_lt _ (by omega)
     generalize j % 4=m at *
     match m,h4 with
     | 0,_=>rfl
     | 1,_=>rfl
     | 2,_=>rfl
     | 3,_=>rfl
    ·rw[if_neg q]
     by_cases q2:j / 4<k
     ·rw[if_pos q2,if_pos (by omega)]
     ·rw[if_neg q2,if_neg (by omega)])
   have F6:Hid (Fr1 g w2 w6):=(HF.out.kept (K3.out.trans hk5)).trans hf6
   clear hi6 hf6 hk5
   go_wp2_with fail
   go_roundg (T - (k+1))
   case measure=>rw[hgk.out];omega
   case rel=>exact ⟨k+1,rfl,by omega,by go_num,F6.out,I6.out⟩
  ·have hlt':¬ (k:Int)<(T:Int):=by omega
   go_wp2_with fail
   go_ret
   have hkT':k=T:=by omega
   refine ⟨g,by rw[<- HT.out,<- HT4.out];rfl,by omega,Nat.lt_of_lt_of_le hg3 (Nat.le_refl _),fun j hj => ?_,?_⟩
   ·rw[<- HT.out,<- HT4.out] at hj
    rw[K3.out.cell (p:=⟨g,j,none⟩) hgr,HI.out.1 j hj]
    have:=HT4.out
    show some (Value.int .i64 (if j / 4<k then pxP r t h (j / 4 % h.W) (j / 4 / h.W) (j % 4) else 0))=_
    rw[if_pos (by omega)]
   ·exact Fr.to_kept (S:=fun j=>j=g) (K0.out.trans K02.out) (HF.out.kept K3.out) (fun i hi q=>by omega)
def orgP (f s q p:Nat):Nat × Bool:=if p<f then (0,false) else (p - (p - f) % s,decide ((p - f) % s<q))
theorem orgP_lt {f s q p:Nat} (h:p<16):(orgP f s q p).1<16:=by unfold orgP;split<;>(show _<_)<;>omega
def shGo (r:Rw) (t:Tl) (h:Hd) (x y:Nat):Nat->Nat->Int
 | 0=>fun _=>0
 | k+1=>
  let p:=psOf h.L k
  let a:=orgP p.cf p.cs p.cb x
  let b:=orgP p.rf p.rs p.rb y
  if a.2 && b.2 && r.known (b.1*16+a.1) then pxP r t h a.1 b.1 else shGo r t h x y k
def shP (r:Rw) (t:Tl) (h:Hd) (x y:Nat):Nat->Int:=shGo r t h x y (cntP h.L)
theorem shGo_no {r:Rw} {t:Tl} {h:Hd} {x y k a b:Nat} {A B:Bool} (e1:orgP (psOf h.L k).cf (psOf h.L k).cs (psOf h.L k).cb x=(a,A)) (e2:orgP (psOf h.L k).rf (psOf h.L k).rs (psOf h.L k).rb y=(b,B)) (q:(A && B && r.known (b*16+a))=false):shGo r t h x y (k+1)=shGo r t h x y k:=by
 show (if _ then _ else _)=_
 rw[e1,e2]
 show (if (A && B && r.known (b*16+a))=true then _ else _)=_
 rw[q,if_neg (by decide)]
theorem shGo_yes {r:Rw} {t:Tl} {h:Hd} {x y k a b:Nat} (e1:orgP (psOf h.L k).cf (psOf h.L k).cs (psOf h.L k).cb x=(a,true)) (e2:orgP (psOf h.L k).rf (psOf h.L k).rs (psOf h.L k).rb y=(b,true)) (q:r.known (b*16+a)=true):shGo r t h x y (k+1)=pxP r t h a b:=by
 show (if _ then _ else _)=_
 rw[e1,e2]
 show (if (true && true && r.known (b*16+a))=true then _ else _)=_
 rw[q,if_pos (by decide)]
theorem origin_x (f s q p:Nat) (w:World) (hf:f<=8) (hs1:1<=s) (hs2:s<=8) (hp:p<16) :
  Calls Tryz.prog 127 #[.agg #[.int .i64 (f:Int),.int .i64 (s:Int),.int .i64 (q:Int)],.int .i64 (p:Int)] w fun e w'=>e = .returned (.tuple #[.int .i64 ((orgP f s q p).1:Int),.bool (orgP f s q p).2])/\Kept w w':=by
 have g1:¬ (s:Int)<1:=by omega
 have g0:¬ ((s:Int)=0):=by omega
 have g0':((s:Int) == 0)=false:=by rw[beq_eq_false_iff_ne];omega
 have g0'':¬ (s=0):=by omega
 have K0:Hid (∀ o,Kept w (w.alloc o)):=fun o=>Below.alloc (Below.refl _ _) (Nat.le_refl _) _
 have E1:Hid (p<f->orgP f s q p=(0,false)):=fun h=>if_pos h
 have E2:Hid (¬ p<f->orgP f s q p=(p - (p - f) % s,decide ((p - f) % s<q))):=fun h=>if_neg h
 generalize orgP f s q p=OR at *
 by_cases h:p<f
 ·have h':(p:Int)<(f:Int):=by omega
  go_enter Tryz.func127,Tryz.ntmps127
  go_wp2
  go_ret2
  exact ⟨by rw[E1.out h];rfl,K0.out _⟩
 ·have h':¬ (p:Int)<(f:Int):=by omega
  obtain ⟨A,hA⟩:∃ A,A=p - f:=⟨_,rfl⟩
  have eA:(p:Int) - (f:Int)=(A:Int):=by omega
  obtain ⟨R,hR⟩:∃ R,R=A % s:=⟨_,rfl⟩
  have eR:(A:Int) % (s:Int)=(R:Int):=by rw[hR];exact (Int.natCast_emod _ _).symm
  have eR':(A:Int).tmod (s:Int)=(R:Int):=by rw[Int.tmod_eq_emod_of_nonneg (by omega)];exact eR
  have hRA:R<=A:=by rw[hR];exact Nat.mod_le _ _
  obtain ⟨M,hM⟩:∃ M,M=p - R:=⟨_,rfl⟩
  have eM:(p:Int) - (R:Int)=(M:Int):=by omega
  have hM16:M<16:=by omega
  replace E2:Hid (OR=(M,decide (R<q))):=(E2.out h).trans (by rw[<- hA,<- hR,<- hM])
  clear hR hA hM
  go_enter Tryz.func127,Tryz.ntmps127
  go_wp2_with fail
  go_quiet (fail)
  go_wp2_with fail
  go_ret2
  exact ⟨by rw[E2.out];first | rfl | (congr 4;rw[Bool.eq_iff_iff,decide_eq_true_iff,decide_eq_true_iff];omega),(K0.out _).drewN _⟩
theorem shown_x (b o1 o2 n x y:Nat) (c:Nat->Value) (r:Rw) (t:Tl) (h:Hd) (w:World) (hB:Blk w b n c) (hp:PicOk c o1 o2 n r t h) (hpal:∀ j,t.pal j<256) (hx:x<16) (hy:y<16) (hG:GrdAt w) :
  Calls Tryz.prog 91 #[hdV h,.pointer (some ⟨b,o1,none⟩),.pointer (some ⟨b,o2,none⟩),.int .i64 (x:Int),.int .i64 (y:Int)] w fun e w'=>FourX w (shP r t h x y) e w':=by
 have HPl:Hid (∀ j,t.pal j<256):=hpal
 have ES:Hid (shP r t h x y=shGo r t h x y (cntP h.L)):=rfl
 have E0:Hid (shGo r t h x y 0=fun _=>0):=rfl
 have EN:Hid (∀ k a b A B,orgP (psOf h.L k).cf (psOf h.L k).cs (psOf h.L k).cb x=(a,A)->orgP (psOf h.L k).rf (psOf h.L k).rs (psOf h.L k).rb y=(b,B)->(A && B && r.known (b*16+a))=false->shGo r t h x y (k+1)=shGo r t h x y k):=fun k a b A B e1 e2 q=>shGo_no e1 e2 q
 have EY:Hid (∀ k a b,orgP (psOf h.L k).cf (psOf h.L k).cs (psOf h.L k).cb x=(a,true)->orgP (psOf h.L k).rf (psOf h.L k).rs (psOf h.L k).rb y=(b,true)->r.known (b*16+a)=true->shGo r t h x y (k+1)=pxP r t h a b):=fun k a b e1 e2 q=>shGo_yes e1 e2 q
 generalize shP r t h x y=SH at *
 generalize shGo r t h x y=SG at *
 clear hpal
 obtain ⟨wa,hwa⟩:∃ wa,wa=w.alloc (Obj.cells #[.int .i64 (h.W:Int),.int .i64 (h.H:Int),.int .i64 (h.D:Int),.int .i64 (h.K:Int),.int .i64 (h.L:Int)] 71):=⟨_,rfl⟩
 obtain ⟨wb,hwb⟩:∃ wb,wb=wa.alloc (Obj.cells #[.int .i64 0,.int .i64 0,.int .i64 0,.int .i64 0] 138):=⟨_,rfl⟩
 have hsa:wa.heap.size=w.heap.size+1:=by rw[hwa];simp
 have Ka:Kept w wa:=by rw[hwa];exact Below.alloc (Below.refl _ _) (Nat.le_refl _) _
 have Kb:Kept wa wb:=by rw[hwb];exact Below.alloc (Below.refl _ _) (Nat.le_refl _) _
 have K0:Hid (Kept w wb):=Ka.trans Kb
 have hcell:∀ j v,(#[Value.int .i64 (h.W:Int),.int .i64 (h.H:Int),.int .i64 (h.D:Int),.int .i64 (h.K:Int),.int .i64 (h.L:Int)]:Array Value)[j]? = some v->wb.cell? ⟨w.heap.size,j,none⟩=some v:=fun j v hv=>by
  rw[Kb.cell (p:=⟨w.heap.size,j,none⟩) (by show w.heap.size<wa.heap.size;omega),hwa]
  exact (World.cell?_alloc_at _ _ _ _ rfl).trans hv
 have R4:Hid (FourAt wb (w.heap.size+1) (fun _=>0)):=by
  rw[hwb,<- hsa]
  refine ⟨?_,?_,?_,?_⟩<;>exact (World.cell?_alloc_at _ _ _ _ rfl).trans rfl
 have Z4:Hid (∀ j,wb.frozen? ⟨w.heap.size+1,j,none⟩=false):=fun j=>by rw[hwb,<- hsa];exact World.frozen?_alloc_at _ _ _ _ rfl
 have HB:Hid (Blk wb b n c):=hB.kept K0.out
 have HG:Hid (GrdAt wb):=hG.kept K0.out
 have HP:Hid (PicOk c o1 o2 n r t h):=hp
 have p0:=hcell 0 _ rfl
 have p1:=hcell 1 _ rfl
 have p2:=hcell 2 _ rfl
 have p3:=hcell 3 _ rfl
 have p4:=hcell 4 _ rfl
 have hs0:w.heap.size<wb.heap.size:=World.block_lt_of_cell? wb ⟨w.heap.size,0,none⟩ p0
 have hs1:w.heap.size+1<wb.heap.size:=World.block_lt_of_cell? wb ⟨w.heap.size+1,0,none⟩ R4.out.1
 have HH:Hid (∀ W,Kept wb W->(W.cell? ⟨w.heap.size,0,none⟩=some (.int .i64 (h.W:Int))/\W.cell? ⟨w.heap.size,1,none⟩=some (.int .i64 (h.H:Int))/\W.cell? ⟨w.heap.size,2,none⟩=some (.int .i64 (h.D:Int))/\W.cell? ⟨w.heap.size,3,none⟩=some (.int .i64 (h.K:Int))/\W.cell? ⟨w.heap.size,4,none⟩=some (.int .i64 (h.L:Int)))):=fun W k=>⟨(k.cell (p:=⟨w.heap.size,0,none⟩) hs0).trans p0,(k.cell (p:=⟨w.heap.size,1,none⟩) hs0).trans p1,(k.cell (p:=⟨w.heap.size,2,none⟩) hs0).trans p2,(k.cell (p:=⟨w.heap.size,3,none⟩) hs0).trans p3,(k.cell (p:=⟨w.heap.size,4,none⟩) hs0).trans p4⟩
 have HL:Hid (h.L<=1):=hp.L
 have FC:Hid (∀ W':World,Calls Tryz.prog 94 #[.int .i64 (h.L:Int)] W' fun e w'=>e = .returned (.int .i64 (cntP h.L:Int))/\w'=W'):=fun W'=>count_x _ W'
 obtain ⟨CN,hCN⟩:∃ CN,CN=cntP h.L:=⟨_,rfl⟩
 rw[<- hCN] at FC ES
 have hCN7:CN<=7:=by rw[hCN];unfold cntP;split<;>omega
 clear hCN hB hp hcell Ka Kb hG p0 p1 p2 p3
 unfold hdV
 go_enter Tryz.func91,Tryz.ntmps91
 go_upto_region 1 with fail
 rw[<- hwa,<- hwb]
 replace hwa:Hid _:=hwa
 replace hwb:Hid _:=hwb
 go_wp2_with fail
 refine (FC.out _).mono ?_
 rintro e w2 ⟨rfl,hw2⟩
 subst w2
 go_wp2_with fail
 go_loopg [11,12,13,14,15,16] CN (fun m v v12 v13 v14 v15 v16 W=>m<=CN/\v = .int .i64 ((m:Int) - 1)/\SH=SG m/\Kept wb W)
 case atStart=>exact ⟨Nat.le_refl _,rfl,ES.out,Kept.refl _⟩
 case round=>
  obtain ⟨hgC,rfl,hSG,hkw⟩:=hrel
  replace hSG:Hid _:=hSG
  have HKW:Hid (Kept wb wr):=hkw
  obtain ⟨d0,d1,d2,d3,d4⟩:=HH.out wr hkw
  clear hkw
  by_cases hz:gk=0
  ·have hz':¬ (0:Int)<=(gk:Int) - 1:=by omega
   have R2:Hid (FourAt wr (w.heap.size+1) (fun _=>0)):=R4.out.kept HKW.out
   obtain ⟨r0,r1,r2,r3⟩:=R2.out
   have zr:∀ j,wr.frozen? ⟨w.heap.size+1,j,none⟩=false:=fun j=>(HKW.out.frozen (p:=⟨w.heap.size+1,j,none⟩) hs1).trans (Z4.out j)
   replace hz:Hid _:=hz
   go_wp2_with fail
   exact bodyPost_ret (results_cell1 rfl _ _ _ _ _ rfl (load4 (R2.out.put 0 0 0 0))) rfl ⟨by rw[hSG.out,hz.out,E0.out];rfl,((((K0.out.trans HKW.out).setCell (Nat.le_add_right _ _) _).setCell (Nat.le_add_right _ _) _).setCell (Nat.le_add_right _ _) _).setCell (Nat.le_add_right _ _) _⟩
  ·obtain ⟨K,hK⟩:∃ K,gk=K+1:=⟨gk - 1,by omega⟩
   have eK:(gk:Int) - 1=(K:Int):=by omega
   have k0:(0:Int)<=(K:Int):=by omega
   rw[eK]
   have FO:Hid (Calls Tryz.prog 95 #[.int .i64 (h.L:Int),.int .i64 (K:Int)] wr fun e w'=>e = .returned (psV (psOf h.L K))/\Kept wr w'):=psOf_x h.L K wr HL.out (by omega) (HG.out.kept HKW.out)
   have HOk:Hid _:=psOf_ok h.L K
   obtain ⟨ps,hps⟩:∃ p,p=psOf h.L K:=⟨_,rfl⟩
   rw[<- hps] at FO HOk
   replace hps:Hid _:=hps
   clear hz
   replace hK:Hid _:=hK
   unfold psV at FO
   obtain ⟨q1,q2,q3,q4,q5,q6,q7,q8⟩:=HOk.out
   go_wp2_with fail
   refine FO.out.mono ?_
   rintro e w3 ⟨rfl,hk3⟩
   have K3:Hid (Kept wb w3):=HKW.out.trans hk3
   have K4:Hid (Kept wb (w3.alloc (Obj.cells #[.int .i64 (ps.cf:Int),.int .i64 (ps.cs:Int),.int .i64 (ps.cb:Int),.int .i64 (ps.rf:Int),.int .i64 (ps.rs:Int),.int .i64 (ps.rb:Int)] 146))):=K3.out.trans (Below.alloc (Below.refl _ _) (Nat.le_refl _) _)
   have C4:Hid (∀ W,Kept (w3.alloc (Obj.cells #[.int .i64 (ps.cf:Int),.int .i64 (ps.cs:Int),.int .i64 (ps.cb:Int),.int .i64 (ps.rf:Int),.int .i64 (ps.rs:Int),.int .i64 (ps.rb:Int)] 146)) W->(W.cell? ⟨w3.heap.size,0,none⟩=some (.int .i64 (ps.cf:Int))/\W.cell? ⟨w3.heap.size,1,none⟩=some (.int .i64 (ps.cs:Int))/\W.cell? ⟨w3.heap.size,2,none⟩=some (.int .i64 (ps.cb:Int))/\W.cell? ⟨w3.heap.size,3,none⟩=some (.int .i64 (ps.rf:Int))/\W.cell? ⟨w3.heap.size,4,none⟩=some (.int .i64 (ps.rs:Int))/\W.cell? ⟨w3.heap.size,5,none⟩=some (.int .i64 (ps.rb:Int)))):=fun W k=>by
    refine ⟨?_,?_,?_,?_,?_,?_⟩
    ·exact (k.cell (p:=⟨w3.heap.size,0,none⟩) (by simp)).trans ((World.cell?_alloc_at _ _ _ _ rfl).trans rfl)
    ·exact (k.cell (p:=⟨w3.heap.size,1,none⟩) (by simp)).trans ((World.cell?_alloc_at _ _ _ _ rfl).trans rfl)
    ·exact (k.cell (p:=⟨w3.heap.size,2,none⟩) (by simp)).trans ((World.cell?_alloc_at _ _ _ _ rfl).trans rfl)
    ·exact (k.cell (p:=⟨w3.heap.size,3,none⟩) (by simp)).trans ((World.cell?_alloc_at _ _ _ _ rfl).trans rfl)
    ·exact (k.cell (p:=⟨w3.heap.size,4,none⟩) (by simp)).trans ((World.cell?_alloc_at _ _ _ _ rfl).trans rfl)
    ·exact (k.cell (p:=⟨w3.heap.size,5,none⟩) (by simp)).trans ((World.cell?_alloc_at _ _ _ _ rfl).trans rfl)
   clear hk3 FO d0 d1 d2 d3 d4
   go_upto_region 5 with fail
   generalize w3.alloc (Obj.cells #[.int .i64 (ps.cf:Int),.int .i64 (ps.cs:Int),.int .i64 (ps.cb:Int),.int .i64 (ps.rf:Int),.int .i64 (ps.rs:Int),.int .i64 (ps.rb:Int)] 146)=w4 at *
   generalize w3.heap.size=G at *
   obtain ⟨m0,m1,m2,m3,m4,m5⟩:=C4.out w4 (Kept.refl _)
   have FOx:Hid (∀ W,Calls Tryz.prog 127 #[.agg #[.int .i64 (ps.cf:Int),.int .i64 (ps.cs:Int),.int .i64 (ps.cb:Int)],.int .i64 (x:Int)] W fun e w'=>e = .returned (.tuple #[.int .i64 ((orgP ps.cf ps.cs ps.cb x).1:Int),.bool (orgP ps.cf ps.cs ps.cb x).2])/\Kept W w'):=fun W=>origin_x _ _ _ _ W (by omega) q2 q3 hx
   have FOy:Hid (∀ W,Calls Tryz.prog 127 #[.agg #[.int .i64 (ps.rf:Int),.int .i64 (ps.rs:Int),.int .i64 (ps.rb:Int)],.int .i64 (y:Int)] W fun e w'=>e = .returned (.tuple #[.int .i64 ((orgP ps.rf ps.rs ps.rb y).1:Int),.bool (orgP ps.rf ps.rs ps.rb y).2])/\Kept W w'):=fun W=>origin_x _ _ _ _ W (by omega) q6 q7 hy
   have hmx:=orgP_lt (f:=ps.cf) (s:=ps.cs) (q:=ps.cb) hx
   have hmy:=orgP_lt (f:=ps.rf) (s:=ps.rs) (q:=ps.rb) hy
   replace EN:Hid (∀ a b A B,orgP ps.cf ps.cs ps.cb x=(a,A)->orgP ps.rf ps.rs ps.rb y=(b,B)->(A && B && r.known (b*16+a))=false->SG gk=SG K):=fun a b A B e1 e2 q=>by rw[hK.out];rw[hps.out] at e1 e2;exact EN.out K a b A B e1 e2 q
   replace EY:Hid (∀ a b,orgP ps.cf ps.cs ps.cb x=(a,true)->orgP ps.rf ps.rs ps.rb y=(b,true)->r.known (b*16+a)=true->SG gk=pxP r t h a b):=fun a b e1 e2 q=>by rw[hK.out];rw[hps.out] at e1 e2;exact EY.out K a b e1 e2 q
   obtain ⟨⟨mx,Bx⟩,hox⟩:∃ o,orgP ps.cf ps.cs ps.cb x=o:=⟨_,rfl⟩
   obtain ⟨⟨my,By⟩,hoy⟩:∃ o,orgP ps.rf ps.rs ps.rb y=o:=⟨_,rfl⟩
   rw[hox] at FOx hmx
   rw[hoy] at FOy hmy
   replace hmx:mx<16:=hmx
   replace hmy:my<16:=hmy
   replace hox:Hid _:=hox
   replace hoy:Hid _:=hoy
   go_wp2_with fail
   refine (FOx.out _).mono ?_
   rintro e w5 ⟨rfl,hk5⟩
   have K5:Hid (Kept wb w5):=K4.out.trans hk5
   obtain ⟨m0',m1',m2',m3',m4',m5'⟩:=C4.out w5 hk5
   clear m0 m1 m2 m3 m4 m5 hk5
   go_wp2_with fail
   refine (FOy.out _).mono ?_
   rintro e w6 ⟨rfl,hk6⟩
   have K6:Hid (Kept wb w6):=K5.out.trans hk6
   clear m0' m1' m2' m3' m4' m5' hk6 FOx FOy
   have FK:Hid (Calls Tryz.prog 88 #[.pointer (some ⟨b,o1,none⟩),.int .i64 (mx:Int),.int .i64 (my:Int)] w6 fun e w'=>e = .returned (.bool (r.known (my*16+mx)))/\Kept w6 w'):=(rknown_x b o1 n mx my c r w6 (HB.out.kept K6.out) HP.out.V HP.out.n1 hmx hmy).mono (fun e w' ⟨q1,q,q2⟩=>⟨q1,by rw[q2];exact (Kept.refl _).drewN _⟩)
   cases Bx with
   | false=>
    go_wp2_with fail
    go_roundg K
    case measure=>rw[hK.out];omega
    case rel=>exact ⟨by have:=hK.out;omega,by go_num,hSG.out.trans (EN.out _ _ _ _ hox.out hoy.out (by simp)),K6.out⟩
   | true=>
    cases By with
    | false=>
     go_wp2_with fail
     go_roundg K
     case measure=>rw[hK.out];omega
     case rel=>exact ⟨by have:=hK.out;omega,by go_num,hSG.out.trans (EN.out _ _ _ _ hox.out hoy.out (by simp)),K6.out⟩
    | true=>
     go_wp2_with fail
     refine FK.out.mono ?_
     rintro e w7 ⟨rfl,hk7⟩
     have K7:Hid (Kept wb w7):=K6.out.trans hk7
     clear hk7 FK
     cases hkn:r.known (my*16+mx) with
     | false=>
      replace hkn:Hid _:=hkn
      go_wp2_with fail
      go_roundg K
      case measure=>rw[hK.out];omega
      case rel=>exact ⟨by have:=hK.out;omega,by go_num,hSG.out.trans (EN.out _ _ _ _ hox.out hoy.out (by rw[hkn.out];rfl)),K7.out⟩
     | true=>
      obtain ⟨d0,d1,d2,d3,d4⟩:=HH.out w7 K7.out
      have FP:Hid (Calls Tryz.prog 90 #[.agg #[.int .i64 (h.W:Int),.int .i64 (h.H:Int),.int .i64 (h.D:Int),.int .i64 (h.K:Int),.int .i64 (h.L:Int)],.pointer (some ⟨b,o1,none⟩),.pointer (some ⟨b,o2,none⟩),.int .i64 (mx:Int),.int .i64 (my:Int)] w7 fun e w'=>e = .returned (.agg #[.int .i64 (SH 0),.int .i64 (SH 1),.int .i64 (SH 2),.int .i64 (SH 3)])/\Kept w7 w'):=by
       rw[hSG.out,EY.out _ _ hox.out hoy.out hkn]
       exact pixel_x b o1 o2 n mx my c r t h w7 (HB.out.kept K7.out) HP.out HPl.out hmx hmy
      clear hkn
      go_wp2_with fail
      refine FP.out.mono ?_
      rintro e w8 ⟨rfl,hk8⟩
      have K8:Hid (Kept wb w8):=K7.out.trans hk8
      have R8:Hid (FourAt w8 (w.heap.size+1) (fun _=>0)):=R4.out.kept K8.out
      obtain ⟨r0,r1,r2,r3⟩:=R8.out
      have zr:∀ j,w8.frozen? ⟨w.heap.size+1,j,none⟩=false:=fun j=>(K8.out.frozen (p:=⟨w.heap.size+1,j,none⟩) hs1).trans (Z4.out j)
      go_wp2_with fail
      exact bodyPost_ret (results_cell1 rfl _ _ _ _ _ rfl (load4 (R8.out.put _ _ _ _))) rfl ⟨rfl,((((K0.out.trans K8.out).setCell (Nat.le_add_right _ _) _).setCell (Nat.le_add_right _ _) _).setCell (Nat.le_add_right _ _) _).setCell (Nat.le_add_right _ _) _⟩
