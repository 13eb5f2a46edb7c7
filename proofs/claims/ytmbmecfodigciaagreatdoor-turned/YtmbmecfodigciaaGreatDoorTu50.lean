import Derived.Test.YtmbmecfodigciaaGreatDoorTu49
import Derived.Deep.CutBlock
import Derived.Deep.CutRange
import Derived.Deep.RegionWith
set_option maxRecDepth 100000
set_option maxHeartbeats 6400000
namespace Go.Proofs.YtmbmecfodigciaaGreatDoor
open Go.RowKit Px
set_option linter.unusedSimpArgs false
set_option linter.unusedVariables false
theorem xor_bit {X k:Nat} (hX:X<256) (hk:k<8):X ^^^ 2^k<256/\X ^^^ 2^k≠X:=by
 have hp:2^k<2^8:=Nat.pow_lt_pow_right (by omega) hk
 refine ⟨Nat.xor_lt_two_pow (n:=8) hX hp,fun e => ?_⟩
 have:X ^^^ (X ^^^ 2^k)=X ^^^ X:=by rw[e]
 rw[<- Nat.xor_assoc,Nat.xor_self,Nat.zero_xor] at this
 have:=Nat.two_pow_pos k
 omega
theorem u8_xor (a c:Nat) (ha:a<256) (hc:c<256):bits .xor .u8 (a:Int) (c:Int)=((a ^^^ c:Nat):Int):=by
 show IntKind.u8.wrap ((BitVec.ofInt 8 (a:Int) ^^^ BitVec.ofInt 8 (c:Int)).toNat:Int)=_
 have e1:(BitVec.ofInt 8 (a:Int)).toNat=a:=by rw[BitVec.ofInt_natCast,BitVec.toNat_ofNat];exact Nat.mod_eq_of_lt (by omega)
 have e2:(BitVec.ofInt 8 (c:Int)).toNat=c:=by rw[BitVec.ofInt_natCast,BitVec.toNat_ofNat];exact Nat.mod_eq_of_lt (by omega)
 have:a ^^^ c<256:=Nat.xor_lt_two_pow (n:=8) ha hc
 rw[BitVec.toNat_xor,e1,e2,IntKind.wrap_u8]
 omega
theorem turn_bit {X k:Nat} (hX:X<256) (hk:k<8):bits .xor .u8 (X:Int) (IntKind.u8.wrap (2^min (IntKind.u64.wrap (k:Int)).toNat 8))=((X ^^^ 2^k:Nat):Int):=by
 have hp:2^k<2^8:=Nat.pow_lt_pow_right (by omega) hk
 have e1:(IntKind.u64.wrap (k:Int)).toNat=k:=by rw[IntKind.wrap_u64];omega
 have e2:min k 8=k:=by omega
 have e3:(2:Int)^k=((2^k:Nat):Int):=by simp
 have e4:∀ m:Nat,m<256->IntKind.u8.wrap (m:Int)=(m:Int):=fun m hm=>by rw[IntKind.wrap_u8];omega
 rw[e1,e2,e3,e4 _ hp,u8_xor X (2^k) hX hp]
structure RowY (w W:World) (B:Nat) (ff:ByteArray) (i x y:Nat):Prop where
 kept:Kept w W
 lt:B<W.heap.size
 y256:y<256
 ne:y≠x
 at1:W.cell? ⟨B,i,none⟩=some (.int .u8 (y:Int))
 rest:∀ j z:Nat,j≠i->(bsOf ff)[j]? = some z->W.cell? ⟨B,j,none⟩=some (.int .u8 (z:Int))
theorem RowT.turn {w W:World} {B i x k:Nat} {ff:ByteArray} (h:RowT W B ff) (hk:Kept w W) (hB:w.heap.size<=B) (hx:(bsOf ff)[i]? = some x) (hk8:k<8) (n:Nat) (W':World) (e:W'=(W.setCell ⟨B,i,none⟩ (.int .u8 ((x ^^^ 2^k:Nat):Int))).drewN n):RowY w W' B ff i x (x ^^^ 2^k):=by
 have hX:x<256:=bsOf_lt ff x (List.mem_of_getElem? hx)
 obtain ⟨h1,h2⟩:=xor_bit hX hk8
 subst e
 refine ⟨Kept.drewN (Below.setCell hk hB _) n,?_,h1,h2,cell_set_same (h.cell i x hx) _,fun j z hj hz=>(cell_set_other _ _ _ _ _ (by omega)).trans (h.cell j z hz)⟩
 show B<(W.setCell ⟨B,i,none⟩ (.int .u8 ((x ^^^ 2^k:Nat):Int))).heap.size
 simpa [World.setCell] using h.lt
theorem RowY.conv {w W:World} {B i x y cap:Nat} {ff:ByteArray} (h:RowY w W B ff i x y) (hi:i<ff.size):∃ t:ByteArray,(∀ W',Kept W W'->(convert 56 9 (.slice (some ⟨B,i,none⟩) (ff.size - i) cap)).run Tryz.prog W' = .ok (.string t) W')/\bsOf t=y::(bsOf ff).drop (i+1):=by
 have hl:=bsOf_length ff
 have hby:isBytes (((y::(bsOf ff).drop (i+1)).map (fun z:Nat=>(z:Int)))):=by
  intro z hz
  obtain ⟨q,hq,rfl⟩:=List.mem_map.1 hz
  have:q<256:=by
   rcases List.mem_cons.1 hq with e | e
   ·rw[e];exact h.y256
   ·exact bsOf_lt ff q (List.mem_of_mem_drop e)
  exact ⟨by omega,by omega⟩
 refine ⟨strOfNums ((y::(bsOf ff).drop (i+1)).map (fun z:Nat=>(z:Int))),fun W' hk => ?_,?_⟩
 ·refine run_convert_bytes_arg (P:=Tryz.prog) W' 56 5 Tryz.underlying56 Tryz.underlying5 B i (ff.size - i) cap _ ?_ (fun j hj => ?_) 9 Tryz.underlying9
  ·rw[List.length_map,List.length_cons,List.length_drop,hl];omega
  ·refine (hk.cell (p:=⟨B,i+j,none⟩) h.lt).trans ?_
   have hlen:j<(y::(bsOf ff).drop (i+1)).length:=by rw[List.length_cons,List.length_drop,hl];omega
   rw[List.getD_eq_getElem?_getD,List.getElem?_map,List.getElem?_eq_getElem hlen]
   show W.cell? ⟨B,i+j,none⟩=some (.int .u8 (((y::(bsOf ff).drop (i+1))[j]:Nat):Int))
   match j,hlen with
   | 0,_=>exact h.at1
   | j+1,hlen=>
    refine h.rest (i+(j+1)) _ (by omega) ?_
    have hd:j<((bsOf ff).drop (i+1)).length:=by rw[List.length_cons] at hlen;omega
    show (bsOf ff)[i+(j+1)]? = some (((bsOf ff).drop (i+1))[j])
    rw[List.getElem_drop,show i+(j+1)=i+1+j by omega]
    exact List.getElem?_eq_getElem (by rw[List.length_drop] at hd;omega)
 ·rw[bsOf_strx hby]
  unfold nl
  rw[List.map_map]
  have:(Int.toNat∘fun z:Nat=>(z:Int))=id:=by funext z;show ((z:Int)).toNat=z;exact Int.toNat_natCast z
  rw[this,List.map_id]
theorem kturned_x (x wd H K D L P V Z:Nat) (a b:Int) (pp qp xp fp kp cp:Option Addr) (pc qc xc fc kc cc:Nat) (pal clr pix fl kl cl:List Int) (ff:ByteArray) (w:World) (h:Dk w x wd H K D L P V Z pp qp xp fp kp cp pc qc xc fc kc cc pal clr pix fl kl cl) (hx0:x≠0) (hf:FileT wd H D K L P V pal clr pix fl kl ff) (h14:w.cell? ⟨x,14,none⟩=some (.string ff)) (hT:TabsAt w) (ha1 : -9223372036854775808<=a) (ha2:a<9223372036854775808) (hb1 : -9223372036854775808<=b) (hb2:b<9223372036854775808) :
  Calls Tryz.prog 13 #[.pointer (some ⟨x,0,none⟩),.int .i64 a,.int .i64 b] w fun r w'=>r = .returned (.bool true)/\Kept w w':=by
 have hGr:AllAt w:=⟨grd_x h.grid,hT⟩
 have hw0:0<w.heap.size:=World.block_lt_of_cell? w ⟨0,0,none⟩ (h.grid 0 (by omega))
 obtain ⟨hs1,hs2⟩:=fileT_size hf
 obtain ⟨fin,gR,g5,_⟩:=fileT_taken hf h.im h.ch
 have hFl:=bsOf_length ff
 have GR:Hid (Rn rd0 (bsOf ff) fin):=gR
 have G5:Hid (fin.part=5):=g5
 have H14:Hid (∀ W',Kept w W'->W'.cell? ⟨x,14,none⟩=some (.string ff)):=fun W' k=>(k.cell (p:=⟨x,14,none⟩) (World.block_lt_of_cell? _ _ h14)).trans h14
 have HG:Hid (AllAt w):=hGr
 have FP:Hid (Calls Tryz.prog 17 #[.int .i64 a,.int .i64 (ff.size:Int)] w fun r w'=>(∃ k:Nat,k<ff.size/\r = .returned (.int .i64 (k:Int)))/\w'=w):=pick_any a ff.size w ha1 ha2 (by omega) (by omega)
 have FP8:Hid (∀ W,Calls Tryz.prog 17 #[.int .i64 b,.int .i64 8] W fun r w'=>(∃ k:Nat,k<8/\r = .returned (.int .i64 (k:Int)))/\w'=W):=fun W=>pick_any b 8 W hb1 hb2 (by omega) (by omega)
 have FN:Hid (∀ c n:Nat,BrdN (bsOf ff) c n->Calls Tryz.prog 30 #[.pointer (some ⟨x,0,none⟩),.int .i64 (c:Int)] w fun r w'=>r = .returned (.int .i64 (n:Int))/\w'=w):=fun c n bn=>by
  obtain ⟨q0,q1,q2,q3,e0,e1,e2,e3,en⟩:=bn.num
  have hfit:=bn.fit
  rw[hFl] at hfit
  rw[en]
  exact dnumber_x x c ff w h14 (by omega) (by omega) q0 q1 q2 q3 e0 e1 e2 e3
 have HF:Hid (∀ i X y:Nat,(bsOf ff)[i]? = some X->y<256->y≠X->TurnAt (bsOf ff) i->∃ A,FeedOk dc0 (bsOf (ff.extract 0 i))/\dc0.feed (bsOf (ff.extract 0 i))=⟨A,i,0,0⟩/\∃ d,TurnD A i (y::(bsOf ff).drop (i+1)) d):=fun i X y hX hy hne hTA=>by
  have hi:i<(bsOf ff).length:=(List.getElem?_eq_some_iff.1 hX).1
  obtain ⟨A,k1,d,k2⟩:=turn_d gR g5 (bsOf_lt ff) (by omega) hX hy hne hTA
  have e:bsOf (ff.extract 0 i)=(bsOf ff).take i:=by rw[bsOf_extr,List.drop_zero,Nat.sub_zero]
  have ln:((bsOf ff).take i).length=i:=by rw[List.length_take];omega
  rw[e]
  refine ⟨A,Rn.ok (d:=dc0) k1 rfl (by show 0+_<=_;omega),?_,d,k2⟩
  rw[Rn.feed (d:=dc0) k1 rfl,ln]
  show (⟨A,0+i,0,0⟩:Dc)=_
  rw[Nat.zero_add]
 have F0:Hid (∀ W,Kept w W->Calls Tryz.prog 21 #[] W fun e W'=>∃ g,e = .returned (.pointer (some ⟨g,0,none⟩))/\DI w W' g dc0):=fun W k=>newDI k hw0
 clear h hf hGr gR g5 hT
 go_enter Tryz.func13,Tryz.ntmps13
 go_wp2_with fail
 refine FP.out.mono ?_
 rintro r w1 ⟨⟨i,hi,rfl⟩,hw1⟩
 subst w1
 obtain ⟨X,hX⟩:∃ X,(bsOf ff)[i]? = some X:=⟨_,List.getElem?_eq_getElem (by rw[hFl];exact hi)⟩
 go_upto_block 0 with fail
 go_cut [8,9] from 22 (fun v8 v9 W=>W=w/\TurnAt (bsOf ff) i)
 case first=>
  go_wp2_with fail
  go_loopg [8,9] (ff.size - 8) (fun m v8 v9 W=>∃ c:Nat,m=ff.size - c/\v8 = .int .i64 (c:Int)/\W=w/\c<=ff.size/\(i<8\/(c<=i/\Brd (bsOf ff) c)))
  case atStart=>exact ⟨8,by omega,rfl,rfl,by omega,by
   by_cases h8:i<8
   ·exact Or.inl h8
   ·exact Or.inr ⟨by omega,brd8 GR.out G5.out⟩⟩
  case round=>
   obtain ⟨c,hgk,rfl,rfl,hcs,hcc⟩:=hrel
   replace hgk:Hid _:=hgk
   by_cases h8:i<8
   ·have h8':¬ (8:Int)<=(i:Int):=by omega
    clear hcc
    go_wp2_with fail
    go_meet
    case rel=>exact ⟨rfl,Or.inl h8⟩
   ·have h8':(8:Int)<=(i:Int):=by omega
    obtain ⟨hci,hB⟩:c<=i/\Brd (bsOf ff) c:=by
     rcases hcc with q | q
     ·exact absurd q h8
     ·exact q
    obtain ⟨n,bn⟩:=hB.n GR.out G5.out
    have hfit:=bn.fit
    rw[hFl] at hfit
    have BN:Hid (BrdN (bsOf ff) c n):=bn
    have FNc:=FN.out c n bn
    replace FNc:Hid _:=FNc
    have hcl:(c:Int)<(ff.size:Int):=by omega
    obtain ⟨c4,e4⟩:∃ c4,c4=c+4:=⟨_,rfl⟩
    have f4:(c:Int)+4=(c4:Int):=by omega
    obtain ⟨c12,e12⟩:∃ c12,c12=c+12:=⟨_,rfl⟩
    have f12:(c:Int)+12=(c12:Int):=by omega
    obtain ⟨cn,en⟩:∃ cn,cn=c12+n:=⟨_,rfl⟩
    have fn:(c12:Int)+(n:Int)=(cn:Int):=by omega
    have hcn:cn<=ff.size:=by omega
    clear hcc hB bn
    go_wp2_with fail
    refine Calls.mono FNc.out ?_
    rintro r w3 ⟨rfl,hw3⟩
    subst w3
    by_cases q4:i<c4
    ·have q4':(i:Int)<(c4:Int):=by omega
     replace e4:Hid _:=e4
     replace e12:Hid _:=e12
     replace en:Hid _:=en
     go_wp2
     go_ret
     exact ⟨rfl,Kept.refl _⟩
    ·have q4':¬ (i:Int)<(c4:Int):=by omega
     by_cases qn:i<cn
     ·have qn':(i:Int)<(cn:Int):=by omega
      have hTA:Hid (TurnAt (bsOf ff) i):=Or.inr ⟨c,n,BN.out,by omega,by omega⟩
      replace e4:Hid _:=e4
      replace e12:Hid _:=e12
      replace en:Hid _:=en
      go_wp2_with fail
      go_meet
      case rel=>exact ⟨rfl,hTA.out⟩
     ·have qn':¬ (i:Int)<(cn:Int):=by omega
      have hNx:Hid (Brd (bsOf ff) cn):=by
       have:=BN.out.next (by rw[hFl];omega)
       rw[show c+12+n=cn by omega] at this
       exact this
      have hms:Hid (ff.size - cn<ff.size - c):=by show ff.size - cn<ff.size - c;omega
      replace e4:Hid _:=e4
      replace e12:Hid _:=e12
      replace en:Hid _:=en
      go_wp2_with fail
      go_roundg (ff.size - cn)
      case measure=>rw[hgk.out];exact hms.out
      case rel=>exact ⟨cn,rfl,rfl,rfl,by omega,Or.inr ⟨by omega,hNx.out⟩⟩
 case rest=>
  obtain ⟨hwc,hTA⟩:=hcut
  subst wc
  have TA:Hid (TurnAt (bsOf ff) i):=hTA
  obtain ⟨cap,W1,hcap,hcv,hrow,hk1⟩:=conv_t w ff
  have RT:Hid (RowT W1 w.heap.size ff):=hrow
  have K1:Hid (Kept w W1):=hk1
  have hc1:=hrow.cell i X hX
  have hz1:=hrow.fz i hi
  have HX:Hid ((bsOf ff)[i]? = some X):=hX
  have hX256:X<256:=bsOf_lt ff X (List.mem_of_getElem? hX)
  clear hrow hk1 hTA hX
  have i0:(0:Int)<=(i:Int):=by omega
  have i1:(i:Int)<(ff.size:Int):=by omega
  go_upto_region 10 with fail
  go_cut [] from 22 (fun W=>∃ y,RowY w W w.heap.size ff i X y)
  case first=>
   go_region_with ((go_at_call 17;refine (FP8.out _).mono ?_;rintro e w5 ⟨⟨k,hk8,rfl⟩,hw5⟩;subst w5;have k0:(0:Int)<=(k:Int):=(by omega);have k1:(k:Int)<8:=(by omega)))
   all_goals
    go_wp2_with fail
    go_meet
    case rel=>exact ⟨_,RT.out.turn K1.out (Nat.le_refl _) HX.out hk8 1 _ (by rw[turn_bit hX256 hk8];rfl)⟩
  case rest=>
   obtain ⟨y,hy⟩:=hcut
   obtain ⟨A,q1,q2,d,hd⟩:=HF.out i X y HX.out hy.y256 hy.ne TA.out
   obtain ⟨t,ht,htb⟩:=hy.conv (cap:=cap - i) hi
   have KC:Hid (Kept w wc):=hy.kept
   have AC:Hid (AllAt wc):=HG.out.kept hy.kept
   have hts:t.size<=90000000:=by
    have:=congrArg List.length htb
    rw[bsOf_length,List.length_cons,List.length_drop] at this
    omega
   have G0:Hid (Calls Tryz.prog 21 #[] wc fun e W'=>∃ g,e = .returned (.pointer (some ⟨g,0,none⟩))/\DI wc W' g dc0):=newDI (Kept.refl _) (Nat.lt_of_lt_of_le hw0 hy.kept.size)
   have G1:Hid (∀ W' g,DI wc W' g dc0->Calls Tryz.prog 22 #[.pointer (some ⟨g,0,none⟩),.string (ff.extract 0 i)] W' fun e W2=>e = .returned (.tuple #[.int .i64 0,.int .i64 0])/\DI wc W2 g ⟨A,i,0,0⟩/\Fr1 g W' W2):=fun W' g hD=>feedGI (ff.extract 0 i) hD q1 q2 (by rw[ByteArray.size_extract];omega) AC.out
   have G2:Hid (∀ W' g,DI wc W' g ⟨A,i,0,0⟩->Calls Tryz.prog 22 #[.pointer (some ⟨g,0,none⟩),.string t] W' fun e W2=>e = .returned (.tuple #[.int .i64 (d.err:Int),.int .i64 (d.at1:Int)])/\DI wc W2 g d/\Fr1 g W' W2):=fun W' g hD=>feedGI t hD (by rw[htb];exact hd.ok) (by rw[htb];exact hd.feed) (by omega) AC.out
   have G3:Hid (∀ W' g,DI wc W' g d->Calls Tryz.prog 24 #[.pointer (some ⟨g,0,none⟩)] W' fun e W2=>SnT W' d e W2):=fun W' g hD=>snapTI hD hd.err hd.show' hd.pal AC.out.grd
   have G4:Hid (∀ W' g,DI wc W' g d->Calls Tryz.prog 22 #[.pointer (some ⟨g,0,none⟩),.string ff] W' fun e W2=>e = .returned (.tuple #[.int .i64 (d.err:Int),.int .i64 (d.at1:Int)])/\DI wc W2 g d/\Fr1 g W' W2):=fun W' g hD=>feedGI ff hD (feedOk_err hd.err _) (feed_err hd.err _) (by omega) AC.out
   have G5':Hid (∀ W' g,DI wc W' g d->Calls Tryz.prog 23 #[.pointer (some ⟨g,0,none⟩)] W' fun e W2=>e = .returned (.tuple #[.int .i64 (d.err:Int),.int .i64 (d.at1:Int)])/\DI wc W2 g d/\Kept W' W2):=fun W' g hD=>closeErrDI hD hd.err
   have hpx:=pxL_len hd.show'
   have he:((d.err:Int) == 0)=false:=by have:=hd.err;rw[beq_eq_false_iff_ne];omega
   have hat:¬ (d.at1:Int)<(i:Int):=by have:=hd.at1;omega
   have HCV:Hid (∀ W',Kept wc W'->(convert 56 9 (.slice (some ⟨w.heap.size,i,none⟩) (ff.size - i) (cap - i))).run Tryz.prog W' = .ok (.string t) W'):=ht
   clear hcv hc1 hz1 hy q1 q2 ht htb hd hts FP FP8 FN HF F0 h14
   have i2:(i:Int)<=(ff.size:Int):=by omega
   have i3:(ff.size:Int)<=(cap:Int):=by omega
   have i4:¬ (cap=i):=by omega
   go_wp2_with fail
   refine G0.out.mono ?_
   rintro r w2 ⟨g,rfl,hD2⟩
   have y2:=H14.out w2 (KC.out.trans hD2.kept)
   have D2:Hid (DI wc w2 g dc0):=hD2
   clear hD2
   go_wp2_with fail
   refine (G1.out w2 g D2.out).mono ?_
   rintro r w3 ⟨rfl,hD3,_⟩
   have D3:Hid (DI wc w3 g ⟨A,i,0,0⟩):=hD3
   have hcv2:=HCV.out w3 hD3.kept
   clear hD3 D2 y2
   go_wp2_with fail
   refine (G2.out w3 g D3.out).mono ?_
   rintro r w5 ⟨rfl,hD5,_⟩
   have D5:Hid (DI wc w5 g d):=hD5
   clear hD5 D3 hcv2
   go_wp2_with fail
   refine (G3.out w5 g D5.out).mono ?_
   rintro r w6 ⟨cs,p,n,c,rfl,hl,ho,c0,c1,c2,c9,hn,hla,hpb,hk6⟩
   obtain ⟨hsc,hrg,hkl6⟩:=snap_lay w6 cs hl ho
   unfold snN at hsc hrg hkl6
   have K7:Hid (Kept w6 ((w6.alloc (Obj.cells #[.int .i64 0,.int .i64 0,.bool false,.int .i64 0,.int .i64 0,.int .i64 0,.int .i64 0,.int .i64 0,.slice none 0 0,.slice none 0 0,.slice none 0 0] 50)).setCells w6.heap.size 0 cs)):=hkl6
   have L6:Hid (LAt w6 .i64 (.slice p (pxL d).length c) (pxL d)):=hla
   have D6:Hid (DI wc w6 g d):=D5.out.on hk6
   have hgp:Hid (∀ g',sliceBlock (.slice p n c)=some g'->g≠g'):=fun g' q=>by have:=hpb g' q;have:=D5.out.glt;omega
   have hg6:g<w6.heap.size:=D6.out.glt
   have hN:Hid (n=(pxL d).length):=hn
   replace hl:Hid _:=hl
   replace ho:Hid _:=ho
   have HRG:Hid (World.rangeAt ((w6.alloc (Obj.cells #[.int .i64 0,.int .i64 0,.bool false,.int .i64 0,.int .i64 0,.int .i64 0,.int .i64 0,.int .i64 0,.slice none 0 0,.slice none 0 0,.slice none 0 0] 50)).setCells w6.heap.size 0 cs) w6.heap.size 0 cs):=hrg
   replace c0:Hid _:=c0
   replace c1:Hid _:=c1
   replace c2:Hid _:=c2
   replace c9:Hid _:=c9
   clear hkl6 hrg hla hpb hk6 hn D5
   go_upto_region 17 with fail
   generalize ((w6.alloc (Obj.cells #[.int .i64 0,.int .i64 0,.bool false,.int .i64 0,.int .i64 0,.int .i64 0,.int .i64 0,.int .i64 0,.slice none 0 0,.slice none 0 0,.slice none 0 0] 50)).setCells w6.heap.size 0 cs)=w7 at *
   clear hsc
   have y0:w7.cell? ⟨w6.heap.size,0,none⟩=_:=HRG.out 0 _ c0.out
   have y1:w7.cell? ⟨w6.heap.size,1,none⟩=_:=HRG.out 1 _ c1.out
   have y2:w7.cell? ⟨w6.heap.size,2,none⟩=_:=HRG.out 2 _ c2.out
   have y9:w7.cell? ⟨w6.heap.size,9,none⟩=_:=HRG.out 9 _ c9.out
   have S9:Hid (∀ W,Fr1 g w7 W->W.cell? ⟨w6.heap.size,9,none⟩=some (.slice p n c)/\LAt W .i64 (.slice p (pxL d).length c) (pxL d)):=fun W f=>⟨(f.cell (World.block_lt_of_cell? _ _ y9) (fun q=>by have:w6.heap.size=g:=q;omega)).trans y9,(L6.out.kept K7.out).fr f (fun g' q=>by rw[<- hN.out] at q;exact fun e=>hgp.out g' q e.symm)⟩
   have D7:Hid (DI wc w7 g d):=D6.out.on K7.out
   have y14:=H14.out w7 (KC.out.trans D7.out.kept)
   clear D6 L6 K7 HRG c0 c1 c2 c9 hl ho
   go_wp2_with fail
   refine (G4.out w7 g D7.out).mono ?_
   rintro r w8 ⟨rfl,hD8,hf8⟩
   have D8:Hid (DI wc w8 g d):=hD8
   have F8:Hid (Fr1 g w7 w8):=hf8
   clear hD8 hf8 D7 y0 y1 y2 y9 y14
   go_wp2_with fail
   refine (G5'.out w8 g D8.out).mono ?_
   rintro r w9 ⟨rfl,hD9,hk9⟩
   have D9:Hid (DI wc w9 g d):=hD9
   have F9:Hid (Fr1 g w7 w9):=F8.out.kept hk9
   clear hD9 hk9 D8 F8
   go_wp2_with fail
   refine (G3.out w9 g D9.out).mono ?_
   rintro r w10 ⟨cs,p2,n2,c2,rfl,hl,ho,c0,c1,_,c9,hn,hla,_,hk10⟩
   obtain ⟨hsc,hrg,hkl⟩:=snap_lay w10 cs hl ho
   unfold snN at hsc hrg hkl
   have K11:Hid (Kept w10 ((w10.alloc (Obj.cells #[.int .i64 0,.int .i64 0,.bool false,.int .i64 0,.int .i64 0,.int .i64 0,.int .i64 0,.int .i64 0,.slice none 0 0,.slice none 0 0,.slice none 0 0] 50)).setCells w10.heap.size 0 cs)):=hkl
   have L10:Hid (LAt w10 .i64 (.slice p2 (pxL d).length c2) (pxL d)):=hla
   have F10:Hid (Fr1 g w7 w10):=F9.out.kept hk10
   have KA:Hid (Kept w w10):=KC.out.trans (D9.out.kept.trans hk10)
   have hN2:Hid (n2=(pxL d).length):=hn
   replace hl:Hid _:=hl
   replace ho:Hid _:=ho
   have HRG:Hid (World.rangeAt ((w10.alloc (Obj.cells #[.int .i64 0,.int .i64 0,.bool false,.int .i64 0,.int .i64 0,.int .i64 0,.int .i64 0,.int .i64 0,.slice none 0 0,.slice none 0 0,.slice none 0 0] 50)).setCells w10.heap.size 0 cs) w10.heap.size 0 cs):=hrg
   replace c0:Hid _:=c0
   replace c1:Hid _:=c1
   replace c9:Hid _:=c9
   clear hkl hrg hla hk10 hn D9 F9
   go_upto_region 22 with fail
   generalize ((w10.alloc (Obj.cells #[.int .i64 0,.int .i64 0,.bool false,.int .i64 0,.int .i64 0,.int .i64 0,.int .i64 0,.int .i64 0,.slice none 0 0,.slice none 0 0,.slice none 0 0] 50)).setCells w10.heap.size 0 cs)=w11 at *
   clear hsc
   have z0:w11.cell? ⟨w10.heap.size,0,none⟩=_:=HRG.out 0 _ c0.out
   have z9:w11.cell? ⟨w10.heap.size,9,none⟩=_:=HRG.out 9 _ c9.out
   obtain ⟨s9,l9⟩:=S9.out w11 (F10.out.kept K11.out)
   have FJ:Hid (Calls Tryz.prog 27 #[.slice p n c,.slice p2 n2 c2] w11 fun e w'=>e = .returned (.bool true)/\Kept w11 w'):=by
    have:=sameInts_x p p2 n n2 c c2 (pxL d) (pxL d) w11 hN.out hN2.out l9 (L10.out.kept K11.out) hpx hpx
    rw[decide_eq_true rfl] at this
    exact this
   have KB:Hid (Kept w w11):=KA.out.trans K11.out
   have Z0:Hid (∀ W,Kept w11 W->W.cell? ⟨w10.heap.size,0,none⟩=some (.int .i64 (d.err:Int))):=fun W k=>(k.cell (p:=⟨w10.heap.size,0,none⟩) (World.block_lt_of_cell? _ _ z0)).trans z0
   clear l9 S9 F10 L10 K11 HRG c0 c1 c9 hl ho KA
   go_wp2_with fail
   refine FJ.out.mono ?_
   rintro r w12 ⟨rfl,hk12⟩
   have z12:=Z0.out w12 hk12
   have KD:Hid (Kept w w12):=KB.out.trans hk12
   clear hk12 z0 z9 s9 KB FJ Z0
   go_wp2
   go_ret
   exact ⟨rfl,KD.out⟩
theorem turnedLaw_x (a b i j:Int) (s t u v:ByteArray) (w:World) (ha1 : -9223372036854775808<=a) (ha2:a<9223372036854775808) (hb1 : -9223372036854775808<=b) (hb2:b<9223372036854775808) (hs:s.size<9223372036854775808) (ht:t.size<9223372036854775808) (hu:u.size<9223372036854775808) (hv:v.size<9223372036854775808) (hi1 : -9223372036854775808<=i) (hi2:i<9223372036854775808) (hj1 : -9223372036854775808<=j) (hj2:j<9223372036854775808) (hG:GridAt w) (hT:TabsAt w) :
  Calls Tryz.prog 5 #[.int .i64 a,.string s,.string t,.int .i64 b,.string u,.string v,.int .i64 i,.int .i64 j] w fun r w'=>r = .returned (.bool true)/\Kept w w':=by
 have FF:Hid (∀ W':World,Calls Tryz.prog 10 #[.string s,.string t,.string u,.string v] W' fun r w'=>r = .returned (.bool (decide (65536<s.size\/65536<t.size\/65536<u.size\/65536<v.size)))/\w'=W'):=fun W'=>far_any s t u v W' hs ht hu hv
 have FD:Hid (Calls Tryz.prog 9 #[.int .i64 a,.string s,.string t,.int .i64 b,.string u,.string v] w fun r w'=>(decide (65536<s.size\/65536<t.size\/65536<u.size\/65536<v.size)=true/\r = .returned (.pointer none)\/decide (65536<s.size\/65536<t.size\/65536<u.size\/65536<v.size)=false/\DeskX w w' r)/\Kept w w'):=desked_x a b s t u v w ha1 ha2 hb1 hb2 hs ht hu hv hG
 generalize decide (65536<s.size\/65536<t.size\/65536<u.size\/65536<v.size)=far at *
 have HT:Hid (TabsAt w):=hT
 clear hG hT
 go_enter Tryz.func5,Tryz.ntmps5
 go_wp2_with fail
 refine FD.out.mono ?_
 rintro r w1 ⟨h | ⟨_,x,wd,H,K,D,L,P,V,Z,pp,qp,xp,fp,kp,cp,pc,qc,xc,fc,kc,cc,pal,clr,pix,fl,kl,cl,ff,rfl,hx0,hx1,hD,hfT,h14⟩,hk1⟩
 ·obtain ⟨rfl,rfl⟩:=h
  have HK:Hid (Kept w w1):=hk1
  clear hk1
  go_wp2_with fail
  refine (FF.out _).mono ?_
  rintro r w2 ⟨rfl,hw⟩
  subst w2
  go_wp2
  go_ret
  exact ⟨rfl,HK.out⟩
 ·have HK:Hid (Kept w w1):=hk1
  have HD:Hid (Dk w1 x wd H K D L P V Z pp qp xp fp kp cp pc qc xc fc kc cc pal clr pix fl kl cl):=hD
  have HFT:Hid (FileT wd H D K L P V pal clr pix fl kl ff):=hfT
  have H14:Hid (w1.cell? ⟨x,14,none⟩=some (.string ff)):=h14
  clear hk1 hD hfT h14
  go_wp2_with fail
  refine (kturned_x x wd H K D L P V Z i j pp qp xp fp kp cp pc qc xc fc kc cc pal clr pix fl kl cl ff w1 HD.out hx0 HFT.out H14.out (HT.out.kept HK.out) hi1 hi2 hj1 hj2).mono ?_
  rintro r w2 ⟨rfl,hk2⟩
  have HK2:Hid (Kept w w2):=HK.out.trans hk2
  clear hk2
  go_wp2
  go_ret
  exact ⟨rfl,HK2.out⟩
