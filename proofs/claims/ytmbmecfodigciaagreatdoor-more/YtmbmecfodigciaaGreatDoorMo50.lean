import Derived.Test.YtmbmecfodigciaaGreatDoorMo19
import Derived.Test.YtmbmecfodigciaaGreatDoorMo44
import Derived.Test.YtmbmecfodigciaaGreatDoorMo49
set_option maxRecDepth 100000
set_option maxHeartbeats 6400000
namespace Go.Proofs.YtmbmecfodigciaaGreatDoor
open Go.RowKit Px
set_option linter.unusedSimpArgs false
set_option linter.unusedVariables false
theorem kcrc_x (t:ByteArray) (w:World) (hs:t.size≤100000) :
  Calls Tryz.prog 31 #[.string t] w fun r w'=>r = .returned (.int .i64 (crcEnd (crcL crcStart (bsOf t)):Int))∧w'=w:=by
 have HL:Hid (∀ k,crcL crcStart ((bsOf t).take k)<4294967296):=fun k=>by
  have h:∀ (l:List Nat) (s:Nat),s<4294967296→(∀ x ∈ l,x<256)→crcL s l<4294967296:=fun l=>by
   unfold crcL
   induction l with
   | nil=>exact fun s h _=>h
   | cons x l ih=>exact fun s h hb=>ih _ (crcAdd_lt _ _ h (hb x (by simp))) (fun y hy=>hb y (by simp [hy]))
  exact h _ _ (by decide) (fun x hx=>bsOf_lt t x (List.mem_of_mem_take hx))
 have HS:Hid (∀ k (h:k<t.size),crcL crcStart ((bsOf t).take (k+1))=crcAdd (crcL crcStart ((bsOf t).take k)) t[k].toNat):=fun k h=>by
  rw[take_snoc' t k h]
  unfold crcL
  rw[List.foldl_append];rfl
 have HE:Hid (crcL crcStart ((bsOf t).take t.size)=crcL crcStart (bsOf t)):=by
  show crcL crcStart ((bsOf t).take t.size)=_
  rw[List.take_of_length_le (by rw[bsOf_length];exact Nat.le_refl _)]
 have H0:Hid ((4294967295:Int)=(crcL crcStart ((bsOf t).take 0):Int)):=rfl
 generalize crcL crcStart (bsOf t)=FIN at *
 go_enter Tryz.func31,Tryz.ntmps31
 go_wp2_with fail
 go_loopg [3,4,5,6] t.size (fun m v3 v4 v5 v6 W=>∃ k:Nat,m=t.size - k∧k≤t.size∧v4 = .int .i64 (k:Int)∧v3 = .int .i64 (crcL crcStart ((bsOf t).take k):Int)∧W=w)
 case atStart=>exact ⟨0,by omega,by omega,rfl,by rw[← H0.out],rfl⟩
 case round=>
  obtain ⟨k,hgk,hkt,rfl,rfl,rfl⟩:=hrel
  replace hgk:Hid _:=hgk
  have hl:=HL.out k
  by_cases hlt:k<t.size
  ·have hlt':(k:Int)<(t.size:Int):=by omega
   have k0:(0:Int)≤(k:Int):=by omega
   have hx:t[k].toNat<256:=t[k].toNat_lt
   have HN:Hid _:=HS.out k hlt
   generalize crcL crcStart ((bsOf t).take k)=C at *
   have hxor:=i64_xor_nat C t[k].toNat hl (by omega)
   obtain ⟨S,hS⟩:∃ S,S=C ^^^ t[k].toNat:=⟨_,rfl⟩
   have hSl:S<4294967296:=by rw[hS];exact xor_lt32 _ _ hl hx
   rw[← hS] at hxor
   have HA:Hid (crcAdd C t[k].toNat=crcBits 8 S):=by show crcAdd C t[k].toNat=_;unfold crcAdd;rw[hS]
   replace hS:Hid _:=hS
   have HBl:Hid (∀ j,crcBits j S<4294967296):=fun j=>crcBits_lt j S hSl
   have HB1:Hid (∀ j,crcBits (j+1) S=crcBit (crcBits j S)):=fun j=>rfl
   have HB0:Hid (crcBits 0 S=S):=rfl
   go_wp2_with fail
   go_loopg [3,5,6] 8 (fun m v3 v5 v6 W=>∃ j:Nat,m=8 - j∧j≤8∧v5 = .int .i64 (j:Int)∧v3 = .int .i64 (crcBits j S:Int)∧W=wr)
   case atStart=>exact ⟨0,by omega,by omega,rfl,by rw[HB0.out],rfl⟩
   case round=>
    obtain ⟨j,hgj,hj8,rfl,rfl,rfl⟩:=hrel
    replace hgj:Hid _:=hgj
    by_cases hjl:j<8
    ·have hjl':(j:Int)<8:=by omega
     have hbl:=HBl.out j
     have HNx:Hid (crcBits (j+1) S=crcBit (crcBits j S)):=HB1.out j
     obtain ⟨B,hB⟩:∃ B,B=crcBits j S:=⟨_,rfl⟩
     rw[← hB] at hbl HNx ⊢
     replace hB:Hid _:=hB
     have ha:bits .and .i64 (B:Int) 1=((B % 2:Nat):Int):=by
      have:=i64_and_nat B 1 hbl (by omega)
      rw[show (1:Int)=((1:Nat):Int) from rfl,this]
      congr 1
      exact Nat.and_one_is_mod B
     obtain ⟨H2,hH2⟩:∃ H2,H2=B / 2:=⟨_,rfl⟩
     have eH:(B:Int) / 2=(H2:Int):=by rw[hH2];exact (Int.natCast_ediv _ _).symm
     have eH':(B:Int).tdiv 2=(H2:Int):=by rw[Int.tdiv_eq_ediv_of_nonneg (by omega)];exact eH
     have hH2b:H2<4294967296:=by omega
     have hx2:=i64_xor_nat H2 3988292384 hH2b (by omega)
     replace hx2:bits .xor .i64 (H2:Int) 3988292384=((H2 ^^^ 3988292384:Nat):Int):=hx2
     obtain ⟨R,hR⟩:∃ R,R=H2 ^^^ 3988292384:=⟨_,rfl⟩
     rw[← hR] at hx2
     have hRb:R<4294967296:=by rw[hR];exact Nat.xor_lt_two_pow (n:=32) (by omega) (by omega)
     by_cases hodd:B % 2=1
     ·rw[hodd] at ha
      have HX:Hid (crcBit B=R):=by show crcBit B=R;unfold crcBit;rw[if_pos hodd,hR,hH2]
      replace ha:bits .and .i64 (B:Int) 1=1:=ha
      clear hR hH2 hodd
      go_wp2_with fail
      go_roundg (8 - (j+1))
      case measure=>rw[hgj.out];omega
      case rel=>exact ⟨j+1,rfl,by omega,by go_num,by rw[HNx.out,HX.out],rfl⟩
     ·have hev:B % 2=0:=by omega
      rw[hev] at ha
      have HX:Hid (crcBit B=H2):=by show crcBit B=H2;unfold crcBit;rw[if_neg hodd,hH2]
      replace ha:bits .and .i64 (B:Int) 1=0:=ha
      clear hR hH2 hodd hev
      go_wp2_with fail
      go_roundg (8 - (j+1))
      case measure=>rw[hgj.out];omega
      case rel=>exact ⟨j+1,rfl,by omega,by go_num,by rw[HNx.out,HX.out],rfl⟩
    ·have hjl':¬ (j:Int)<8:=by omega
     have hj:j=8:=by omega
     have HJ:Hid (crcBits j S=crcBits 8 S):=by show crcBits j S=_;rw[hj]
     clear hj
     go_wp2_with fail
     go_roundg (t.size - (k+1))
     case measure=>rw[hgk.out];omega
     case rel=>exact ⟨k+1,rfl,by omega,by go_num,by rw[HN.out,HA.out,HJ.out],rfl⟩
  ·have hlt':¬ (k:Int)<(t.size:Int):=by omega
   have hk:k=t.size:=by omega
   have HF:Hid (crcL crcStart ((bsOf t).take k)=FIN):=by
    show crcL crcStart ((bsOf t).take k)=FIN
    rw[hk];exact HE.out
   clear hk
   generalize crcL crcStart ((bsOf t).take k)=C at *
   have hx2:=i64_xor_nat C 4294967295 hl (by omega)
   replace hx2:bits .xor .i64 (C:Int) 4294967295=((C ^^^ 4294967295:Nat):Int):=hx2
   obtain ⟨R,hR⟩:∃ R,R=C ^^^ 4294967295:=⟨_,rfl⟩
   rw[← hR] at hx2
   have HR:Hid (crcEnd FIN=R):=by show crcEnd FIN=R;unfold crcEnd;rw[hR,HF.out]
   clear hR
   go_wp2_with fail
   go_ret
   exact ⟨ret_int (by rw[HR.out]),rfl⟩
def StrX (l:List Nat) (e:Ending):Prop:=∃ s:ByteArray,e = .returned (.string s)∧bsOf s=l
theorem four_x (v:Nat) (w:World) (hv:v<4294967296) :
  Calls Tryz.prog 32 #[.int .i64 (v:Int)] w fun r w'=>StrX (beN v) r∧Kept w w':=by
 have HO:Hid (isBytes [(v:Int) / 16777216,(v:Int) / 65536 % 256,(v:Int) / 256 % 256,(v:Int) % 256]):=fun x hx=>by
  simp only [List.mem_cons,List.not_mem_nil,or_false] at hx
  omega
 have HB:Hid (nl [(v:Int) / 16777216,(v:Int) / 65536 % 256,(v:Int) / 256 % 256,(v:Int) % 256]=beN v):=by
  show [((v:Int) / 16777216).toNat,((v:Int) / 65536 % 256).toNat,((v:Int) / 256 % 256).toNat,((v:Int) % 256).toNat]=[v / 16777216 % 256,v / 65536 % 256,v / 256 % 256,v % 256]
  rw[show ((v:Int) / 16777216).toNat=v / 16777216 % 256 from by omega,show ((v:Int) / 65536 % 256).toNat=v / 65536 % 256 from by omega,show ((v:Int) / 256 % 256).toNat=v / 256 % 256 from by omega,show ((v:Int) % 256).toNat=v % 256 from by omega]
 have hcv:=run_convert_bytes_arg (P:=Tryz.prog) (w.alloc (Obj.cells #[.int .u8 ((v:Int) / 16777216),.int .u8 ((v:Int) / 65536 % 256),.int .u8 ((v:Int) / 256 % 256),.int .u8 ((v:Int) % 256)] 5)) 56 5 Tryz.underlying56 Tryz.underlying5 w.heap.size 0 4 4 [(v:Int) / 16777216,(v:Int) / 65536 % 256,(v:Int) / 256 % 256,(v:Int) % 256] rfl (fun i hi=>by
  have hi4:i<4:=by simpa using hi
  match i,hi4 with
  | 0,_=>exact (World.cell?_alloc_at _ _ _ _ rfl).trans rfl
  | 1,_=>exact (World.cell?_alloc_at _ _ _ _ rfl).trans rfl
  | 2,_=>exact (World.cell?_alloc_at _ _ _ _ rfl).trans rfl
  | 3,_=>exact (World.cell?_alloc_at _ _ _ _ rfl).trans rfl) 9 Tryz.underlying9
 have K1:Hid (Kept w (w.alloc (Obj.cells #[.int .u8 ((v:Int) / 16777216),.int .u8 ((v:Int) / 65536 % 256),.int .u8 ((v:Int) / 256 % 256),.int .u8 ((v:Int) % 256)] 5))):=Below.alloc (Below.refl _ _) (Nat.le_refl _) _
 go_enter Tryz.func32,Tryz.ntmps32
 go_wp2_with fail
 go_ret
 exact ⟨⟨_,rfl,by rw[bsOf_strx HO.out,HB.out]⟩,K1.out⟩
theorem dnumber_x (x c:Nat) (ff:ByteArray) (w:World) (h14:w.cell? ⟨x,14,none⟩=some (.string ff)) (hc:c+4≤ff.size) (hs:ff.size≤1000000000) (y0 y1 y2 y3:Nat) (e0:(bsOf ff)[c]? = some y0) (e1:(bsOf ff)[c+1]? = some y1) (e2:(bsOf ff)[c+2]? = some y2) (e3:(bsOf ff)[c+3]? = some y3) :
  Calls Tryz.prog 30 #[.pointer (some ⟨x,0,none⟩),.int .i64 (c:Int)] w fun r w'=>r = .returned (.int .i64 ((16777216*y0+65536*y1+256*y2+y3:Nat):Int))∧w'=w:=by
 have get:∀ k (h:k<ff.size) y,(bsOf ff)[k]? = some y→ff[k].toNat=y:=fun k h y e=>by
  rw[← bsOf_get ff k h]
  exact (List.getElem?_eq_some_iff.1 e).2
 have f0:=get c (by omega) y0 e0
 have f1:=get (c+1) (by omega) y1 e1
 have f2:=get (c+2) (by omega) y2 e2
 have f3:=get (c+3) (by omega) y3 e3
 have b0:y0<256:=by rw[← f0];exact UInt8.toNat_lt _
 have b1:y1<256:=by rw[← f1];exact UInt8.toNat_lt _
 have b2:y2<256:=by rw[← f2];exact UInt8.toNat_lt _
 have b3:y3<256:=by rw[← f3];exact UInt8.toNat_lt _
 have HV:Hid (∃ V:Nat→Nat,V 0=0∧V 4=16777216*y0+65536*y1+256*y2+y3∧(∀ j,j<4→∀ h:c+j<ff.size,V (j+1)=256*V j+ff[c+j].toNat)∧∀ j,j≤4→V j<4294967296):=by
  refine ⟨fun j=>match j with | 0=>0 | 1=>y0 | 2=>256*y0+y1 | 3=>65536*y0+256*y1+y2 | _=>16777216*y0+65536*y1+256*y2+y3,rfl,rfl,fun j hj h => ?_,fun j hj => ?_⟩
  ·match j,hj with
   | 0,_=>show y0=256*0+ff[c].toNat;omega
   | 1,_=>show 256*y0+y1=256*y0+ff[c+1].toNat;omega
   | 2,_=>show 65536*y0+256*y1+y2=256*(256*y0+y1)+ff[c+2].toNat;omega
   | 3,_=>show 16777216*y0+65536*y1+256*y2+y3=256*(65536*y0+256*y1+y2)+ff[c+3].toNat;omega
  ·match j,hj with
   | 0,_=>show 0<4294967296;omega
   | 1,_=>show y0<4294967296;omega
   | 2,_=>show 256*y0+y1<4294967296;omega
   | 3,_=>show 65536*y0+256*y1+y2<4294967296;omega
   | 4,_=>show 16777216*y0+65536*y1+256*y2+y3<4294967296;omega
 obtain ⟨V,v0,v4,vs,vb⟩:=HV.out
 rw[← v4]
 replace v0:Hid _:=v0
 replace vs:Hid _:=vs
 replace vb:Hid _:=vb
 clear HV v4 f0 f1 f2 f3 e0 e1 e2 e3 get b0 b1 b2 b3
 obtain ⟨c4,hc4⟩:∃ c4,c4=c+4:=⟨_,rfl⟩
 have ec4:(c:Int)+4=(c4:Int):=by omega
 have hc4b:c4≤ff.size:=by omega
 replace hc4:Hid _:=hc4
 go_enter Tryz.func30,Tryz.ntmps30
 go_wp2_with fail
 go_loopg [5,6] 4 (fun m v5 v6 W=>∃ j:Nat,m=4 - j∧j≤4∧v6 = .int .i64 ((c+j:Nat):Int)∧v5 = .int .i64 (V j:Int)∧W=w)
 case atStart=>exact ⟨0,by omega,by omega,rfl,by rw[v0.out];rfl,rfl⟩
 case round=>
  obtain ⟨j,hgj,hj4,rfl,rfl,rfl⟩:=hrel
  replace hgj:Hid _:=hgj
  obtain ⟨d,hd⟩:∃ d,d=c+j:=⟨_,rfl⟩
  rw[← hd]
  have hVb:=vb.out j hj4
  by_cases hjl:j<4
  ·have hdl:(d:Int)<(c4:Int):=by have:=hc4.out;omega
   have hds:d<ff.size:=by have:=hc4.out;omega
   have hds':(d:Int)<(ff.size:Int):=by omega
   have d0:(0:Int)≤(d:Int):=by omega
   have HN:Hid (V (j+1)=256*V j+ff[d].toNat):=by
    have:=vs.out j hjl (by omega)
    subst hd
    exact this
   have hVb2:=vb.out (j+1) (by omega)
   obtain ⟨d1,hd1⟩:∃ d1,d1=d+1:=⟨_,rfl⟩
   have ed1:(d:Int)+1=(d1:Int):=by omega
   have HD1:Hid (d1=c+(j+1)):=by show d1=_;omega
   have hx:ff[d].toNat<256:=UInt8.toNat_lt _
   obtain ⟨V1,hV1⟩:∃ V1,V1=V (j+1):=⟨_,rfl⟩
   rw[← hV1] at HN hVb2
   replace hV1:Hid _:=hV1
   generalize V j=V0 at *
   have HE:Hid (V1=256*V0+ff[d].toNat):=HN.out
   have eV:256*(V0:Int)+(ff[d].toNat:Int)=(V1:Int):=by have:=HN.out;omega
   replace hd:Hid _:=hd
   replace hd1:Hid _:=hd1
   go_wp2_with fail
   go_roundg (4 - (j+1))
   case measure=>rw[hgj.out];omega
   case rel=>exact ⟨j+1,rfl,by omega,by rw[← HD1.out],by rw[← hV1.out],rfl⟩
  ·have hdl:¬ (d:Int)<(c4:Int):=by have:=hc4.out;omega
   have hj:j=4:=by omega
   subst hj
   replace hd:Hid _:=hd
   go_wp2_with fail
   go_ret
   exact ⟨rfl,rfl⟩
def SnPic (w:World) (wd H K D L N M:Nat) (b:Rd) (e:Ending) (W2:World):Prop:=∃ gk gp gs,e = .returned (.agg #[.int .i64 0,.int .i64 0,.bool true,.int .i64 (wd:Int),.int .i64 (H:Int),.int .i64 (K:Int),.int .i64 (D:Int),.int .i64 (L:Int),.slice (some ⟨gk,0,none⟩) N N,.slice (some ⟨gp,0,none⟩) M M,.slice (some ⟨gs,0,none⟩) M M])∧(NumC W2 0 gk N (knP b.rw ⟨wd,H,D,K,L⟩)∧NumC W2 0 gp M (fun j=>pxP b.rw b.tl ⟨wd,H,D,K,L⟩ (j / 4 % wd) (j / 4 / wd) (j % 4))∧NumC W2 0 gs M (fun j=>shP b.rw b.tl ⟨wd,H,D,K,L⟩ (j / 4 % wd) (j / 4 / wd) (j % 4)))∧Kept w W2
theorem snapWI {w W:World} {g n wd H K D L:Nat} {pal clr pix:List Int} {b:Rd} (h:DI w W g ⟨b,n,0,0⟩) (hb:SeenF wd H D K L pal clr pix b) (h1:1≤wd) (hG:GrdAt w) :
  Calls Tryz.prog 24 #[.pointer (some ⟨g,0,none⟩)] W fun e W'=>SnPic W wd H K D L (wd*H) (4*(wd*H)) b e W':=by
 refine (snapFI h hb.show' hb.palI hG).mono ?_
 rintro e W' ⟨k,⟨q,_⟩ | ⟨_,gk,gp,gs,e1,e2,e3,e4⟩⟩
 ·replace q:b.hd.W=0:=q
  rw[hb.hd] at q
  exact absurd (show wd=0 from q) (by omega)
 ·refine ⟨gk,gp,gs,?_,⟨?_,?_,?_⟩,k⟩
  ·rw[e1]
   unfold snW
   show Ending.returned (Value.agg #[.int .i64 0,.int .i64 0,.bool (decide ((0:Nat)=0) && decide (b.part=5)),.int .i64 (b.hd.W:Int),.int .i64 (b.hd.H:Int),.int .i64 (b.hd.K:Int),.int .i64 (b.hd.D:Int),.int .i64 (b.hd.L:Int),.slice (some ⟨gk,0,none⟩) (b.hd.W*b.hd.H) (b.hd.W*b.hd.H),.slice (some ⟨gp,0,none⟩) (4*(b.hd.W*b.hd.H)) (4*(b.hd.W*b.hd.H)),.slice (some ⟨gs,0,none⟩) (4*(b.hd.W*b.hd.H)) (4*(b.hd.W*b.hd.H))])=_
   rw[hb.hd,decide_eq_true hb.part];rfl
  ·replace e2:NumC W' W.heap.size gk (b.hd.W*b.hd.H) (knP b.rw b.hd):=e2
   rw[hb.hd] at e2
   exact e2.low (Nat.zero_le _)
  ·replace e3:NumC W' W.heap.size gp (4*(b.hd.W*b.hd.H)) (fun j=>pxP b.rw b.tl b.hd (j / 4 % b.hd.W) (j / 4 / b.hd.W) (j % 4)):=e3
   rw[hb.hd] at e3
   exact e3.low (Nat.zero_le _)
  ·replace e4:NumC W' W.heap.size gs (4*(b.hd.W*b.hd.H)) (fun j=>shP b.rw b.tl b.hd (j / 4 % b.hd.W) (j / 4 / b.hd.W) (j % 4)):=e4
   rw[hb.hd] at e4
   exact e4.low (Nat.zero_le _)
theorem flC_mem {C:List (Nat × List Nat)}:∀ c ∈ C,c.2.length≤(flC C).length:=by
 induction C with
 | nil=>intro c hc;cases hc
 | cons a t ih=>
  intro c hc
  have e:flC (a::t)=chN a.1 a.2++flC t:=by unfold flC;rw[List.flatMap_cons]
  rw[e,List.length_append,chN_len]
  rcases List.mem_cons.1 hc with q | q
  ·rw[q];omega
  ·have:=ih c q;omega
theorem ck_file {W H D K L:Nat} {pal clr:List Int} {l0:List Nat} {PL:List (List Nat)} {ff:ByteArray} (h:bsOf ff=headN W H D K L pal clr++(idatsN (l0::PL)++chN iend [])) (hs:ff.size≤1000000000):CkF ff (sgN W H D K L) (ckL K pal clr (l0::PL)):=by
 rw[file_ck] at h
 refine ⟨h,sgN_len _ _ _ _ _,fun c hc=>⟨?_,?_⟩⟩
 ·unfold ckL at hc
  simp only [List.mem_append] at hc
  rcases hc with (q | q) | q | q
  ·rw[palC_ty c q];decide
  ·rw[clrC_ty c q];decide
  ·obtain ⟨m,_,em⟩:=List.mem_map.1 q
   rw[← em];show idat<4294967296;decide
  ·rw[List.mem_singleton] at q;rw[q];decide
 ·have:=flC_mem c hc
  have e:=congrArg List.length h
  rw[bsOf_length,List.length_append] at e
  omega
theorem ck_pos (K:Nat) (pal clr:List Int) (PL:List (List Nat)):0<(ckL K pal clr PL).length:=by
 unfold ckL
 simp only [List.length_append,List.length_cons,List.length_nil]
 omega
theorem offC_mono {C:List (Nat × List Nat)} (i:Nat):33+12*i≤offC C i∨C.length<i:=by
 induction i with
 | zero=>left;show 33≤offC C 0;unfold offC;omega
 | succ i ih=>
  by_cases h:i<C.length
  ·left
   rw[offC_succ C i h]
   rcases ih with q | q
   ·omega
   ·omega
  ·right;omega
def atsC (C:List (Nat × List Nat)) (i:Nat):List Int:=(List.range i).map (fun j=>(offC C j:Int))
def tysC (C:List (Nat × List Nat)) (i:Nat):List Bool:=(List.range i).map (fun j=>decide ((C.getD j (0,[])).1=idat))
theorem atsC_succ (C:List (Nat × List Nat)) (i:Nat):atsC C (i+1)=atsC C i++[(offC C i:Int)]:=by unfold atsC;rw[List.range_succ,List.map_append];rfl
theorem tysC_succ (C:List (Nat × List Nat)) (i:Nat):tysC C (i+1)=tysC C i++[decide ((C.getD i (0,[])).1=idat)]:=by unfold tysC;rw[List.range_succ,List.map_append];rfl
theorem atsC_len (C:List (Nat × List Nat)) (i:Nat):(atsC C i).length=i:=by unfold atsC;rw[List.length_map,List.length_range]
theorem tysC_len (C:List (Nat × List Nat)) (i:Nat):(tysC C i).length=i:=by unfold tysC;rw[List.length_map,List.length_range]
theorem atsC_get (C:List (Nat × List Nat)) (i k:Nat) (h:k<i):(atsC C i).getD k 0=(offC C k:Int):=by
 unfold atsC
 rw[List.getD_eq_getElem?_getD,List.getElem?_map,List.getElem?_range h];rfl
theorem tysC_get (C:List (Nat × List Nat)) (i k:Nat) (h:k<i):(tysC C i).getD k false=decide ((C.getD k (0,[])).1=idat):=by
 unfold tysC
 rw[List.getD_eq_getElem?_getD,List.getElem?_map,List.getElem?_range h];rfl
theorem CkF.typL {ff:ByteArray} {S:List Nat} {C:List (Nat × List Nat)} (h:CkF ff S C) {i:Nat} (hi:i<C.length):((ff.extract (offC C i+4) (offC C i+8)).toList == [73,68,65,84])=decide ((C.getD i (0,[])).1=idat):=by
 rw[ByteArray.toList_eq]
 have t:=h.typ hi
 generalize ff.extract (offC C i+4) (offC C i+8)=s at *
 by_cases e:(C.getD i (0,[])).1=idat
 ·rw[decide_eq_true e,t.2 e];rfl
 ·rw[decide_eq_false e,beq_eq_false_iff_ne]
  intro q
  apply e
  apply t.1
  cases s
  congr 1
  exact Array.toList_inj.1 q
theorem bsOf_cat (a b:ByteArray):bsOf (a++b)=bsOf a++bsOf b:=by
 unfold bsOf
 rw[ByteArray.data_append,Array.toList_append,List.map_append]
theorem kmore_x (x wd H K D L P V Z:Nat) (a:Int) (data:ByteArray) (pp qp xp fp kp cp:Option Addr) (pc qc xc fc kc cc:Nat) (pal clr pix fl kl cl:List Int) (ff:ByteArray) (w:World) (h:Dk w x wd H K D L P V Z pp qp xp fp kp cp pc qc xc fc kc cc pal clr pix fl kl cl) (hx0:x≠0) (hf:FileT wd H D K L P V pal clr pix fl kl ff) (h14:w.cell? ⟨x,14,none⟩=some (.string ff)) (ha1 : -9223372036854775808≤a) (ha2:a<9223372036854775808) (hd1:data.size<9223372036854775808) :
  Calls Tryz.prog 16 #[.pointer (some ⟨x,0,none⟩),.int .i64 a,.string data] w fun r w'=>r = .returned (.bool true)∧Kept w w':=by
 by_cases hbig:1000<data.size
 ·have hb':decide ((data.size:Int)>1000)=true:=decide_eq_true (by omega)
  go_enter Tryz.func16,Tryz.ntmps16
  go_wp2
  go_ret
  exact ⟨rfl,Kept.refl _⟩
 have hds:data.size≤1000:=by omega
 have hbn:decide ((data.size:Int)>1000)=false:=decide_eq_false (by omega)
 have hGr:GrdAt w:=grd_x h.grid
 have hw0:0<w.heap.size:=World.block_lt_of_cell? w ⟨0,0,none⟩ (h.grid 0 (by omega))
 obtain ⟨hs1,hs2⟩:=fileT_size hf
 obtain ⟨l0,PL,r',hfl,PP,SS⟩:=pcs_of hf h.im h.ch
 have cf:=ck_file hfl (by omega)
 have cpos:=ck_pos K pal clr (l0::PL)
 have hINS:Hid (∀ k,k<(ckL K pal clr (l0::PL)).length→(0<k∧((ckL K pal clr (l0::PL)).getD k (0,[])).1=idat∧((ckL K pal clr (l0::PL)).getD (k - 1) (0,[])).1=idat∧InsBad ((bsOf ff).take (offC (ckL K pal clr (l0::PL)) k)++(chN noNe (bsOf data)++(bsOf ff).drop (offC (ckL K pal clr (l0::PL)) k))) (offC (ckL K pal clr (l0::PL)) k) data.size)∨((k=0∨((ckL K pal clr (l0::PL)).getD k (0,[])).1≠idat∨((ckL K pal clr (l0::PL)).getD (k - 1) (0,[])).1≠idat)∧InsGood wd H D K L pal clr pix ((bsOf ff).take (offC (ckL K pal clr (l0::PL)) k)++(chN noNe (bsOf data)++(bsOf ff).drop (offC (ckL K pal clr (l0::PL)) k))))):=fun k hk=>by
  have he:bsOf ff=(sgN wd H D K L++flC ((ckL K pal clr (l0::PL)).take k))++flC ((ckL K pal clr (l0::PL)).drop k):=by
   rw[cf.eq,List.append_assoc,← flC_app,List.take_append_drop]
  have ho:offC (ckL K pal clr (l0::PL)) k=(sgN wd H D K L++flC ((ckL K pal clr (l0::PL)).take k)).length:=by
   unfold offC;rw[List.length_append,cf.s33]
  have e1:(bsOf ff).take (offC (ckL K pal clr (l0::PL)) k)=sgN wd H D K L++flC ((ckL K pal clr (l0::PL)).take k):=by rw[he,ho,List.take_left]
  have e2:(bsOf ff).drop (offC (ckL K pal clr (l0::PL)) k)=flC ((ckL K pal clr (l0::PL)).drop k):=by rw[he,ho,List.drop_left]
  have:=ins_any PP SS (l:=bsOf data) (by rw[bsOf_length];exact hds) (bsOf_lt data) (by rw[← cf.eq,bsOf_length];omega) (by rw[← cf.eq];exact bsOf_lt ff) k hk _ _ rfl rfl _ rfl
  rw[e1,e2]
  rw[← ho,bsOf_length] at this
  exact this
 obtain ⟨C,hC⟩:∃ C,C=ckL K pal clr (l0::PL):=⟨_,rfl⟩
 rw[← hC] at cf cpos hINS
 clear hfl PP SS hC
 have CF:Hid (CkF ff (sgN wd H D K L) C):=cf
 have H14:Hid (∀ W',Kept w W'→W'.cell? ⟨x,14,none⟩=some (.string ff)):=fun W' k=>(k.cell (p:=⟨x,14,none⟩) (World.block_lt_of_cell? _ _ h14)).trans h14
 have HG:Hid (GrdAt w):=hGr
 have hw1:=h.im.w1
 have HD:Hid (Dk w x wd H K D L P V Z pp qp xp fp kp cp pc qc xc fc kc cc pal clr pix fl kl cl):=h
 have hCl:C.length≤100000000:=by
  have e:=cf.last
  rcases offC_mono (C:=C) C.length with q | q
  ·omega
  ·omega
 have FN:Hid (∀ (W:World) (i:Nat),Kept w W→i<C.length→Calls Tryz.prog 30 #[.pointer (some ⟨x,0,none⟩),.int .i64 (offC C i:Int)] W fun r w'=>r = .returned (.int .i64 ((C.getD i (0,[])).2.length:Int))∧w'=W):=fun W i kW hi=>by
  obtain ⟨y0,y1,y2,y3,g0,g1,g2,g3,gn⟩:=cf.num hi
  have:=dnumber_x x (offC C i) ff W (H14.out W kW) (by have:=cf.size hi;omega) (by omega) y0 y1 y2 y3 g0 g1 g2 g3
  rw[gn] at this
  exact this
 have FP:Hid (∀ (W:World) (c:Int) (n:Nat),-9223372036854775808≤c→c<9223372036854775808→0<n→n<1000000000→Calls Tryz.prog 17 #[.int .i64 c,.int .i64 (n:Int)] W fun r w'=>(∃ k:Nat,k<n∧r = .returned (.int .i64 (k:Int)))∧w'=W):=fun W c n h1 h2 h3 h4=>pick_any c n W h1 h2 (by omega) (by omega)
 have T0:Hid (TwoR w w (.slice none 0 0) (.slice none 0 0) (atsC C 0) (tysC C 0)):=TwoR.start w
 clear h hf hGr h14 cf
 go_enter Tryz.func16,Tryz.ntmps16
 go_wp2_with fail
 go_loopg [7,8,9] C.length (fun m v7 v8 v9 W=>∃ i:Nat,m=C.length - i∧i≤C.length∧v9 = .int .i64 (offC C i:Int)∧TwoR w W v7 v8 (atsC C i) (tysC C i))
 case atStart=>exact ⟨0,by omega,by omega,rfl,T0.out⟩
 case round=>
  obtain ⟨i,hgk,hi,rfl,hT⟩:=hrel
  replace hgk:Hid _:=hgk
  have TT:Hid (TwoR w wr _ _ _ _):=hT
  have y14:=H14.out wr hT.kept
  clear hT
  by_cases hlt:i<C.length
  ·have hz:=CF.out.size hlt
   obtain ⟨c,hc⟩:∃ c,c=offC C i:=⟨_,rfl⟩
   rw[← hc] at hz ⊢
   have hc8:(c:Int)+8≤(ff.size:Int):=by omega
   have l1:=atsC_len C i
   have l2:=tysC_len C i
   replace l1:Hid _:=l1
   replace l2:Hid _:=l2
   replace hc:Hid _:=hc
   go_wp2_with (at_builtin;refine appendW _ rfl _ _ rfl w.heap.size _ (atsC C i) rfl (TT.out.oi.alloc _) wr.heap.size 1 (c:Int) rfl (by simp) (by rw[l1.out];omega) (by simp;have:=TT.out.kept.size;omega) ?_)
   intro v7 w1 ho1 hf1 hn1
   have T1:Hid (TwoR w w1 v7 u8 (atsC C i++[(c:Int)]) (tysC C i)):=(TT.out.on (Below.alloc (Below.refl _ _) (Nat.le_refl _) _)).growI ho1 hf1 (fun k hk=>by have:=hn1 k hk;simpa using this)
   have y14:=H14.out w1 T1.out.kept
   clear ho1 hf1 hn1 TT
   obtain ⟨c4,e4⟩:∃ c4,c4=c+4:=⟨_,rfl⟩
   obtain ⟨c8,e8⟩:∃ c8,c8=c+8:=⟨_,rfl⟩
   have f4:(c:Int)+4=(c4:Int):=by omega
   have f8:(c:Int)+8=(c8:Int):=by omega
   have g1:(0:Int)≤(c4:Int):=by omega
   have g2:(c4:Int)≤(c8:Int):=by omega
   have g3:(c8:Int)≤(ff.size:Int):=by omega
   obtain ⟨E,hE⟩:∃ E,E=decide ((C.getD i (0,[])).1=idat):=⟨_,rfl⟩
   have fE:((ff.extract c4 c8).toList == [73,68,65,84])=E:=by rw[hE,e4,e8,hc.out];exact CF.out.typL hlt
   replace e4:Hid _:=e4
   replace e8:Hid _:=e8
   replace hE:Hid _:=hE
   go_wp2_with (at_builtin;refine appendT _ rfl _ _ rfl w.heap.size _ (tysC C i) rfl (own_kept T1.out.ob (Below.alloc (Below.refl _ _) (Nat.le_refl _) _)) w1.heap.size 1 E rfl (by simp) (by rw[l2.out];omega) (by simp;have:=T1.out.kept.size;omega) ?_)
   intro v8 w2 ho2 hf2 hn2
   have T2:Hid (TwoR w w2 v7 v8 (atsC C i++[(c:Int)]) (tysC C i++[E])):=(T1.out.on (Below.alloc (Below.refl _ _) (Nat.le_refl _) _)).growB ho2 hf2 (fun k hk=>by have:=hn2 k hk;simpa using this)
   clear ho2 hf2 hn2 T1 y14 fE f4 g1 g2 g3
   have FN':Hid (Calls Tryz.prog 30 #[.pointer (some ⟨x,0,none⟩),.int .i64 (c:Int)] w2 fun r w'=>r = .returned (.int .i64 ((C.getD i (0,[])).2.length:Int))∧w'=w2):=by
    rw[hc.out];exact FN.out w2 i T2.out.kept hlt
   have hnx:Hid (offC C (i+1)=c+12+(C.getD i (0,[])).2.length):=by rw[hc.out];exact offC_succ C i hlt
   generalize (C.getD i (0,[])).2.length=n at *
   obtain ⟨c12,e12⟩:∃ c12,c12=c+12:=⟨_,rfl⟩
   have f12:(c:Int)+12=(c12:Int):=by omega
   obtain ⟨cn,en⟩:∃ cn,cn=c12+n:=⟨_,rfl⟩
   have fn:(c12:Int)+(n:Int)=(cn:Int):=by omega
   have hcn:cn≤ff.size:=by omega
   have ecn:Hid (offC C (i+1)=cn):=by show offC C (i+1)=cn;rw[hnx.out,en,e12]
   replace e12:Hid _:=e12
   replace en:Hid _:=en
   clear hnx
   go_wp2_with fail
   refine FN'.out.mono ?_
   rintro r w3 ⟨rfl,hw3⟩
   subst w3
   go_wp2
   go_roundg (C.length - (i+1))
   case measure=>rw[hgk.out];omega
   case rel=>exact ⟨i+1,rfl,by omega,by rw[ecn.out],by rw[atsC_succ,tysC_succ,← hc.out,← hE.out];exact T2.out⟩
  ·have hiC:i=C.length:=by omega
   subst hiC
   have hlast:=CF.out.last
   rw[hlast]
   have hnc:¬ ((ff.size:Int)+8≤(ff.size:Int)):=by omega
   obtain ⟨g7,p7,e7,cl7⟩:=TT.out.oi.addr0 (by rw[atsC_len];exact cpos)
   obtain ⟨g8,p8,e8,cl8⟩:=TT.out.ob.addr (by rw[tysC_len];exact cpos)
   rw[atsC_len] at e7 cl7
   rw[tysC_len] at e8 cl8
   have KW:Hid (Kept w wr):=TT.out.kept
   clear TT
   subst e7 e8
   have CL7:Hid (∀ W k,Kept wr W→k<C.length→W.cell? ⟨g7,k,none⟩=some (.int .i64 (offC C k:Int))):=fun W k kW hk=>by
    have:=cl7 k hk
    rw[atsC_get C _ k hk] at this
    exact (kW.cell (p:=⟨g7,k,none⟩) (World.block_lt_of_cell? _ _ this)).trans this
   have CL8:Hid (∀ W k,Kept wr W→k<C.length→W.cell? ⟨g8,k,none⟩=some (.bool (decide ((C.getD k (0,[])).1=idat)))):=fun W k kW hk=>by
    have:=cl8 k hk
    rw[tysC_get C _ k hk] at this
    exact (kW.cell (p:=⟨g8,k,none⟩) (World.block_lt_of_cell? _ _ this)).trans this
   clear cl7 cl8 hgk hi hlt
   have FC:Hid (∀ (W:World) (t:ByteArray),t.size≤100000→Calls Tryz.prog 31 #[.string t] W fun r w'=>r = .returned (.int .i64 (crcEnd (crcL crcStart (bsOf t)):Int))∧w'=W):=fun W t ht=>kcrc_x t W ht
   have F4:Hid (∀ (W:World) (v:Nat),v<4294967296→Calls Tryz.prog 32 #[.int .i64 (v:Int)] W fun r w'=>StrX (beN v) r∧Kept W w'):=fun W v hv=>four_x v W hv
   generalize hCn:C.length=n at *
   replace hCn:Hid _:=hCn
   replace hlast:Hid _:=hlast
   go_wp2_with fail
   refine (FP.out wr a n ha1 ha2 cpos (by omega)).mono ?_
   rintro r w1 ⟨⟨k,hk,rfl⟩,hw1'⟩
   subst w1
   go_wp2_with fail
   have hBd:bsOf ((⟨#[110,111,78,101]⟩:ByteArray)++data)=beN noNe++bsOf data:=by rw[bsOf_cat];rfl
   have hBz:((⟨#[110,111,78,101]⟩:ByteArray)++data).size≤1004:=by rw[ByteArray.size_append];show 4+data.size≤1004;omega
   generalize (⟨#[110,111,78,101]⟩:ByteArray)++data=bd at *
   refine (FC.out wr bd (by omega)).mono ?_
   rintro r w1 ⟨rfl,hw1'⟩
   subst w1
   obtain ⟨S,hS⟩:∃ S,S=crcEnd (crcL crcStart (bsOf bd)):=⟨_,rfl⟩
   have hSl:S<4294967296:=by rw[hS];exact crcEnd_lt _ (crcL_lt _ _ crcStart_lt (bsOf_lt bd))
   rw[← hS]
   replace hS:Hid _:=hS
   replace hBd:Hid _:=hBd
   go_wp2_with fail
   refine (F4.out wr data.size (by omega)).mono ?_
   rintro r w1 ⟨⟨ls,rfl,hls⟩,hk1⟩
   have hlz:ls.size=4:=by rw[← bsOf_length,hls];rfl
   replace hls:Hid _:=hls
   replace hk1:Hid (Kept wr w1):=hk1
   go_wp2_with fail
   refine (F4.out w1 S hSl).mono ?_
   rintro r w2 ⟨⟨qs,rfl,hqs⟩,hk2⟩
   have hqz:qs.size=4:=by rw[← bsOf_length,hqs];rfl
   have K2:Hid (Kept wr w2):=hk1.out.trans hk2
   replace hqs:Hid _:=hqs
   clear hk1 hk2
   have y2:=H14.out w2 (KW.out.trans K2.out)
   have z2:=CL7.out w2 k K2.out hk
   have hof:offC C k≤ff.size:=by
    have:=CF.out.size (i:=k) (by rw[hCn.out];exact hk);omega
   generalize hO:offC C k=o at *
   have k0:(0:Int)≤(k:Int):=by omega
   have k1:(k:Int)<(n:Int):=by omega
   have o0:(0:Int)≤(o:Int):=by omega
   have o1:(o:Int)≤(ff.size:Int):=by omega
   replace hO:Hid _:=hO
   go_wp2_with fail
   go_quiet (fail)
   have hTb:bsOf (ff.extract 0 o++ls++bd++qs++ff.extract o ff.size)=(bsOf ff).take o++(chN noNe (bsOf data)++(bsOf ff).drop o):=by
    rw[bsOf_cat,bsOf_cat,bsOf_cat,bsOf_cat,hls.out,hBd.out,hqs.out,hS.out,hBd.out,bsOf_extr,bsOf_extr,List.drop_zero,Nat.sub_zero,List.take_of_length_le (l:=(bsOf ff).drop o) (by rw[List.length_drop,bsOf_length];omega)]
    unfold chN
    rw[bsOf_length]
    simp only [List.append_assoc]
   have hTz:(ff.extract 0 o++ls++bd++qs++ff.extract o ff.size).size≤100000000:=by
    rw[ByteArray.size_append,ByteArray.size_append,ByteArray.size_append,ByteArray.size_append,ByteArray.size_extract,ByteArray.size_extract];omega
   generalize ff.extract 0 o++ls++bd++qs++ff.extract o ff.size=t at *
   have hI:=hINS.out k hk
   rw[hO.out,← hTb] at hI
   generalize hw3:w2.drewN _=w3
   have K3:Hid (Kept wr w3):=by rw[← hw3];exact K2.out.drewN _
   replace hTb:Hid _:=hTb
   clear hw3 K2 y2 z2 hINS hls hqs hS hBd hlz hqz hBz
   have hw3:0<w3.heap.size:=by have h1:=KW.out.size;have h2:=K3.out.size;omega
   have G3:Hid (GrdAt w3):=HG.out.kept (KW.out.trans K3.out)
   have F0:Hid (Calls Tryz.prog 21 #[] w3 fun e W'=>∃ g,e = .returned (.pointer (some ⟨g,0,none⟩))∧DI w3 W' g dc0):=newDI (Kept.refl w3) hw3
   rcases hI with ⟨hk0,ht1,ht2,hbad⟩ | ⟨hnot,hgood⟩
   ·obtain ⟨X,e,p,he,hp1,hp2,fo,fe⟩:=hbad
    have F1:Hid (∀ W' g,DI w3 W' g dc0→Calls Tryz.prog 22 #[.pointer (some ⟨g,0,none⟩),.string t] W' fun r W2=>r = .returned (.tuple #[.int .i64 (e:Int),.int .i64 (p:Int)])∧DI w3 W2 g ⟨X,p,e,p⟩):=fun W' g hD=>by
     have:=feedDI t hD fo (by omega) G3.out
     rw[fe] at this
     exact this
    obtain ⟨k1',hk1'⟩:∃ q,q=k - 1:=⟨_,rfl⟩
    have ek1:(k:Int) - 1=(k1':Int):=by omega
    have j0:(0:Int)<(k:Int):=by omega
    have j1:(0:Int)≤(k1':Int):=by omega
    have j2:(k1':Int)<(n:Int):=by omega
    have m1:(o:Int)+7≤(p:Int):=by omega
    have m2:(p:Int)<(o:Int)+(data.size:Int)+20:=by omega
    have hZ8:Hid (∀ W,Kept wr W→W.cell? ⟨g8,k,none⟩=some (.bool true)∧W.cell? ⟨g8,k1',none⟩=some (.bool true)):=fun W kW=>by
     have u1:=CL8.out W k kW hk
     have u2:=CL8.out W k1' kW (by omega)
     rw[hk1'] at u2 ⊢
     rw[ht1,decide_eq_true rfl] at u1
     rw[ht2,decide_eq_true rfl] at u2
     exact ⟨u1,u2⟩
    replace hk1':Hid _:=hk1'
    clear fe fo ht1 ht2
    go_wp2_with fail
    refine F0.out.mono ?_
    rintro r w4 ⟨g,rfl,hD4⟩
    have D4:Hid (DI w3 w4 g dc0):=hD4
    clear hD4
    go_wp2_with fail
    refine (F1.out w4 g D4.out).mono ?_
    rintro r w5 ⟨rfl,hD5⟩
    have K5:Hid (Kept wr w5):=K3.out.trans hD5.kept
    clear hD5 D4
    have y5:=CL7.out w5 k K5.out hk
    rw[hO.out] at y5
    obtain ⟨y6,y7⟩:=hZ8.out w5 K5.out
    have fin:Kept w w5:=KW.out.trans K5.out
    replace fin:Hid _:=fin
    go_wp2_with fail
    all_goals (go_ret;exact ⟨rfl,fin.out⟩)
   ·obtain ⟨A,fo,fe,q3⟩:=hgood
    have hTl:(bsOf t).length=t.size:=bsOf_length t
    rw[hTl] at fe
    have F1:Hid (∀ W' g,DI w3 W' g dc0→Calls Tryz.prog 22 #[.pointer (some ⟨g,0,none⟩),.string t] W' fun r W2=>r = .returned (.tuple #[.int .i64 0,.int .i64 0])∧DI w3 W2 g ⟨A,t.size,0,0⟩):=fun W' g hD=>by
     have:=feedDI t hD fo (by omega) G3.out
     rw[fe] at this
     exact this
    have F3:Hid (∀ W' g,DI w3 W' g ⟨A,t.size,0,0⟩→Calls Tryz.prog 24 #[.pointer (some ⟨g,0,none⟩)] W' fun e W2=>SnPic W' wd H K D L (wd*H) (4*(wd*H)) A e W2):=fun W' g hD=>snapWI hD q3 hw1 G3.out
    have F5:Hid (∀ W gk gp gs,Kept w W→NumC W 0 gk (wd*H) (knP A.rw ⟨wd,H,D,K,L⟩)→NumC W 0 gp (4*(wd*H)) (fun j=>pxP A.rw A.tl ⟨wd,H,D,K,L⟩ (j / 4 % wd) (j / 4 / wd) (j % 4))→NumC W 0 gs (4*(wd*H)) (fun j=>shP A.rw A.tl ⟨wd,H,D,K,L⟩ (j / 4 % wd) (j / 4 / wd) (j % 4))→Calls Tryz.prog 25 #[.pointer (some ⟨x,0,none⟩),.agg #[.int .i64 0,.int .i64 0,.bool true,.int .i64 (wd:Int),.int .i64 (H:Int),.int .i64 (K:Int),.int .i64 (D:Int),.int .i64 (L:Int),.slice (some ⟨gk,0,none⟩) (wd*H) (wd*H),.slice (some ⟨gp,0,none⟩) (4*(wd*H)) (4*(wd*H)),.slice (some ⟨gs,0,none⟩) (4*(wd*H)) (4*(wd*H))]] W fun r w'=>r = .returned (.bool true)∧Kept W w'):=fun W gk gp gs kW n1 n2 n3=>seen_whole x wd H K D L P V Z 0 gk gp gs 0 pp qp xp fp kp cp pc qc xc fc kc cc pal clr pix fl kl cl A W (HD.out.kept kW) q3 n1 n2 n3
    obtain ⟨N,hN⟩:∃ N,N=wd*H:=⟨_,rfl⟩
    obtain ⟨M,hM⟩:∃ M,M=4*(wd*H):=⟨_,rfl⟩
    rw[← hM,← hN] at F3 F5
    clear fe fo q3 hN hM hTl
    have hcase:(k=0∧True)∨(0<k∧¬ ((C.getD k (0,[])).1=idat))∨(0<k∧(C.getD k (0,[])).1=idat∧¬ ((C.getD (k - 1) (0,[])).1=idat)):=by
     by_cases h0:k=0
     ·exact Or.inl ⟨h0,trivial⟩
     ·by_cases h1:(C.getD k (0,[])).1=idat
      ·rcases hnot with q | q | q
       ·exact absurd q h0
       ·exact absurd h1 q
       ·exact Or.inr (Or.inr ⟨by omega,h1,q⟩)
      ·exact Or.inr (Or.inl ⟨by omega,h1⟩)
    replace hcase:Hid _:=hcase
    clear hnot
    go_wp2_with fail
    refine F0.out.mono ?_
    rintro r w4 ⟨g,rfl,hD4⟩
    have D4:Hid (DI w3 w4 g dc0):=hD4
    clear hD4
    go_wp2_with fail
    refine (F1.out w4 g D4.out).mono ?_
    rintro r w5 ⟨rfl,hD5⟩
    have K5:Hid (Kept wr w5):=K3.out.trans hD5.kept
    have D5:Hid (DI w3 w5 g ⟨A,t.size,0,0⟩):=hD5
    clear hD5 D4
    have K5':Hid (Kept w w5):=KW.out.trans K5.out
    rcases hcase.out with ⟨q0,_⟩ | ⟨q0,q1⟩ | ⟨q0,q1,q2⟩
    ·have j0:¬ ((0:Int)<(k:Int)):=by omega
     clear hcase q0
     go_upto_region 21 with fail
     go_wp2_with fail
     refine (F3.out w5 g D5.out).mono ?_
     rintro r w6 ⟨gk1,gp1,gs1,rfl,hnn,hk6⟩
     have NN1:Hid _:=hnn
     have K6:Hid (Kept w w6):=K5'.out.trans hk6
     clear hnn hk6 D5
     obtain ⟨cs,hcs⟩:∃ cs:List Value,cs=[.int .i64 0,.int .i64 0,.bool true,.int .i64 (wd:Int),.int .i64 (H:Int),.int .i64 (K:Int),.int .i64 (D:Int),.int .i64 (L:Int),.slice (some ⟨gk1,0,none⟩) N N,.slice (some ⟨gp1,0,none⟩) M M,.slice (some ⟨gs1,0,none⟩) M M]:=⟨_,rfl⟩
     have hl:cs.length=11:=by rw[hcs];rfl
     have ho:∀ v ∈ cs,v.oneCell'=true:=by
      intro v hv
      rw[hcs] at hv
      simp only [List.mem_cons,List.not_mem_nil,or_false] at hv
      rcases hv with rfl | rfl | rfl | rfl | rfl | rfl | rfl | rfl | rfl | rfl | rfl<;>rfl
     obtain ⟨hsc,hrg,hkl6⟩:=snap_lay w6 cs hl ho
     unfold snN at hsc hrg hkl6
     have K7:Hid (Kept w6 ((w6.alloc (Obj.cells #[.int .i64 0,.int .i64 0,.bool false,.int .i64 0,.int .i64 0,.int .i64 0,.int .i64 0,.int .i64 0,.slice none 0 0,.slice none 0 0,.slice none 0 0] 50)).setCells w6.heap.size 0 cs)):=hkl6
     have hag:(Value.agg #[.int .i64 0,.int .i64 0,.bool true,.int .i64 (wd:Int),.int .i64 (H:Int),.int .i64 (K:Int),.int .i64 (D:Int),.int .i64 (L:Int),.slice (some ⟨gk1,0,none⟩) N N,.slice (some ⟨gp1,0,none⟩) M M,.slice (some ⟨gs1,0,none⟩) M M]) = .agg cs.toArray:=by rw[hcs]
     rw[hag]
     replace hag:Hid _:=hag
     replace hcs:Hid _:=hcs
     replace hl:Hid _:=hl
     replace ho:Hid _:=ho
     replace hrg:Hid _:=hrg
     clear hkl6
     go_upto_region 22 with fail
     generalize ((w6.alloc (Obj.cells #[.int .i64 0,.int .i64 0,.bool false,.int .i64 0,.int .i64 0,.int .i64 0,.int .i64 0,.int .i64 0,.slice none 0 0,.slice none 0 0,.slice none 0 0] 50)).setCells w6.heap.size 0 cs)=w7 at *
     clear hsc
     replace hrg:=hrg.out
     rw[hcs.out] at hrg
     have y0:w7.cell? ⟨w6.heap.size,0,none⟩=_:=hrg 0 _ rfl
     have y1:w7.cell? ⟨w6.heap.size,1,none⟩=_:=hrg 1 _ rfl
     have y2:w7.cell? ⟨w6.heap.size,2,none⟩=_:=hrg 2 _ rfl
     have y3:w7.cell? ⟨w6.heap.size,3,none⟩=_:=hrg 3 _ rfl
     have y4:w7.cell? ⟨w6.heap.size,4,none⟩=_:=hrg 4 _ rfl
     have y5:w7.cell? ⟨w6.heap.size,5,none⟩=_:=hrg 5 _ rfl
     have y6:w7.cell? ⟨w6.heap.size,6,none⟩=_:=hrg 6 _ rfl
     have y7:w7.cell? ⟨w6.heap.size,7,none⟩=_:=hrg 7 _ rfl
     have y8:w7.cell? ⟨w6.heap.size,8,none⟩=_:=hrg 8 _ rfl
     have y9:w7.cell? ⟨w6.heap.size,9,none⟩=_:=hrg 9 _ rfl
     have y10:w7.cell? ⟨w6.heap.size,10,none⟩=_:=hrg 10 _ rfl
     clear hrg
     have FU:Hid _:=F5.out w7 gk1 gp1 gs1 (K6.out.trans K7.out) (NN1.out.1.kept K7.out) (NN1.out.2.1.kept K7.out) (NN1.out.2.2.kept K7.out)
     go_wp2_with fail
     refine Calls.mono FU.out ?_
     rintro r w8 ⟨rfl,hk8⟩
     have K8:Hid (Kept w w8):=(K6.out.trans K7.out).trans hk8
     clear hk8 y0 y1 y2 y3 y4 y5 y6 y7 y8 y9 y10
     go_wp2
     go_ret
     exact ⟨rfl,K8.out⟩
    ·have j0:(0:Int)<(k:Int):=by omega
     have y6:=CL8.out w5 k K5.out hk
     rw[decide_eq_false q1] at y6
     clear hcase q0 q1
     go_upto_region 21 with fail
     clear y6
     go_wp2_with fail
     refine (F3.out w5 g D5.out).mono ?_
     rintro r w6 ⟨gk1,gp1,gs1,rfl,hnn,hk6⟩
     have NN1:Hid _:=hnn
     have K6:Hid (Kept w w6):=K5'.out.trans hk6
     clear hnn hk6 D5
     obtain ⟨cs,hcs⟩:∃ cs:List Value,cs=[.int .i64 0,.int .i64 0,.bool true,.int .i64 (wd:Int),.int .i64 (H:Int),.int .i64 (K:Int),.int .i64 (D:Int),.int .i64 (L:Int),.slice (some ⟨gk1,0,none⟩) N N,.slice (some ⟨gp1,0,none⟩) M M,.slice (some ⟨gs1,0,none⟩) M M]:=⟨_,rfl⟩
     have hl:cs.length=11:=by rw[hcs];rfl
     have ho:∀ v ∈ cs,v.oneCell'=true:=by
      intro v hv
      rw[hcs] at hv
      simp only [List.mem_cons,List.not_mem_nil,or_false] at hv
      rcases hv with rfl | rfl | rfl | rfl | rfl | rfl | rfl | rfl | rfl | rfl | rfl<;>rfl
     obtain ⟨hsc,hrg,hkl6⟩:=snap_lay w6 cs hl ho
     unfold snN at hsc hrg hkl6
     have K7:Hid (Kept w6 ((w6.alloc (Obj.cells #[.int .i64 0,.int .i64 0,.bool false,.int .i64 0,.int .i64 0,.int .i64 0,.int .i64 0,.int .i64 0,.slice none 0 0,.slice none 0 0,.slice none 0 0] 50)).setCells w6.heap.size 0 cs)):=hkl6
     have hag:(Value.agg #[.int .i64 0,.int .i64 0,.bool true,.int .i64 (wd:Int),.int .i64 (H:Int),.int .i64 (K:Int),.int .i64 (D:Int),.int .i64 (L:Int),.slice (some ⟨gk1,0,none⟩) N N,.slice (some ⟨gp1,0,none⟩) M M,.slice (some ⟨gs1,0,none⟩) M M]) = .agg cs.toArray:=by rw[hcs]
     rw[hag]
     replace hag:Hid _:=hag
     replace hcs:Hid _:=hcs
     replace hl:Hid _:=hl
     replace ho:Hid _:=ho
     replace hrg:Hid _:=hrg
     clear hkl6
     go_upto_region 22 with fail
     generalize ((w6.alloc (Obj.cells #[.int .i64 0,.int .i64 0,.bool false,.int .i64 0,.int .i64 0,.int .i64 0,.int .i64 0,.int .i64 0,.slice none 0 0,.slice none 0 0,.slice none 0 0] 50)).setCells w6.heap.size 0 cs)=w7 at *
     clear hsc
     replace hrg:=hrg.out
     rw[hcs.out] at hrg
     have y0:w7.cell? ⟨w6.heap.size,0,none⟩=_:=hrg 0 _ rfl
     have y1:w7.cell? ⟨w6.heap.size,1,none⟩=_:=hrg 1 _ rfl
     have y2:w7.cell? ⟨w6.heap.size,2,none⟩=_:=hrg 2 _ rfl
     have y3:w7.cell? ⟨w6.heap.size,3,none⟩=_:=hrg 3 _ rfl
     have y4:w7.cell? ⟨w6.heap.size,4,none⟩=_:=hrg 4 _ rfl
     have y5:w7.cell? ⟨w6.heap.size,5,none⟩=_:=hrg 5 _ rfl
     have y6:w7.cell? ⟨w6.heap.size,6,none⟩=_:=hrg 6 _ rfl
     have y7:w7.cell? ⟨w6.heap.size,7,none⟩=_:=hrg 7 _ rfl
     have y8:w7.cell? ⟨w6.heap.size,8,none⟩=_:=hrg 8 _ rfl
     have y9:w7.cell? ⟨w6.heap.size,9,none⟩=_:=hrg 9 _ rfl
     have y10:w7.cell? ⟨w6.heap.size,10,none⟩=_:=hrg 10 _ rfl
     clear hrg
     have FU:Hid _:=F5.out w7 gk1 gp1 gs1 (K6.out.trans K7.out) (NN1.out.1.kept K7.out) (NN1.out.2.1.kept K7.out) (NN1.out.2.2.kept K7.out)
     go_wp2_with fail
     refine Calls.mono FU.out ?_
     rintro r w8 ⟨rfl,hk8⟩
     have K8:Hid (Kept w w8):=(K6.out.trans K7.out).trans hk8
     clear hk8 y0 y1 y2 y3 y4 y5 y6 y7 y8 y9 y10
     go_wp2
     go_ret
     exact ⟨rfl,K8.out⟩
    ·have j0:(0:Int)<(k:Int):=by omega
     obtain ⟨k1',hk1'⟩:∃ q,q=k - 1:=⟨_,rfl⟩
     have ek1:(k:Int) - 1=(k1':Int):=by omega
     have j1:(0:Int)≤(k1':Int):=by omega
     have j2:(k1':Int)<(n:Int):=by omega
     have y6:=CL8.out w5 k K5.out hk
     rw[decide_eq_true q1] at y6
     have y7:=CL8.out w5 k1' K5.out (by omega)
     rw[← hk1'] at q2
     rw[decide_eq_false q2] at y7
     replace hk1':Hid _:=hk1'
     clear hcase q0 q1 q2
     go_upto_region 21 with fail
     clear y6 y7
     go_wp2_with fail
     refine (F3.out w5 g D5.out).mono ?_
     rintro r w6 ⟨gk1,gp1,gs1,rfl,hnn,hk6⟩
     have NN1:Hid _:=hnn
     have K6:Hid (Kept w w6):=K5'.out.trans hk6
     clear hnn hk6 D5
     obtain ⟨cs,hcs⟩:∃ cs:List Value,cs=[.int .i64 0,.int .i64 0,.bool true,.int .i64 (wd:Int),.int .i64 (H:Int),.int .i64 (K:Int),.int .i64 (D:Int),.int .i64 (L:Int),.slice (some ⟨gk1,0,none⟩) N N,.slice (some ⟨gp1,0,none⟩) M M,.slice (some ⟨gs1,0,none⟩) M M]:=⟨_,rfl⟩
     have hl:cs.length=11:=by rw[hcs];rfl
     have ho:∀ v ∈ cs,v.oneCell'=true:=by
      intro v hv
      rw[hcs] at hv
      simp only [List.mem_cons,List.not_mem_nil,or_false] at hv
      rcases hv with rfl | rfl | rfl | rfl | rfl | rfl | rfl | rfl | rfl | rfl | rfl<;>rfl
     obtain ⟨hsc,hrg,hkl6⟩:=snap_lay w6 cs hl ho
     unfold snN at hsc hrg hkl6
     have K7:Hid (Kept w6 ((w6.alloc (Obj.cells #[.int .i64 0,.int .i64 0,.bool false,.int .i64 0,.int .i64 0,.int .i64 0,.int .i64 0,.int .i64 0,.slice none 0 0,.slice none 0 0,.slice none 0 0] 50)).setCells w6.heap.size 0 cs)):=hkl6
     have hag:(Value.agg #[.int .i64 0,.int .i64 0,.bool true,.int .i64 (wd:Int),.int .i64 (H:Int),.int .i64 (K:Int),.int .i64 (D:Int),.int .i64 (L:Int),.slice (some ⟨gk1,0,none⟩) N N,.slice (some ⟨gp1,0,none⟩) M M,.slice (some ⟨gs1,0,none⟩) M M]) = .agg cs.toArray:=by rw[hcs]
     rw[hag]
     replace hag:Hid _:=hag
     replace hcs:Hid _:=hcs
     replace hl:Hid _:=hl
     replace ho:Hid _:=ho
     replace hrg:Hid _:=hrg
     clear hkl6
     go_upto_region 22 with fail
     generalize ((w6.alloc (Obj.cells #[.int .i64 0,.int .i64 0,.bool false,.int .i64 0,.int .i64 0,.int .i64 0,.int .i64 0,.int .i64 0,.slice none 0 0,.slice none 0 0,.slice none 0 0] 50)).setCells w6.heap.size 0 cs)=w7 at *
     clear hsc
     replace hrg:=hrg.out
     rw[hcs.out] at hrg
     have y0:w7.cell? ⟨w6.heap.size,0,none⟩=_:=hrg 0 _ rfl
     have y1:w7.cell? ⟨w6.heap.size,1,none⟩=_:=hrg 1 _ rfl
     have y2:w7.cell? ⟨w6.heap.size,2,none⟩=_:=hrg 2 _ rfl
     have y3:w7.cell? ⟨w6.heap.size,3,none⟩=_:=hrg 3 _ rfl
     have y4:w7.cell? ⟨w6.heap.size,4,none⟩=_:=hrg 4 _ rfl
     have y5:w7.cell? ⟨w6.heap.size,5,none⟩=_:=hrg 5 _ rfl
     have y6:w7.cell? ⟨w6.heap.size,6,none⟩=_:=hrg 6 _ rfl
     have y7:w7.cell? ⟨w6.heap.size,7,none⟩=_:=hrg 7 _ rfl
     have y8:w7.cell? ⟨w6.heap.size,8,none⟩=_:=hrg 8 _ rfl
     have y9:w7.cell? ⟨w6.heap.size,9,none⟩=_:=hrg 9 _ rfl
     have y10:w7.cell? ⟨w6.heap.size,10,none⟩=_:=hrg 10 _ rfl
     clear hrg
     have FU:Hid _:=F5.out w7 gk1 gp1 gs1 (K6.out.trans K7.out) (NN1.out.1.kept K7.out) (NN1.out.2.1.kept K7.out) (NN1.out.2.2.kept K7.out)
     go_wp2_with fail
     refine Calls.mono FU.out ?_
     rintro r w8 ⟨rfl,hk8⟩
     have K8:Hid (Kept w w8):=(K6.out.trans K7.out).trans hk8
     clear hk8 y0 y1 y2 y3 y4 y5 y6 y7 y8 y9 y10
     go_wp2
     go_ret
     exact ⟨rfl,K8.out⟩
theorem moreLaw_x (a b i:Int) (s t u v q:ByteArray) (w:World) (ha1 : -9223372036854775808≤a) (ha2:a<9223372036854775808) (hb1 : -9223372036854775808≤b) (hb2:b<9223372036854775808) (hs:s.size<9223372036854775808) (ht:t.size<9223372036854775808) (hu:u.size<9223372036854775808) (hv:v.size<9223372036854775808) (hi1 : -9223372036854775808≤i) (hi2:i<9223372036854775808) (hq:q.size<9223372036854775808) (hG:GridAt w) :
  Calls Tryz.prog 8 #[.int .i64 a,.string s,.string t,.int .i64 b,.string u,.string v,.int .i64 i,.string q] w fun r w'=>r = .returned (.bool true)∧Kept w w':=by
 have FF:Hid (∀ W':World,Calls Tryz.prog 10 #[.string s,.string t,.string u,.string v] W' fun r w'=>r = .returned (.bool (decide (65536<s.size∨65536<t.size∨65536<u.size∨65536<v.size)))∧w'=W'):=fun W'=>far_any s t u v W' hs ht hu hv
 have FD:Hid (Calls Tryz.prog 9 #[.int .i64 a,.string s,.string t,.int .i64 b,.string u,.string v] w fun r w'=>(decide (65536<s.size∨65536<t.size∨65536<u.size∨65536<v.size)=true∧r = .returned (.pointer none)∨decide (65536<s.size∨65536<t.size∨65536<u.size∨65536<v.size)=false∧DeskX w w' r)∧Kept w w'):=desked_x a b s t u v w ha1 ha2 hb1 hb2 hs ht hu hv hG
 generalize decide (65536<s.size∨65536<t.size∨65536<u.size∨65536<v.size)=far at *
 clear hG
 go_enter Tryz.func8,Tryz.ntmps8
 go_wp2_with fail
 refine FD.out.mono ?_
 rintro r w1 ⟨h | ⟨_,x,wd,H,K,D,L,P,V,Z,pp,qp,xp,fp,kp,cp,pc,qc,xc,fc,kc,cc,pal,clr,pix,fl,kl,cl,ff,rfl,hx0,hx1,hD,hfT,h14⟩,hk1⟩
 ·obtain ⟨rfl,rfl⟩:=h
  have HK:Hid (Kept w w1):=hk1
  clear hk1
  go_wp2_with fail
  refine (FF.out _).mono ?_
  rintro r w2 ⟨rfl,hw⟩
  subst w2
  go_wp2
  go_ret
  exact ⟨rfl,HK.out⟩
 ·have HK:Hid (Kept w w1):=hk1
  have HD:Hid (Dk w1 x wd H K D L P V Z pp qp xp fp kp cp pc qc xc fc kc cc pal clr pix fl kl cl):=hD
  have HFT:Hid (FileT wd H D K L P V pal clr pix fl kl ff):=hfT
  have H14:Hid (w1.cell? ⟨x,14,none⟩=some (.string ff)):=h14
  clear hk1 hD hfT h14
  go_wp2_with fail
  refine (kmore_x x wd H K D L P V Z i q pp qp xp fp kp cp pc qc xc fc kc cc pal clr pix fl kl cl ff w1 HD.out hx0 HFT.out H14.out hi1 hi2 hq).mono ?_
  rintro r w2 ⟨rfl,hk2⟩
  have HK2:Hid (Kept w w2):=HK.out.trans hk2
  clear hk2
  go_wp2
  go_ret
  exact ⟨rfl,HK2.out⟩
end Go.Proofs.YtmbmecfodigciaaGreatDoor
