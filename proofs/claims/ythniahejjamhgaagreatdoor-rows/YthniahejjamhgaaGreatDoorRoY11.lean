import Derived.Test.YthniahejjamhgaaGreatDoorRoY7
import Derived.Test.YthniahejjamhgaaGreatDoorRoG8
import Derived.Test.YthniahejjamhgaaGreatDoorRoHB9
import Derived.Deep.RegionWith
import Derived.Test.YthniahejjamhgaaGreatDoorRoF1
set_option maxRecDepth 100000
set_option maxHeartbeats 6400000
namespace Go.Proofs.YthniahejjamhgaaGreatDoor
open Go.RowKit Px
set_option linter.unusedSimpArgs false
set_option linter.unusedVariables false
structure MadeB (w w':World) (ov:Value) (L:List Int):Prop where
 ok:isBytes L
 lat:LAt w' .u8 ov L
 nn:∀ n c,ov = .slice none n c->c=0
 new:∀ g,sliceBlock ov=some g->w.heap.size<=g
 kept:Kept w w'
theorem singles_b (v:Value) (l:List Int) (w:World) (hl:LAt w .i64 v l) (hn:l.length<=65536) (hB:isBytes l) :
  Calls Tryz.prog 48 #[v] w fun r w'=>∃ ov:Value,r = .returned ov/\MadeB w w' ov l:=by
 obtain ⟨p,c,rfl⟩:=hl.form;have HL:Hid (LAt w .i64 (.slice p l.length c) l):=hl;have HB:Hid (isBytes l):=hB;clear hl hB;obtain ⟨i0,hi,hz0,hz1,hz2⟩:=info_parts' infoU8;go_enter Tryz.func48,Tryz.ntmps48;go_wp2_with (refine wpList_make_full _ rfl _ _ 105 rfl w.heap.size 5 i0 (.int .u8 0) 1 Tryz.underlying105 hi hz0 hz1 .i64 .i64 (l.length:Int) (l.length:Int) l.length rfl rfl rfl rfl (by rw[hz2];omega) (by unfold maxLen;omega) (Nat.le_refl _) ?_)
 intro w1 ho1 hg1;have hK1:Hid (Kept w w1):=⟨hg1.os,hg1.tape,hg1.output,hg1.size,fun k hk=>hg1.block k hk (by simp)⟩;have hF1:Hid (∀ k,w1.frozen? ⟨w.heap.size,k,none⟩=false):=by
  rcases ho1.2 with ⟨hv,h0⟩ | ⟨g,cap,cur,hv,hg,hh,r⟩
  ·cases hv
  ·injection hv with hv _ _
   injection hv with hv
   injection hv with hv _ _
   rw[<- hv] at hh;exact fun k=>Joins.unfrozen_of_block hh k
 have hR1:Hid (∀ j,j<l.length->w1.cell? ⟨w.heap.size,j,none⟩=some (.int .u8 (if j<0 then l.getD j 0 else 0))):=by
  intro j hj
  have:=ho1.cells rfl j _ (made8 l.length j hj)
  rw[Addr.add_mid,Nat.zero_add] at this;rw[if_neg (by omega)];exact this
 clear ho1 hg1;go_wp2;go_loopw [4] (fun v W=>∃ k:Nat,k<=l.length/\v = .int .i64 (k:Int)/\(∀ j,j<l.length->W.cell? ⟨w.heap.size,j,none⟩=some (.int .u8 (if j<k then l.getD j 0 else 0)))/\(∀ k,W.frozen? ⟨w.heap.size,k,none⟩=false)/\Kept w W) (fun v _=>l.length - (intOf v).toNat)
 case atStart=>exact ⟨0,by omega,rfl,hR1.out,hF1.out,hK1.out⟩
 case round=>
  obtain ⟨k,hk,rfl,hR,hF,hK⟩:=hrel;clear hR1 hF1 hK1;by_cases hlt:k<l.length
  ·obtain ⟨g,o,rfl,hc⟩:=(HL.out.kept hK).cellAt k hlt
   have hgw:g<w.heap.size:=by
    obtain ⟨g',o',e,hc'⟩:=HL.out.cellAt k hlt
    injection e with e
    injection e with e _
    subst e;exact World.block_lt_of_cell? _ _ hc'
   have hz:=hR k hlt;rw[if_neg (by omega)] at hz;have hb:=HB.out _ (getD_mem hlt);have hb0:=hb.1;have hb1:=hb.2;clear hb;obtain ⟨B,hBe⟩:∃ B,B=l.getD k 0:=⟨_,rfl⟩;rw[<- hBe] at hc hb0 hb1;replace hBe:Hid _:=hBe;have hfk:=hF k;have hlt':(k:Int)<(l.length:Int):=by omega
   have hk0:(0:Int)<=(k:Int):=by omega
   replace hR:Hid (∀ j,j<l.length->wr.cell? ⟨w.heap.size,j,none⟩=some (.int .u8 (if j<k then l.getD j 0 else 0))):=hR;replace hF:Hid (∀ k,wr.frozen? ⟨w.heap.size,k,none⟩=false):=hF;replace hK:Hid (Kept w wr):=hK;go_wp2;refine ⟨⟨k+1,by omega,by go_num,fun j hj => ?_,fun j=>by rw[World.frozen?_setCell];exact hF.out j,hK.out.setCell (Nat.le_refl _) _⟩,by simp [intOf];omega⟩;by_cases hjk:j=k
   ·subst hjk
    rw[if_pos (by omega),<- hBe.out]
    first | exact cell_set_same hz _ | (rw[cell_set_same hz _,Int.emod_eq_of_lt hb0 hb1])
   ·rw[cell_set_other _ _ _ _ _ (fun e=>hjk e.symm)]
    rw[hR.out j hj];by_cases h5:j<k
    ·rw[if_pos h5,if_pos (by omega)]
    ·rw[if_neg h5,if_neg (by omega)]
  ·have hke:k=l.length:=by omega
   subst hke;replace hR:Hid (∀ j,j<l.length->wr.cell? ⟨w.heap.size,j,none⟩=some (.int .u8 (if j<l.length then l.getD j 0 else 0))):=hR;replace hF:Hid (∀ k,wr.frozen? ⟨w.heap.size,k,none⟩=false):=hF;replace hK:Hid (Kept w wr):=hK;go_wp2;go_ret;refine ⟨.slice (some ⟨w.heap.size,0,none⟩) l.length l.length,rfl,HB.out,⟨⟨_,_,rfl⟩,?_⟩,?_,?_,hK.out⟩
   ·intro p' c' e i hi
    injection e with e _ _
    refine ⟨w.heap.size,0,e.symm,?_⟩;rw[Nat.zero_add,hR.out i hi,if_pos hi]
   ·intro n c' e;injection e with e _ _;cases e
   ·intro g hg
    have:w.heap.size=g:=by injection hg
    omega
def twoB (l:List Int):List Int:=l.flatMap (fun x=>[x / 256,x % 256])
theorem twoB_len (l:List Int):(twoB l).length=2*l.length:=by
 unfold twoB
 induction l with
 | nil=>rfl
 | cons x l ih=>rw[List.flatMap_cons,List.length_append,ih];simp;omega
theorem twoB_snoc (l:List Int) (x:Int):twoB (l++[x])=twoB l++[x / 256,x % 256]:=by
 unfold twoB;rw[List.flatMap_append];simp
theorem pairs_b (v:Value) (l:List Int) (w:World) (hl:LAt w .i64 v l) (hn:l.length<=65536) (hB:∀ x ∈ l,0<=x/\x<65536) :
  Calls Tryz.prog 78 #[v] w fun r w'=>∃ ov:Value,r = .returned ov/\MadeB w w' ov (twoB l):=by
 obtain ⟨p,c,rfl⟩:=hl.form;have HL:Hid (LAt w .i64 (.slice p l.length c) l):=hl;have HB:Hid _:=hB;clear hl hB;go_enter Tryz.func78,Tryz.ntmps78;go_wp2;go_loopw [3,4] (fun u v W=>∃ k:Nat,k<=l.length/\v = .int .i64 (k:Int)/\OwnB W w.heap.size u (twoB (l.take k))/\Kept w W) (fun _ v _=>l.length - (intOf v).toNat)
 case atStart=>exact ⟨0,by omega,rfl,OwnB.nil _ _,Kept.refl _⟩
 case round=>
  obtain ⟨k,hk,rfl,ho,hK⟩:=hrel;have HLn:Hid ((twoB (l.take k)).length=2*k):=by
   show (twoB (l.take k)).length=2*k
   rw[twoB_len,List.length_take];omega
  obtain ⟨pp,cc,rfl⟩:=ho.slice' HLn.out;have hsz:=hK.size;by_cases hlt:k<l.length
  ·obtain ⟨g,o,rfl,hc⟩:=(HL.out.kept hK).cellAt k hlt
   have hgw:g<w.heap.size:=by
    obtain ⟨g',o',e,hc'⟩:=HL.out.cellAt k hlt
    injection e with e
    injection e with e _
    subst e;exact World.block_lt_of_cell? _ _ hc'
   have hb:=HB.out _ (getD_mem hlt);have hb0:=hb.1;have hb1:=hb.2;clear hb;have HNx:Hid (twoB (l.take (k+1))=twoB (l.take k)++[l.getD k 0 / 256,l.getD k 0 % 256]):=by
    show twoB (l.take (k+1))=_
    rw[<- twoB_snoc,List.take_succ_eq_append_getElem hlt];simp [List.getD_eq_getElem?_getD,List.getElem?_eq_getElem hlt]
   generalize l.getD k 0=B at *;obtain ⟨T0,hT0⟩:∃ T0,T0=twoB (l.take k):=⟨_,rfl⟩;rw[<- hT0] at HNx HLn ho;clear hT0;have HW1:Hid (IntKind.u8.wrap (B / 256)=B / 256):=by show IntKind.u8.wrap (B / 256)=_;rw[IntKind.wrap_u8];omega
   have HW2:Hid (IntKind.u8.wrap B=B % 256):=IntKind.wrap_u8 B;have hlt':(k:Int)<(l.length:Int):=by omega
   have hk0:(0:Int)<=(k:Int):=by omega
   replace hK:Hid (Kept w wr):=hK;have HO:Hid (OwnB wr w.heap.size (.slice pp (2*k) cc) T0):=ho;clear ho;have HE:Hid (isBytes [IntKind.u8.wrap (B / 256),IntKind.u8.wrap B]):=by
    intro y hy;simp at hy;rcases hy with rfl | rfl
    ·have:=bounds_u8 (wf_wrap .u8 (B / 256));omega
    ·have:=bounds_u8 (wf_wrap .u8 B);omega
   have HC:Hid (∀ j,j<2->((wr.alloc (Obj.cells #[Value.int IntKind.u8 (IntKind.u8.wrap (B / 256)),Value.int IntKind.u8 (IntKind.u8.wrap B)] 5)).drewN 1).cell? ⟨wr.heap.size,j,none⟩=some (.int .u8 ([IntKind.u8.wrap (B / 256),IntKind.u8.wrap B].getD j 0))):=by
    intro j hj;show (wr.alloc _).cell? _=_
    rw[World.cell?_alloc_at _ _ _ _ rfl]
    have:j=0\/j=1:=by omega
    rcases this with rfl | rfl<;>rfl
   go_wp2_with fail;go_region_held3 (fun W=>W.cell? ⟨g,o+k,none⟩=some (.int .i64 B)) (first | exact hc | exact hc5 | go_keep) ((refine stepB (by rfl) _ _ (by rfl) w.heap.size (.slice pp (2*k) cc) T0 (by rfl) (by exact (HO.out.alloc _).drewN 1) wr.heap.size 2 2 [IntKind.u8.wrap (B / 256),IntKind.u8.wrap B] (by rfl) rfl (by omega) HE.out (by exact HC.out) (by rw[HLn.out];omega) (by simp;omega) ?_;intro g' cap w2 ho2 hf2;have fk:Fr (fun k'=>(Value.slice pp (2*k) cc).ownBlock=some k') wr w2:=(((Fr.refl _ wr).alloc _).drewN 1).trans hf2;have hc5:w2.cell? ⟨g,o+k,none⟩=some (.int .i64 B):=(fk.cell (World.block_lt_of_cell? _ _ hc) (fun e=>by have:=HO.out.ge g e;omega)).trans hc))
   have HO2:Hid (OwnB w2 w.heap.size (.slice (some ⟨g',0,none⟩) (T0.length+2) cap) (twoB (l.take (k+1)))):=by
    show OwnB _ _ _ _
    rw[HNx.out];have h5:=ho2;rw[HW1.out,HW2.out] at h5;exact h5
   have HK2:Hid (Kept w w2):=Fr.to_kept hK.out fk (fun i hi e=>by have:=HO.out.ge i e;omega);clear ho2 hf2 fk;go_wp2;exact ⟨⟨k+1,by omega,by go_num,HO2.out,HK2.out⟩,by simp [intOf];omega⟩
  ·have hke:k=l.length:=by omega
   subst hke;have HO:Hid (OwnB wr w.heap.size (.slice pp (2*l.length) cc) (twoB l)):=by
    show OwnB _ _ _ _
    rw[List.take_of_length_le (Nat.le_refl _)] at ho;exact ho
   replace hK:Hid (Kept w wr):=hK;clear ho;go_wp2;go_ret;have hLo:=HO.out.2;refine ⟨.slice pp (2*l.length) cc,rfl,HO.out.1,HO.out.lat,?_,?_,hK.out⟩
   ·intro n c' e
    rcases hLo.2 with ⟨hv,h0⟩ | ⟨g,cap,cur,hv,hg,r⟩
    ·rw[hv] at e;injection e with _ _ e;omega
    ·rw[hv] at e;injection e with e _ _;cases e
   ·intro g hg
    rw[sliceBlock_own _ hLo] at hg;exact (hLo.lt g hg).1
theorem clearOf_b (W H K D:Int) (pv cv xv:Value) (l:List Int) (w:World) (hl:LAt w .i64 cv l) (hn:l.length<=65536) (hB:∀ x ∈ l,0<=x/\x<65536) (hB3:K=3->isBytes l) :
  Calls Tryz.prog 50 #[.agg #[.int .i64 W,.int .i64 H,.int .i64 K,.int .i64 D,pv,cv,xv]] w fun r w'=>∃ ov:Value,r = .returned ov/\MadeB w w' ov (if K=3 then l else twoB l):=by
 have hk0:Kept w (w.alloc (Obj.cells #[Value.int .i64 W,.int .i64 H,.int .i64 K,.int .i64 D,pv,cv,xv] 29)):=Below.alloc (Below.refl _ _) (Nat.le_refl _) _;have F1:Hid (K=3->Calls Tryz.prog 48 #[cv] (w.alloc (Obj.cells #[Value.int .i64 W,.int .i64 H,.int .i64 K,.int .i64 D,pv,cv,xv] 29)) fun r w'=>∃ ov:Value,r = .returned ov/\MadeB (w.alloc (Obj.cells #[Value.int .i64 W,.int .i64 H,.int .i64 K,.int .i64 D,pv,cv,xv] 29)) w' ov l):=fun h3=>singles_b cv l _ (hl.kept hk0) hn (hB3 h3)
 have F2:Hid (Calls Tryz.prog 78 #[cv] (w.alloc (Obj.cells #[Value.int .i64 W,.int .i64 H,.int .i64 K,.int .i64 D,pv,cv,xv] 29)) fun r w'=>∃ ov:Value,r = .returned ov/\MadeB (w.alloc (Obj.cells #[Value.int .i64 W,.int .i64 H,.int .i64 K,.int .i64 D,pv,cv,xv] 29)) w' ov (twoB l)):=pairs_b cv l _ (hl.kept hk0) hn hB;replace hk0:Hid _:=hk0;clear hl hB hB3;by_cases hK:K=3
 ·subst hK
  rw[if_pos rfl];replace F1:=F1.out rfl;replace F1:Hid _:=F1;go_enter Tryz.func50,Tryz.ntmps50;go_wp2_with fail;refine Calls.mono F1.out ?_;rintro r w1 ⟨ov,rfl,h⟩;go_wp2;go_ret;exact ⟨ov,rfl,h.ok,h.lat,h.nn,fun g hg=>Nat.le_trans hk0.out.size (h.new g hg),Kept.trans hk0.out h.kept⟩
 ·rw[if_neg hK]
  have hK':(K == 3)=false:=by rw[beq_eq_false_iff_ne];exact hK
  clear hK;go_enter Tryz.func50,Tryz.ntmps50;go_wp2_with fail;refine F2.out.mono ?_;rintro r w1 ⟨ov,rfl,h⟩;go_wp2;go_ret;exact ⟨ov,rfl,h.ok,h.lat,h.nn,fun g hg=>Nat.le_trans hk0.out.size (h.new g hg),Kept.trans hk0.out h.kept⟩
theorem wdata_b (x N g o c:Nat) (L:List Int) (S:Nat->Prop) (cv:Value) (l:List Int) (w:World) (h:WrY w x N L S) (hm0:0<L.length) (hm:L.length<=1000000) (hl:LAt w .u8 (.slice (some ⟨g,o,none⟩) l.length c) l) (hB:isBytes l) (hcap:l.length<=c) (h0:0<l.length) (hn:l.length<=32768) (hgS:¬ S g) (hcl:LAt w .i64 cv [32768]) (hcS:∀ b,sliceBlock cv=some b->¬ S b) :
  Calls Tryz.prog 51 #[.pointer (some ⟨x,0,none⟩),.slice (some ⟨g,o,none⟩) l.length c,cv] w fun r w'=>r = .returned (.tuple #[])/\PutB x N (L++chB idat l) S w w':=by
 obtain ⟨cp,cc,rfl⟩:=hcl.form;have F1:Hid (Calls Tryz.prog 71 #[.slice cp 1 cc,.int .i64 0] w fun r w'=>r = .returned (.int .i64 32768)/\Kept w w'):=turns_any (.slice cp 1 cc) [32768] 0 w hcl (by decide) (by decide) (by decide);have F2:Hid (∀ (W:World),Kept w W->Calls Tryz.prog 79 #[.pointer (some ⟨x,0,none⟩),.slice (some ⟨g,o,none⟩) l.length c] W fun r w'=>r = .returned (.tuple #[])/\PutB x N (L++chB idat l) S W w'):=fun W hk=>dataw_b x N L S _ l W (h.kept hk) hm0 (hl.kept hk) hB (fun n' c'' e=>by injection e with e _ _;cases e) (fun b hb=>by
   have:g=b:=by injection hb
   rw[<- this];exact hgS) hm (by omega)
 have F1':∃ V:Nat,l.length<=V/\V<=65536/\Hid (Calls Tryz.prog 71 #[.slice cp 1 cc,.int .i64 0] w fun r w'=>r = .returned (.int .i64 (V:Int))/\Kept w w'):=⟨32768,hn,by decide,F1⟩;clear F1;obtain ⟨V,hV0,hVb,F1⟩:=F1';clear h hl hB hcl hcS;obtain ⟨Q,hQ⟩:∃ Q,l.length=Q:=⟨_,rfl⟩;rw[hQ] at F2 hV0 h0 hcap ⊢;clear hn;have HK0:Hid (L++chB idat l=L++chB idat l):=rfl;obtain ⟨LL,hLL⟩:∃ LL,LL=L++chB idat l:=⟨_,rfl⟩;rw[<- hLL] at F2 ⊢;clear hLL HK0 hQ hm0 hm;show Calls Tryz.prog 51 #[.pointer (some ⟨x,0,none⟩),.slice (some ⟨g,o,none⟩) Q c,.slice cp 1 cc] w _
 go_enter Tryz.func51,Tryz.ntmps51;go_wp2;go_loopw [6,7] (fun u v W=>(u = .int .i64 0/\v = .int .i64 0/\W=w)\/(u = .int .i64 1/\v = .int .i64 (Q:Int)/\PutB x N LL S w W)) (fun u _ _=>1 - (intOf u).toNat)
 case atStart=>exact Or.inl ⟨rfl,rfl,rfl⟩
 case round=>
  rcases hrel with ⟨rfl,rfl,rfl⟩ | ⟨rfl,rfl,hP⟩
  ·have l1:(0:Int)<(Q:Int):=by omega
   have hVz:(0:Int)<=(V:Int):=by omega
   by_cases hm':V=Q
   ·subst hm'
    have hmi:(V:Int)<=(V:Int):=by omega
    go_wp2_with fail;refine F1.out.mono ?_;rintro r w6 ⟨rfl,hk6⟩;replace hk6:Hid (Kept wr w6):=hk6;go_wp2_with fail;refine (F2.out w6 hk6.out).mono ?_;rintro r w7 ⟨rfl,hw7⟩;have HP7:Hid (PutB x N LL S wr w7):=⟨hw7.at',(Fr.of_kept hk6.out).trans hw7.fr⟩;clear hw7;go_wp2;exact ⟨Or.inr ⟨rfl,rfl,HP7.out⟩,by simp [intOf]⟩
   ·have hmi:¬ (V:Int)<=(Q:Int):=by omega
    have hmi2:(Q:Int)<=(V:Int):=by omega
    go_wp2_with fail;refine F1.out.mono ?_;rintro r w6 ⟨rfl,hk6⟩;replace hk6:Hid (Kept wr w6):=hk6;go_wp2_with fail;refine (F2.out w6 hk6.out).mono ?_;rintro r w7 ⟨rfl,hw7⟩;have HP7:Hid (PutB x N LL S wr w7):=⟨hw7.at',(Fr.of_kept hk6.out).trans hw7.fr⟩;clear hw7;go_wp2;exact ⟨Or.inr ⟨rfl,rfl,HP7.out⟩,by simp [intOf]⟩
  ·replace hP:Hid _:=hP
   go_wp2;go_end0
   exact ⟨rfl,hP.out⟩
def zStream (V:Nat) (l:List Int):List Int:=[((8+16*V:Nat):Int),(zFlg V:Int)]++stB 1 l++beB (adlL 1 l)
theorem stream_b (g o c:Nat) (kv fv cv:Value) (l kl:List Int) (lace srch:Int) (P V:Nat) (w:World) (hl:LAt w .u8 (.slice (some ⟨g,o,none⟩) l.length c) l) (hB:isBytes l) (hcap:l.length<=c) (hkl:LAt w .i64 kv kl) (hn:l.length<=32768) (h0:0<l.length) (hk0:0<kl.length) (hk1:kl.length<=64) (hkk:∀ x ∈ kl,x=0) (hp0:l.length<=P) (hp1:P<=1048576) (hw1:V<=7) :
  Calls Tryz.prog 44 #[.slice (some ⟨g,o,none⟩) l.length c,.agg #[.int .i64 lace,fv,kv,.int .i64 (P:Int),cv,.int .i64 (V:Int),.int .i64 srch]] w fun r w'=>∃ ov,r = .returned ov/\OwnB w' w.heap.size ov (zStream V l)/\Kept w w':=by
 obtain ⟨w0,hw0⟩:∃ w0,w0=w.alloc (Obj.cells #[Value.int .i64 lace,fv,kv,.int .i64 (P:Int),cv,.int .i64 (V:Int),.int .i64 srch] 31):=⟨_,rfl⟩;have hch:Hid (∀ k u,#[Value.int .i64 lace,fv,kv,.int .i64 (P:Int),cv,.int .i64 (V:Int),.int .i64 srch][k]? = some u->w0.cell? ⟨w.heap.size,k,none⟩=some u):=by
  intro k u hu;rw[hw0,World.cell?_alloc_at _ _ _ _ rfl];exact hu
 have hkw0:Hid (Kept w w0):=by rw[hw0];exact (Below.refl _ _).alloc (Nat.le_refl _) _
 have hs0:Hid (w.heap.size<w0.heap.size):=by rw[hw0];show _<_;simp
 have HL:Hid (LAt w .u8 (.slice (some ⟨g,o,none⟩) l.length c) l):=hl;have HKL:Hid (LAt w .i64 kv kl):=hkl;have HKK:Hid (∀ x ∈ kl,x=0):=hkk;have HB:Hid (isBytes l):=hB;clear hl hkl hkk hB;go_enter Tryz.func44,Tryz.ntmps44;go_upto_region 1 with fail
 rw[<- hw0];clear hw0;go_wp2_with fail;refine (fixbooks_any w0).mono ?_;rintro r w3 ⟨hbk,hkw3⟩;obtain ⟨ct,rfl,hct⟩:=hbk.cs;obtain ⟨A,hAe,hAs,hA0,hA1,hA2,hA3,hA5⟩:=lay_books ct hct;obtain ⟨wa,hwa⟩:∃ wa,wa=w3.alloc (Obj.cells Tryz.zeroCells142 142):=⟨_,rfl⟩;have hT4:wa.there w3.heap.size 0 A.toList.length:=by rw[hwa,Array.length_toList,hAs];exact there_new _ _ _ _ size1155
 have hsc4:(storeCells ⟨w3.heap.size,0,none⟩ A.toList).run Tryz.prog wa = .ok () (wa.setCells w3.heap.size 0 A.toList):=store_there hT4 hA5;have hR4:Hid ((wa.setCells w3.heap.size 0 A.toList).rangeAt w3.heap.size 0 A.toList):=World.rangeAt_setCells_same _ _ _ _ hT4;have hK4:Hid (Kept w3 (wa.setCells w3.heap.size 0 A.toList)):=Kept.setCells (Nat.le_refl _) _ _ (by rw[hwa];exact (Below.refl _ _).alloc (Nat.le_refl _) _);have hF4:Hid (∀ k,(wa.setCells w3.heap.size 0 A.toList).frozen? ⟨w3.heap.size,k,none⟩=false):=fun k=>by rw[World.frozen?_setCells,hwa];exact World.frozen?_alloc_at _ _ _ _ rfl
 have hsz:Hid ((wa.setCells w3.heap.size 0 A.toList).heap.size=w3.heap.size+1):=by
  show _=_
  rw[setCells_size,hwa];simp
 have HA:Hid (A.toList[0]? = some (.slice none 0 0)/\A.toList[1]? = some (.int .u32 0)/\A.toList[2]? = some (.int .u64 0)/\(∀ i,i<ct.length->A.toList[3+i]? = ct[i]?)):=⟨hA0,hA1,hA2,hA3⟩;have HK:Hid (Kept w0 (wa.setCells w3.heap.size 0 A.toList)):=hkw3.trans hK4.out;have HC:Hid (BksC ct):=hct;have g0:w.heap.size<w3.heap.size:=Nat.lt_of_lt_of_le hs0.out hkw3.size;have hAl:A.toList.length=1155:=by rw[Array.length_toList,hAs]
 have hctl:ct.length=1152:=hct.len;rw[hwa] at hsc4;clear hA0 hA1 hA2 hA3 hA5 hT4 hkw3 hbk hct hK4;go_upto_region 2 with fail
 rw[<- hwa];clear hsc4 hAe hAs hwa hAl;generalize wa.setCells w3.heap.size 0 A.toList=w4 at *;generalize hx:w3.heap.size=x at *;clear hx;have hx4:x<w4.heap.size:=by have:=hsz.out;omega
 have HKw:Hid (Kept w w4):=hkw0.out.trans HK.out;have H4:Hid (BitY w4 x (x+1) [] 0 0):=⟨by omega,by rw[hsz.out];omega,hF4.out,⟨.slice none 0 0,hR4.out 0 _ HA.out.1,OwnB.nil _ _⟩,hR4.out 1 _ HA.out.2.1,hR4.out 2 _ HA.out.2.2.1⟩;have hgl:g<w.heap.size:=HL.out.lt h0 g rfl;have hkb:Hid (∀ b,sliceBlock kv=some b->b<w.heap.size):=HKL.out.lt hk0;have HCh:Hid (∀ k u,#[Value.int .i64 lace,fv,kv,.int .i64 (P:Int),cv,.int .i64 (V:Int),.int .i64 srch][k]? = some u->w4.cell? ⟨w.heap.size,k,none⟩=some u):=fun k u hu=>(HK.out.cell (p:=⟨w.heap.size,k,none⟩) hs0.out).trans (hch.out k u hu)
 have hs4:Hid (w.heap.size<w4.heap.size):=Nat.lt_of_lt_of_le hs0.out HK.out.size;obtain ⟨hd,hhd⟩:∃ hd:List Int,hd=[((8+16*V:Nat):Int),(zFlg V:Int)]:=⟨_,rfl⟩;have hhl:hd.length=2:=by rw[hhd];rfl
 have F3:Hid (Calls Tryz.prog 69 #[.pointer (some ⟨x,0,none⟩),.int .i64 (V:Int)] w4 fun r w'=>r = .returned (.tuple #[])/\WroteB x (x+1) hd 0 0 w4 w'):=by
  rw[hhd];exact head_b x (x+1) V [] w4 H4.out hw1 (by simp)
 have HZ:Hid (zStream V l=hd++stB 1 l++beB (adlL 1 l)):=by show zStream V l=_;rw[hhd];rfl
 replace hhl:Hid _:=hhl;have ch5:=HCh.out 5 _ rfl;clear hhd hR4 hF4 hsz HA HC HK hkw0 hs0 hch hctl;generalize ct.toArray=A1 at *;go_wp2_with fail;refine F3.out.mono ?_;rintro r w5 ⟨rfl,hw5⟩;have HCh5:Hid (∀ k u,#[Value.int .i64 lace,fv,kv,.int .i64 (P:Int),cv,.int .i64 (V:Int),.int .i64 srch][k]? = some u->w5.cell? ⟨w.heap.size,k,none⟩=some u):=fun k u hu=>(hw5.fr.cell hs4.out (by omega)).trans (HCh.out k u hu)
 have hs5:Hid (w.heap.size<w5.heap.size):=Nat.lt_of_lt_of_le hs4.out hw5.fr.size;have c5:=HCh5.out 5 _ rfl;have c6:=HCh5.out 6 _ rfl;obtain ⟨z,hz⟩:=winsize_any V;have FW:Hid (∀ W,Calls Tryz.prog 70 #[.int .i64 (V:Int)] W fun r w'=>r = .returned (.int .i64 z)/\w'=W):=hz;replace hw5:Hid (WroteB x (x+1) hd 0 0 w4 w5):=hw5;clear ch5 hz F3 H4;go_wp2_with fail;go_region_held3 (fun W=>W.cell? ⟨w.heap.size,5,none⟩=some (.int .i64 (V:Int))/\W.cell? ⟨w.heap.size,6,none⟩=some (.int .i64 srch)) (first | exact ⟨c5,c6⟩ | go_keep) ((go_at_call 70;refine (FW.out _).mono ?_;rintro r w6 ⟨rfl,rfl⟩))
 all_goals
  clear c5 c6 FW;obtain ⟨w6,hw6⟩:∃ w6,w6=(w5.alloc (Obj.cells #[Value.int .i64 z,Value.int .i64 srch] 145)).drew:=⟨_,rfl⟩;have K56:Hid (Kept w5 w6):=by rw[hw6];exact Kept.drewN ((Below.refl _ _).alloc (Nat.le_refl _) _) 1
  have Q0:Hid (w6.cell? ⟨w5.heap.size,0,none⟩=some (.int .i64 z)/\w6.cell? ⟨w5.heap.size,1,none⟩=some (.int .i64 srch)/\w5.heap.size<w6.heap.size):=by rw[hw6];exact ⟨(World.cell?_alloc_at _ _ _ _ rfl).trans rfl,(World.cell?_alloc_at _ _ _ _ rfl).trans rfl,by show w5.heap.size<(w5.alloc _).heap.size;simp⟩
  rw[<- hw6];clear hw6;have W6:Hid (WroteB x (x+1) hd 0 0 w4 w6):=hw5.out.kept K56.out;have hxs:x<w5.heap.size:=Nat.lt_of_lt_of_le hw5.out.bits.lt (by have:=hw5.out.bits.size;omega);have HCh6:Hid (∀ k u,#[Value.int .i64 lace,fv,kv,.int .i64 (P:Int),cv,.int .i64 (V:Int),.int .i64 srch][k]? = some u->w6.cell? ⟨w.heap.size,k,none⟩=some u):=fun k u hu=>(K56.out.cell (p:=⟨w.heap.size,k,none⟩) hs5.out).trans (HCh5.out k u hu)
  have hs6:Hid (w.heap.size<w6.heap.size):=Nat.lt_of_lt_of_le hs5.out K56.out.size;clear hw5 HCh HCh5 hs5 K56;generalize w5.heap.size=sb at *;have ch3:=HCh6.out 3 _ rfl;have hP1:(1:Int)<=(P:Int):=by omega
  have HKl0:Hid (kl.getD (0 % kl.length) 0=0):=HKK.out _ (getD_mem (Nat.mod_lt 0 hk0));have F4:Hid (∀ (W:World),LAt W .i64 kv kl->Calls Tryz.prog 71 #[kv,.int .i64 0] W fun r w'=>r = .returned (.int .i64 0)/\Kept W w'):=fun W h=>by
   have:=turns_any kv kl 0 W h hk0 (by omega) (by omega)
   rw[HKl0.out] at this;exact this
  have hSg:Hid (∀ b,sliceBlock (.slice (some ⟨g,o,none⟩) l.length c)=some b->¬ (b=x\/x+1<=b)):=by
   intro b hb
   have:g=b:=by injection hb
   omega
  have F5:Hid (∀ (W:World),WroteB x (x+1) hd 1 1 w4 W->Calls Tryz.prog 73 #[.pointer (some ⟨x,0,none⟩),.int .i64 0,.slice (some ⟨g,o,none⟩) l.length c,.int .i64 0,.agg #[.int .i64 z,.int .i64 srch]] W fun r w'=>r = .returned (.tuple #[])/\WroteB x (x+1) (hd++stB 1 l) 0 0 W w'):=fun W hW=>block_b x (x+1) z srch hd _ l W hW.bits ((HL.out.kept HKw.out).fr hW.fr hSg.out) HB.out hSg.out (by omega) (by rw[hhl.out];omega)
  have FM:Hid (∀ (W:World),BitY W x (x+1) hd 0 0->Calls Tryz.prog 72 #[.pointer (some ⟨x,0,none⟩),.bool true] W fun e w'=>e = .returned (.tuple #[])/\WroteB x (x+1) hd 1 1 W w'/\Fr1 x W w'):=fun W h=>mark_b x (x+1) hd W h
  have HKW:Hid (∀ (W:World) (ls:List Int) (p q:Nat),WroteB x (x+1) ls p q w4 W->LAt W .i64 kv kl):=by
   intro W ls p q hW;exact (HKL.out.kept HKw.out).fr hW.fr (fun b hb=>by have:=hkb.out b hb;omega)
  have F6:Hid (∀ (W:World) (ls:List Int),BitY W x (x+1) ls 0 0->Calls Tryz.prog 74 #[.pointer (some ⟨x,0,none⟩)] W fun r w'=>r = .returned (.tuple #[])/\WroteB x (x+1) ls 0 0 W w'):=fun W ls hB=>fill0_b x (x+1) ls W hB
  have hstl:(stB 1 l).length=l.length+5:=by simp [stB]
  have F7:Hid (∀ (W:World),WroteB x (x+1) (hd++stB 1 l) 0 0 w4 W->Calls Tryz.prog 75 #[.pointer (some ⟨x,0,none⟩),.slice (some ⟨g,o,none⟩) l.length c] W fun r w'=>r = .returned (.tuple #[])/\WroteB x (x+1) (hd++stB 1 l++beB (adlL 1 l)) 0 0 W w'):=fun W hW=>sum_b x (x+1) _ _ l W hW.bits ((HL.out.kept HKw.out).fr hW.fr hSg.out) HB.out (by omega) (by rw[List.length_append,hhl.out,hstl];omega)
  clear HKL HL hstl;go_wp2_with fail;go_loopg [8,9,10,11] 1 (fun m u v _ _ W=>(m=1/\u = .int .i64 0/\v = .int .i64 0/\W=w6)\/(m=0/\u = .int .i64 (l.length:Int)/\v = .int .i64 1/\WroteB x (x+1) (hd++stB 1 l) 0 0 w4 W))
  case atStart=>exact Or.inl ⟨rfl,rfl,rfl,rfl⟩
  case round=>
   rcases hrel with ⟨hm,rfl,rfl,rfl⟩ | ⟨hm,rfl,rfl,hW⟩
   ·have hk4:=HKW.out wr _ _ _ W6.out
    have FT:Hid (Calls Tryz.prog 71 #[kv,.int .i64 0] wr fun r w'=>r = .returned (.int .i64 0)/\Kept wr w'):=F4.out wr hk4;replace hm:Hid _:=hm;have ch2:=HCh6.out 2 _ rfl;have cs0:=Q0.out.1;have cs1:=Q0.out.2.1;clear hk4 ch3;have W6r:Hid (WroteB x (x+1) hd 0 0 w4 wr):=W6.out;have hsl:Hid (sb<wr.heap.size):=Q0.out.2.2;go_upto_region 10 with fail
    rw[show (if l.length<P then (l.length:Int) else (P:Int))=(l.length:Int) by split<;>omega];go_wp2_with fail;refine FT.out.mono ?_;rintro r w7 ⟨rfl,hk7⟩;have W7:Hid (WroteB x (x+1) hd 0 0 w4 w7):=W6r.out.kept hk7;have c70:w7.cell? ⟨sb,0,none⟩=some (.int .i64 z):=(hk7.cell (p:=⟨sb,0,none⟩) hsl.out).trans cs0;have c71:w7.cell? ⟨sb,1,none⟩=some (.int .i64 srch):=(hk7.cell (p:=⟨sb,1,none⟩) hsl.out).trans cs1;have sl7:Hid (sb<w7.heap.size):=Nat.lt_of_lt_of_le hsl.out hk7.size;clear hk7 cs0 cs1 ch2 FT W6r;go_wp2_with fail;refine (FM.out w7 W7.out.bits).mono ?_;rintro r w8 ⟨rfl,hw8,hf8⟩;have W8:Hid (WroteB x (x+1) hd 1 1 w4 w8):=W7.out.trans hw8;have c80:w8.cell? ⟨sb,0,none⟩=some (.int .i64 z):=(hf8.cell sl7.out (by omega)).trans c70;have c81:w8.cell? ⟨sb,1,none⟩=some (.int .i64 srch):=(hf8.cell sl7.out (by omega)).trans c71;clear hw8 hf8 c70 c71 W7;have hc0:(l.length:Int)<=(c:Int):=by omega
    have hl0:(0:Int)<=(l.length:Int):=by omega
    have WD:Hid (WroteB x (x+1) hd 1 1 w4 w8.drew):=W8.out.kept ((Kept.refl _).drewN 1);have F9:Hid (Calls Tryz.prog 73 #[.pointer (some ⟨x,0,none⟩),.int .i64 0,.slice (some ⟨g,o,none⟩) l.length c,.int .i64 0,.agg #[.int .i64 z,.int .i64 srch]] w8.drew fun r w'=>r = .returned (.tuple #[])/\WroteB x (x+1) (hd++stB 1 l) 0 0 w8.drew w'):=F5.out w8.drew WD.out;go_wp2_with fail;go_region_with ((go_at_call 73;refine F9.out.mono ?_;rintro r wA ⟨rfl,hwA⟩;have WA:Hid (WroteB x (x+1) (hd++stB 1 l) 0 0 w4 wA):=WD.out.trans hwA;clear hwA))
    all_goals
     clear c80 c81 F9 WD W8;go_wp2_with fail;go_roundg 0
     case measure=>rw[hm.out];omega
     case rel=>exact Or.inr ⟨rfl,rfl,by first | rfl | go_num,WA.out⟩
   ·have F66:Hid (Calls Tryz.prog 74 #[.pointer (some ⟨x,0,none⟩)] wr fun r w'=>r = .returned (.tuple #[])/\WroteB x (x+1) (hd++stB 1 l) 0 0 wr w'):=F6.out wr _ hW.bits
    replace hW:Hid (WroteB x (x+1) (hd++stB 1 l) 0 0 w4 wr):=hW;replace hm:Hid _:=hm;go_wp2_with fail;refine F66.out.mono ?_;rintro r w8 ⟨rfl,hw8⟩;replace hw8:Hid (WroteB x (x+1) (hd++stB 1 l) 0 0 w4 w8):=hW.out.trans hw8;go_wp2_with fail;refine (F7.out w8 hw8.out).mono ?_;rintro r w9 ⟨rfl,hw9⟩;replace hw9:Hid (WroteB x (x+1) (hd++stB 1 l++beB (adlL 1 l)) 0 0 w4 w9):=hw8.out.trans hw9;obtain ⟨ov,h0v,hov⟩:=hw9.out.bits.out;obtain ⟨LZ,hLZ⟩:∃ LZ,(hd++stB 1 l++beB (adlL 1 l)).length=LZ:=⟨_,rfl⟩;obtain ⟨pp,cc,rfl⟩:=hov.slice' hLZ;replace hov:Hid (OwnB w9 (x+1) (.slice pp LZ cc) (hd++stB 1 l++beB (adlL 1 l))):=hov;clear hLZ;go_wp2_with fail;go_ret;refine ⟨.slice pp LZ cc,rfl,?_,?_⟩
    ·rw[HZ.out]
     exact OwnB.base hov.out (by omega)
    ·exact Fr.to_kept HKw.out hw9.out.fr (fun i hi q=>by omega)
theorem zStream_len (V:Nat) (l:List Int):(zStream V l).length=l.length+11:=by
 unfold zStream;rw[List.length_append,List.length_append,beB_len];simp [stB];omega
theorem OwnB.cap {w:World} {N:Nat} {v:Value} {l:List Int} (h:OwnB w N v l) (h0:0<l.length):∃ g c,v = .slice (some ⟨g,0,none⟩) l.length c/\l.length<=c/\N<=g:=h.own8.cap h0
def palB (pal:List Int):List Int:=if pal.length=0 then [] else chB plte pal
def clrB (K:Nat) (clr:List Int):List Int:=if clr.length=0 then [] else chB trns (if (K:Int)=3 then clr else twoB clr)
def fileB (W H D K L V:Nat) (pal clr rl:List Int):List Int:=
 signI++chB ihdr (hdI W H D K L)++palB pal++clrB K clr++chB idat (zStream V rl)++chB iend []
theorem WrY.apart {W W':World} {x N d:Nat} {n:List Int} (h:WrY W x N n (S0 x N)) (k:Kept W W') (h1:W.heap.size<=d) (h2:d<W'.heap.size):WrY W' x N n (S1 x N d):=by
 obtain ⟨a1,a2,a3,sx,nw,ov,a4,a5,a6⟩:=h.kept k;obtain ⟨b1,b2,b3,_,_,ov',b4,b5,b6⟩:=h;have hx:x<W.heap.size:=by omega
 refine ⟨a1,a2,a3,⟨Or.inl rfl,by omega⟩,fun g hg=>⟨Or.inr (by omega),by omega⟩,ov,a4,a5,fun g hg=>⟨a6 g hg,?_⟩⟩;have e:ov=ov':=by
  have:=(k.cell (p:=⟨x,0,none⟩) hx).symm.trans a4
  rw[b4] at this
  injection this with this
  exact this.symm
 subst e
 have:=(b5.2.lt g hg).2
 omega
theorem PutB.step {x N d:Nat} {m m':List Int} {a b c e:World} (h:PutB x N m (S0 x N) a b) (k:Kept b c) (p:PutB x N m' (S1 x N d) c e):PutB x N m' (S0 x N) a e:=by
 have hz:=p.at'.size
 have:=p.widen (S:=S0 x N) (fun g q=>q.1) (fun g hg=>Or.inr (by omega))
 exact ⟨this.at',(h.fr.kept k).trans this.fr⟩
theorem write_b (W H K D L P V:Nat) (srch:Int) (pp qp xp fp kp cp:Option Addr) (pc qc xc fc kc cc:Nat) (pal clr pix fl kl cl rl:List Int) (w:World) (hI:OkIm W H K D pal clr pix) (hL:L<=1) (hkl0:0<kl.length) (hkl1:kl.length<=64) (hkl2:∀ y ∈ kl,y=0) (hcl:cl=[32768]) (hrP:rl.length<=P) (hPb:P<=1048576) (hrl0:0<rl.length) (hrl1:rl.length<=30000) (hV:V<=7)
  (hp:LAt w .i64 (.slice pp pal.length pc) pal) (hq:LAt w .i64 (.slice qp clr.length qc) clr) (hkk:LAt w .i64 (.slice kp kl.length kc) kl) (hcc:LAt w .i64 (.slice cp cl.length cc) cl)
  (hcb:∀ g,sliceBlock (.slice cp cl.length cc)=some g->g<w.heap.size)
  (hFB:∀ W0:World,Kept w W0->Calls Tryz.prog 43 #[.agg #[.int .i64 (W:Int),.int .i64 (H:Int),.int .i64 (D:Int),.int .i64 (K:Int),.int .i64 (L:Int)],.slice xp pix.length xc,.slice fp fl.length fc] W0 fun r w'=>∃ ov,r = .returned ov/\OwnB w' W0.heap.size ov rl/\Kept W0 w') :
  Calls Tryz.prog 24 #[.agg #[.int .i64 (W:Int),.int .i64 (H:Int),.int .i64 (K:Int),.int .i64 (D:Int),.slice pp pal.length pc,.slice qp clr.length qc,.slice xp pix.length xc],.agg #[.int .i64 (L:Int),.slice fp fl.length fc,.slice kp kl.length kc,.int .i64 (P:Int),.slice cp cl.length cc,.int .i64 (V:Int),.int .i64 srch]] w fun r w'=>r = .returned (.string (strOfNums (fileB W H D K L V pal clr rl)))/\Kept w w':=by
 have HFE:Hid (fileB W H D K L V pal clr rl=signI++chB ihdr (hdI W H D K L)++palB pal++clrB K clr++chB idat (zStream V rl)++chB iend []):=rfl;generalize fileB W H D K L V pal clr rl=FF at *;have hk0:Kept w (((w.alloc (Obj.cells #[.int .i64 (W:Int),.int .i64 (H:Int),.int .i64 (K:Int),.int .i64 (D:Int),.slice pp pal.length pc,.slice qp clr.length qc,.slice xp pix.length xc] 29)).alloc (Obj.cells #[.int .i64 (L:Int),.slice fp fl.length fc,.slice kp kl.length kc,.int .i64 (P:Int),.slice cp cl.length cc,.int .i64 (V:Int),.int .i64 srch] 31)).alloc (Obj.cells #[.int .i64 (W:Int),.int .i64 (H:Int),.int .i64 (D:Int),.int .i64 (K:Int),.int .i64 (L:Int)] 66)):=Below.alloc (Below.alloc (Below.alloc (Below.refl _ _) (Nat.le_refl _) _) (by simp) _) (by simp;omega) _;have hs0:(((w.alloc (Obj.cells #[.int .i64 (W:Int),.int .i64 (H:Int),.int .i64 (K:Int),.int .i64 (D:Int),.slice pp pal.length pc,.slice qp clr.length qc,.slice xp pix.length xc] 29)).alloc (Obj.cells #[.int .i64 (L:Int),.slice fp fl.length fc,.slice kp kl.length kc,.int .i64 (P:Int),.slice cp cl.length cc,.int .i64 (V:Int),.int .i64 srch] 31)).alloc (Obj.cells #[.int .i64 (W:Int),.int .i64 (H:Int),.int .i64 (D:Int),.int .i64 (K:Int),.int .i64 (L:Int)] 66)).heap.size=w.heap.size+3:=by simp
 have hA0:∀ W':World,(∀ (b j:Nat),w.heap.size<=b->b<w.heap.size+3->W'.cell? ⟨b,j,none⟩=(((w.alloc (Obj.cells #[.int .i64 (W:Int),.int .i64 (H:Int),.int .i64 (K:Int),.int .i64 (D:Int),.slice pp pal.length pc,.slice qp clr.length qc,.slice xp pix.length xc] 29)).alloc (Obj.cells #[.int .i64 (L:Int),.slice fp fl.length fc,.slice kp kl.length kc,.int .i64 (P:Int),.slice cp cl.length cc,.int .i64 (V:Int),.int .i64 srch] 31)).alloc (Obj.cells #[.int .i64 (W:Int),.int .i64 (H:Int),.int .i64 (D:Int),.int .i64 (K:Int),.int .i64 (L:Int)] 66)).cell? ⟨b,j,none⟩)->W'.cell? ⟨w.heap.size,0,none⟩=some (.int .i64 (W:Int))/\W'.cell? ⟨w.heap.size,1,none⟩=some (.int .i64 (H:Int))/\W'.cell? ⟨w.heap.size,2,none⟩=some (.int .i64 (K:Int))/\W'.cell? ⟨w.heap.size,3,none⟩=some (.int .i64 (D:Int))/\W'.cell? ⟨w.heap.size,4,none⟩=some (.slice pp pal.length pc)/\W'.cell? ⟨w.heap.size,5,none⟩=some (.slice qp clr.length qc)/\W'.cell? ⟨w.heap.size,6,none⟩=some (.slice xp pix.length xc)/\W'.cell? ⟨w.heap.size+1,0,none⟩=some (.int .i64 (L:Int))/\W'.cell? ⟨w.heap.size+1,1,none⟩=some (.slice fp fl.length fc)/\W'.cell? ⟨w.heap.size+1,2,none⟩=some (.slice kp kl.length kc)/\W'.cell? ⟨w.heap.size+1,3,none⟩=some (.int .i64 (P:Int))/\W'.cell? ⟨w.heap.size+1,4,none⟩=some (.slice cp cl.length cc)/\W'.cell? ⟨w.heap.size+1,5,none⟩=some (.int .i64 (V:Int))/\W'.cell? ⟨w.heap.size+1,6,none⟩=some (.int .i64 srch)/\W'.cell? ⟨w.heap.size+1+1,0,none⟩=some (.int .i64 (W:Int))/\W'.cell? ⟨w.heap.size+1+1,1,none⟩=some (.int .i64 (H:Int))/\W'.cell? ⟨w.heap.size+1+1,2,none⟩=some (.int .i64 (D:Int))/\W'.cell? ⟨w.heap.size+1+1,3,none⟩=some (.int .i64 (K:Int))/\W'.cell? ⟨w.heap.size+1+1,4,none⟩=some (.int .i64 (L:Int)):=by
  intro W' hh;have i1:∀ j,W'.cell? ⟨w.heap.size,j,none⟩=#[Value.int .i64 (W:Int),.int .i64 (H:Int),.int .i64 (K:Int),.int .i64 (D:Int),.slice pp pal.length pc,.slice qp clr.length qc,.slice xp pix.length xc][j]? := fun j=>by
   rw[hh _ _ (by omega) (by omega),World.cell?_alloc_lt _ _ _ (by simp;omega),World.cell?_alloc_lt _ _ _ (by simp),World.cell?_alloc_at _ _ _ _ rfl]
  have i2:∀ j,W'.cell? ⟨w.heap.size+1,j,none⟩=#[Value.int .i64 (L:Int),.slice fp fl.length fc,.slice kp kl.length kc,.int .i64 (P:Int),.slice cp cl.length cc,.int .i64 (V:Int),.int .i64 srch][j]? := fun j=>by
   rw[hh _ _ (by omega) (by omega),World.cell?_alloc_lt _ _ _ (by simp),World.cell?_alloc_at _ _ _ _ (by simp)]
  have i3:∀ j,W'.cell? ⟨w.heap.size+1+1,j,none⟩=#[Value.int .i64 (W:Int),.int .i64 (H:Int),.int .i64 (D:Int),.int .i64 (K:Int),.int .i64 (L:Int)][j]? := fun j=>by
   rw[hh _ _ (by omega) (by omega),World.cell?_alloc_at _ _ _ _ (by simp)]
  exact ⟨i1 0,i1 1,i1 2,i1 3,i1 4,i1 5,i1 6,i2 0,i2 1,i2 2,i2 3,i2 4,i2 5,i2 6,i3 0,i3 1,i3 2,i3 3,i3 4⟩
 have FB:=hFB (((w.alloc (Obj.cells #[.int .i64 (W:Int),.int .i64 (H:Int),.int .i64 (K:Int),.int .i64 (D:Int),.slice pp pal.length pc,.slice qp clr.length qc,.slice xp pix.length xc] 29)).alloc (Obj.cells #[.int .i64 (L:Int),.slice fp fl.length fc,.slice kp kl.length kc,.int .i64 (P:Int),.slice cp cl.length cc,.int .i64 (V:Int),.int .i64 srch] 31)).alloc (Obj.cells #[.int .i64 (W:Int),.int .i64 (H:Int),.int .i64 (D:Int),.int .i64 (K:Int),.int .i64 (L:Int)] 66)) hk0;have HC32:Hid (∀ (W':World) (v:Value),LAt W' .i64 v cl->LAt W' .i64 v [32768]):=fun W' v h=>hcl ▸ h
 clear hFB hcl;replace FB:Hid _:=FB;replace hA0:Hid _:=hA0;go_enter Tryz.func24,Tryz.ntmps24;go_wp2_with fail;generalize (((w.alloc (Obj.cells #[.int .i64 (W:Int),.int .i64 (H:Int),.int .i64 (K:Int),.int .i64 (D:Int),.slice pp pal.length pc,.slice qp clr.length qc,.slice xp pix.length xc] 29)).alloc (Obj.cells #[.int .i64 (L:Int),.slice fp fl.length fc,.slice kp kl.length kc,.int .i64 (P:Int),.slice cp cl.length cc,.int .i64 (V:Int),.int .i64 srch] 31)).alloc (Obj.cells #[.int .i64 (W:Int),.int .i64 (H:Int),.int .i64 (D:Int),.int .i64 (K:Int),.int .i64 (L:Int)] 66))=w0 at *;refine Calls.mono FB.out ?_;rintro r w1 ⟨ov,rfl,ho,hk1⟩;obtain ⟨g1,c1,rfl,hc1,hg1⟩:=ho.cap hrl0;have hK1:Kept w w1:=hk0.trans hk1;have FJ:=stream_b g1 0 c1 (.slice kp kl.length kc) (.slice fp fl.length fc) (.slice cp cl.length cc) rl kl (L:Int) srch P V w1 ho.lat ho.1 hc1 (hkk.kept hK1) (by omega) hrl0 hkl0 hkl1 hkl2 hrP hPb hV;replace FJ:Hid _:=FJ;have hs1:=hk1.size;obtain ⟨z0,z1,z2,z3,z4,z5,z6,z7,z8,z9,z10,z11,z12,z13,z14,z15,z16,z17,z18⟩:=hA0.out w1 (fun b j b1 b2=>hk1.cell (p:=⟨b,j,none⟩) (by show b<_;omega));have HSl:Hid ((zStream V rl).length=rl.length+11):=zStream_len V rl;replace hrl0:Hid _:=hrl0;have hrl2:Hid (rl.length<=30000):=hrl1;clear hrl1 hrP hkl2;replace ho:Hid _:=ho;go_wp2_with fail;refine Calls.mono FJ.out ?_;rintro r w2 ⟨ov2,rfl,ho2,hk2⟩;have hszl:0<(zStream V rl).length:=by rw[HSl.out];omega
 have hszu:(zStream V rl).length<=32768:=by rw[HSl.out];have:=hrl2.out;omega
 obtain ⟨g2,c2,rfl,hc2,hg2⟩:=ho2.cap hszl;have hsb:=ho2.1;have hsa:=ho2.lat;clear z0 z1 z2 z3 z4 z5 z6 z7 z8 z9 z10 z11 z12 z13 z14 z15 z16 z17 z18 FJ ho;obtain ⟨sl,hsl⟩:∃ sl,sl=zStream V rl:=⟨_,rfl⟩;rw[<- hsl] at hszl hszu hc2 hsb hsa HFE ho2 ⊢;clear hsl HSl;have hK2:Kept w w2:=hK1.trans hk2;have FBg:Hid (∀ W':World,Calls Tryz.prog 45 #[] W' fun r w'=>∃ g,r = .returned (.agg #[.slice (some ⟨g,0,none⟩) 8 8])/\W'.heap.size<=g/\(∀ j,j<8->w'.cell? ⟨g,j,none⟩=some (.int .u8 (signI.getD j 0)))/\Kept W' w'):=begin_b;go_wp2_with fail;refine (FBg.out _).mono ?_;rintro r w3 ⟨g3,rfl,hg3,hbc,hk3⟩;have hK3:Kept w w3:=hK2.trans hk3;have hK03:Kept w0 w3:=(hk1.trans hk2).trans hk3;have hs3:=hK03.size;have hg3':g3<w3.heap.size:=World.block_lt_of_cell? _ _ (hbc 0 (by omega));have hk4:Kept w3 (w3.alloc (Obj.cells #[.slice (some ⟨g3,0,none⟩) 8 8] 109)):=Below.alloc (Below.refl _ _) (Nat.le_refl _) _;have HF:WrFB (w3.alloc (Obj.cells #[.slice (some ⟨g3,0,none⟩) 8 8] 109)) w3.heap.size (w3.heap.size+1) g3 (S0 w3.heap.size (w3.heap.size+1)):=⟨by omega,by simp,fun k=>World.frozen?_alloc_at _ _ _ _ rfl,Or.inl rfl,fun g hg=>Or.inr (by simp at hg;omega),by rw[World.cell?_alloc_at _ _ _ _ rfl];rfl,by omega,fun j hj=>(hk4.cell (p:=⟨g3,j,none⟩) hg3').trans (hbc j hj)⟩;have FH:=headC_b w3.heap.size (w3.heap.size+1) g3 W H D K L _ HF hI.w2 hI.h2 hI.lg.k6.2 hI.lg.k6.1 hL;obtain ⟨A0,hA00⟩:∃ A0,A0=signI++chB ihdr (hdI W H D K L):=⟨_,rfl⟩;have hA0l:A0.length=33:=by rw[hA00,List.length_append,chB_len];rfl
 rw[<- hA00] at FH HFE;clear hA00;replace FH:Hid _:=FH;obtain ⟨z0,z1,z2,z3,z4,z5,z6,z7,z8,z9,z10,z11,z12,z13,z14,z15,z16,z17,z18⟩:=hA0.out (w3.alloc (Obj.cells #[.slice (some ⟨g3,0,none⟩) 8 8] 109)) (fun b j b1 b2=>((hK03.trans hk4).cell (p:=⟨b,j,none⟩) (by show b<_;omega)));go_wp2_with fail;refine Calls.mono FH.out ?_;rintro r w5 ⟨rfl,hP5⟩;have hK4:Kept w (w3.alloc (Obj.cells #[.slice (some ⟨g3,0,none⟩) 8 8] 109)):=hK3.trans hk4;have hK04:Kept w0 (w3.alloc (Obj.cells #[.slice (some ⟨g3,0,none⟩) 8 8] 109)):=hK03.trans hk4;have hsa4:LAt (w3.alloc (Obj.cells #[.slice (some ⟨g3,0,none⟩) 8 8] 109)) .u8 (.slice (some ⟨g2,0,none⟩) sl.length c2) sl:=(hsa.kept hk3).kept hk4;have hg2x:g2<w3.heap.size:=Nat.lt_of_lt_of_le (hsa.lt hszl g2 rfl) hk3.size;clear z0 z1 z2 z3 z4 z5 z6 z7 z8 z9 z10 z11 z12 z13 z14 z15 z16 z17 z18 FH HF hbc;generalize (w3.alloc (Obj.cells #[.slice (some ⟨g3,0,none⟩) 8 8] 109))=w4 at *;generalize w3.heap.size=x at *;have hs4:=hK04.size;have HA:Hid (∀ (W':World) (m:List Int),PutB x (x+1) m (S0 x (x+1)) w4 W'->W'.cell? ⟨w.heap.size,0,none⟩=some (.int .i64 (W:Int))/\W'.cell? ⟨w.heap.size,1,none⟩=some (.int .i64 (H:Int))/\W'.cell? ⟨w.heap.size,2,none⟩=some (.int .i64 (K:Int))/\W'.cell? ⟨w.heap.size,3,none⟩=some (.int .i64 (D:Int))/\W'.cell? ⟨w.heap.size,4,none⟩=some (.slice pp pal.length pc)/\W'.cell? ⟨w.heap.size,5,none⟩=some (.slice qp clr.length qc)/\W'.cell? ⟨w.heap.size,6,none⟩=some (.slice xp pix.length xc)/\W'.cell? ⟨w.heap.size+1,0,none⟩=some (.int .i64 (L:Int))/\W'.cell? ⟨w.heap.size+1,1,none⟩=some (.slice fp fl.length fc)/\W'.cell? ⟨w.heap.size+1,2,none⟩=some (.slice kp kl.length kc)/\W'.cell? ⟨w.heap.size+1,3,none⟩=some (.int .i64 (P:Int))/\W'.cell? ⟨w.heap.size+1,4,none⟩=some (.slice cp cl.length cc)/\W'.cell? ⟨w.heap.size+1,5,none⟩=some (.int .i64 (V:Int))/\W'.cell? ⟨w.heap.size+1,6,none⟩=some (.int .i64 srch)/\W'.cell? ⟨w.heap.size+1+1,0,none⟩=some (.int .i64 (W:Int))/\W'.cell? ⟨w.heap.size+1+1,1,none⟩=some (.int .i64 (H:Int))/\W'.cell? ⟨w.heap.size+1+1,2,none⟩=some (.int .i64 (D:Int))/\W'.cell? ⟨w.heap.size+1+1,3,none⟩=some (.int .i64 (K:Int))/\W'.cell? ⟨w.heap.size+1+1,4,none⟩=some (.int .i64 (L:Int))):=fun W' m hP=>hA0.out W' (fun b j b1 b2=>(hP.fr.cell (by omega) (by show ¬ (b=x\/x+1<=b);omega)).trans (hK04.cell (p:=⟨b,j,none⟩) (by show b<_;omega)))
 have HLst:Hid (∀ (W':World) (m:List Int) (v:Value) (l:List Int),PutB x (x+1) m (S0 x (x+1)) w4 W'->LAt w .i64 v l->0<l.length->LAt W' .i64 v l):=fun W' m v l hP hl h0=>(hl.kept hK4).fr hP.fr (fun g hg=>by have:=hl.lt h0 g hg;show ¬ (g=x\/x+1<=g);have:=hk0.size;omega)
 have FD:Hid (∀ (W':World) (m:List Int),PutB x (x+1) m (S0 x (x+1)) w4 W'->0<m.length->m.length<=1000000->Calls Tryz.prog 51 #[.pointer (some ⟨x,0,none⟩),.slice (some ⟨g2,0,none⟩) sl.length c2,.slice cp cl.length cc] W' fun r w'=>r = .returned (.tuple #[])/\PutB x (x+1) (m++chB idat sl) (S0 x (x+1)) W' w'):=by
  intro W' m hP h0 h1;exact wdata_b x (x+1) g2 0 c2 m (S0 x (x+1)) (.slice cp cl.length cc) sl W' hP.at' h0 h1 (hsa4.fr hP.fr (fun g hg=>by
   have:g2=g:=by injection hg
   show ¬ (g=x\/x+1<=g);omega)) hsb hc2 hszl hszu (by show ¬ (g2=x\/x+1<=g2);omega) (HC32.out _ _ ((hcc.kept hK4).fr hP.fr (fun g hg=>by have:=hcb g hg;show ¬ (g=x\/x+1<=g);have:=hk0.size;omega))) (fun g hg=>by have:=hcb g hg;show ¬ (g=x\/x+1<=g);have:=hk0.size;omega)
 have FE:Hid (∀ (W':World) (m:List Int),PutB x (x+1) m (S0 x (x+1)) w4 W'->0<m.length->m.length<=1000000->Calls Tryz.prog 52 #[.pointer (some ⟨x,0,none⟩)] W' fun r w'=>r = .returned (.tuple #[])/\PutB x (x+1) (m++chB iend []) (S0 x (x+1)) W' w'):=fun W' m hP h0 h1=>endw_b x (x+1) m _ W' hP.at' h0 h1
 have FT:Hid (∀ (W':World) (m:List Int),PutB x (x+1) m (S0 x (x+1)) w4 W'->0<m.length->m.length<=1000000->Calls Tryz.prog 53 #[.pointer (some ⟨x,0,none⟩)] W' fun r w'=>r = .returned (.string (strOfNums m))/\Kept W' w'):=fun W' m hP h0 h1=>text_b x (x+1) m _ W' hP.at' h0 h1
 have hplb:Hid (pal.length<=768):=by
  show _<=_
  by_cases h3:K=3
  ·obtain ⟨n,a,b,c⟩:=hI.pal3 h3
   have hd:D=1\/D=2\/D=4\/D=8:=by have:=hI.lg;unfold legal at this;omega
   have:=pow8_le hd
   omega
  ·rw[hI.palN h3];simp
 have hclb:Hid (clr.length<=65536):=by
  show _<=_
  rcases hI.clr with e | ⟨_,e2,_⟩ | ⟨e1,_,e3,_⟩
  ·rw[e];simp
  ·have:=(@chan_le K).2;omega
  ·have:=hplb.out;omega
 have FSg:Hid (∀ (W':World) (m:List Int),PutB x (x+1) m (S0 x (x+1)) w4 W'->0<pal.length->Calls Tryz.prog 48 #[.slice pp pal.length pc] W' fun r w'=>∃ ov:Value,r = .returned ov/\MadeB W' w' ov pal):=fun W' m hP h0=>singles_b _ pal W' (HLst.out W' m _ pal hP hp h0) (by have:=hplb.out;omega) hI.palB
 have FCl:Hid (∀ (W':World) (m:List Int),PutB x (x+1) m (S0 x (x+1)) w4 W'->0<clr.length->Calls Tryz.prog 50 #[.agg #[.int .i64 (W:Int),.int .i64 (H:Int),.int .i64 (K:Int),.int .i64 (D:Int),.slice pp pal.length pc,.slice qp clr.length qc,.slice xp pix.length xc]] W' fun r w'=>∃ ov:Value,r = .returned ov/\MadeB W' w' ov (if (K:Int)=3 then clr else twoB clr)):=by
  intro W' m hP h0;refine clearOf_b (W:Int) (H:Int) (K:Int) (D:Int) _ _ _ clr W' (HLst.out W' m _ clr hP hq h0) hclb.out ?_ ?_
  ·intro y hy
   rcases hI.clr with e | ⟨_,_,e3⟩ | ⟨_,_,_,e4⟩
   ·rw[e] at hy;simp at hy
   ·have h1:=e3 y hy
    have h2:=pow_le hI.lg.d;omega
   ·have:=e4 y hy;omega
  ·intro h3 y hy
   rcases hI.clr with e | ⟨h4,_,_⟩ | ⟨_,_,_,e4⟩
   ·rw[e] at hy;simp at hy
   ·omega
   ·exact e4 y hy
 have HKx:Hid (∀ (W':World) (m:List Int),PutB x (x+1) m (S0 x (x+1)) w4 W'->Kept w W'):=fun W' m hP=>Fr.to_kept hK4 hP.fr (fun i hi=>by show ¬ (i=x\/x+1<=i);have:=hk0.size;omega)
 have HCI:Hid ((chB idat sl).length<=40000):=by show (chB idat sl).length<=40000;rw[chB_len];omega
 clear hA0 FB hp hq hkk hcc hcb hsa hsa4 hsb ho2 hK1 hK2 hK3 hK4 hK03 hK04 hk1 hk2 hk3 hk4 FBg hI hc2;obtain ⟨z0,z1,z2,z3,z4,z5,z6,z7,z8,z9,z10,z11,z12,z13,z14,z15,z16,z17,z18⟩:=HA.out w5 A0 hP5;replace hP5:Hid (PutB x (x+1) A0 (S0 x (x+1)) w4 w5):=hP5;rcases Nat.eq_zero_or_pos pal.length with hp0 | hp0
 ·have hp0':(pal.length:Int)=0:=by omega
  have HPL:Hid (palB pal=[]):=by show palB pal=[];unfold palB;rw[if_pos hp0]
  rcases Nat.eq_zero_or_pos clr.length with hc0 | hc0
  ·have hc0':(clr.length:Int)=0:=by omega
   have HCL:Hid (clrB K clr=[]):=by show clrB K clr=[];unfold clrB;rw[if_pos hc0]
   have HM1:Hid (0<(A0).length/\(A0).length<=300000):=by show 0<A0.length/\A0.length<=300000;omega
   obtain ⟨M1,hM1⟩:∃ M1,M1=A0++chB idat sl:=⟨_,rfl⟩;have HMd:Hid (0<M1.length/\M1.length<=400000):=by
    show 0<M1.length/\M1.length<=400000
    rw[hM1,List.length_append];have:=HM1.out;have:=HCI.out;omega
   obtain ⟨M2,hM2⟩:∃ M2,M2=M1++chB iend []:=⟨_,rfl⟩;have HMe:Hid (0<M2.length/\M2.length<=500000):=by
    show 0<M2.length/\M2.length<=500000
    rw[hM2,List.length_append,chB_len];have:=HMd.out;simp;omega
   have HFF:Hid (M2=FF):=by show M2=FF;rw[hM2,hM1,HFE.out,HPL.out,HCL.out];try (first | rfl | simp only [List.append_nil,List.append_assoc])
   have F9:=FD.out w5 (A0) hP5.out HM1.out.1 (by have:=HM1.out.2;omega);rw[<- hM1] at F9;replace F9:Hid _:=F9;have F10:Hid (∀ W',PutB x (x+1) M1 (S0 x (x+1)) w4 W'->Calls Tryz.prog 52 #[.pointer (some ⟨x,0,none⟩)] W' fun r w'=>r = .returned (.tuple #[])/\PutB x (x+1) M2 (S0 x (x+1)) W' w'):=fun W' hP=>by rw[hM2];exact FE.out W' M1 hP HMd.out.1 (by have:=HMd.out.2;omega)
   replace hM1:Hid _:=hM1;replace hM2:Hid _:=hM2;go_wp2_with fail;refine Calls.mono F9.out ?_;rintro r w9 ⟨rfl,hw9⟩;clear z0 z1 z2 z3 z4 z5 z6 z7 z8 z9 z10 z11 z12 z13 z14 z15 z16 z17 z18;have P9:Hid (PutB x (x+1) M1 (S0 x (x+1)) w4 w9):=hP5.out.trans hw9;clear hw9;go_wp2_with fail;refine (F10.out w9 P9.out).mono ?_;rintro r w10 ⟨rfl,hw10⟩;have P10:Hid (PutB x (x+1) M2 (S0 x (x+1)) w4 w10):=P9.out.trans hw10;clear hw10;go_wp2_with fail;refine (FT.out w10 _ P10.out HMe.out.1 (by have:=HMe.out.2;omega)).mono ?_;rintro r w11 ⟨rfl,hk11⟩;have HK:Hid (Kept w w11):=(HKx.out w10 _ P10.out).trans hk11;clear hk11;rw[HFF.out];go_wp2;go_ret;exact ⟨rfl,HK.out⟩
  ·have hc0':(0:Int)<(clr.length:Int):=by omega
   have FX:=FCl.out w5 _ hP5.out (by omega);obtain ⟨CL,hCL⟩:∃ CL:List Int,CL=(if (K:Int)=3 then clr else twoB clr):=⟨_,rfl⟩;rw[<- hCL] at FX;have hCLb:Hid (0<CL.length/\CL.length<=131072):=by
    show 0<CL.length/\CL.length<=131072
    have:=hclb.out
    rw[hCL];split
    ·omega
    ·rw[twoB_len];omega
   have HCL:Hid (clrB K clr=chB trns CL):=by show clrB K clr=chB trns CL;unfold clrB;rw[if_neg (show ¬ clr.length=0 by omega),<- hCL]
   replace FX:Hid _:=FX;clear hCL;rw[hp0] at FX;go_wp2_with fail;refine Calls.mono FX.out ?_;rintro r w7 ⟨ov,rfl,⟨hLb,hLa,hnn,hnew,hk7⟩⟩;obtain ⟨d,o,c',rfl,hcell⟩:=hLa.addr hCLb.out.1;have hd7:d<w7.heap.size:=World.block_lt_of_cell? _ _ (hcell 0 hCLb.out.1);have FY:=clrw_b x (x+1) (A0) (S1 x (x+1) d) _ CL w7 (WrY.apart hP5.out.at' hk7 (hnew d rfl) hd7) (by omega) hLa hLb hnn (fun g hg e=>e.2 (by injection hg with hg;exact hg.symm)) (by omega) (by have:=hCLb.out;omega);replace FY:Hid _:=FY;replace hk7:Hid _:=hk7;clear hcell hLa hnn hnew hLb;go_wp2_with fail;refine Calls.mono FY.out ?_;rintro r w8 ⟨rfl,hw8⟩;have P8:Hid (PutB x (x+1) (A0++chB trns CL) (S0 x (x+1)) w4 w8):=PutB.step hP5.out hk7.out hw8;clear hw8 z0 z1 z2 z3 z4 z5 z6 z7 z8 z9 z10 z11 z12 z13 z14 z15 z16 z17 z18;obtain ⟨z0,z1,z2,z3,z4,z5,z6,z7,z8,z9,z10,z11,z12,z13,z14,z15,z16,z17,z18⟩:=HA.out w8 _ P8.out;have HM1:Hid (0<(A0++chB trns CL).length/\(A0++chB trns CL).length<=300000):=by show 0<(A0++chB trns CL).length/\(A0++chB trns CL).length<=300000;rw[List.length_append,chB_len];have:=hCLb.out;omega
   obtain ⟨M1,hM1⟩:∃ M1,M1=A0++chB trns CL++chB idat sl:=⟨_,rfl⟩;have HMd:Hid (0<M1.length/\M1.length<=400000):=by
    show 0<M1.length/\M1.length<=400000
    rw[hM1,List.length_append];have:=HM1.out;have:=HCI.out;omega
   obtain ⟨M2,hM2⟩:∃ M2,M2=M1++chB iend []:=⟨_,rfl⟩;have HMe:Hid (0<M2.length/\M2.length<=500000):=by
    show 0<M2.length/\M2.length<=500000
    rw[hM2,List.length_append,chB_len];have:=HMd.out;simp;omega
   have HFF:Hid (M2=FF):=by show M2=FF;rw[hM2,hM1,HFE.out,HPL.out,HCL.out];try (first | rfl | simp only [List.append_nil,List.append_assoc])
   have F9:=FD.out w8 (A0++chB trns CL) P8.out HM1.out.1 (by have:=HM1.out.2;omega);rw[<- hM1] at F9;replace F9:Hid _:=F9;have F10:Hid (∀ W',PutB x (x+1) M1 (S0 x (x+1)) w4 W'->Calls Tryz.prog 52 #[.pointer (some ⟨x,0,none⟩)] W' fun r w'=>r = .returned (.tuple #[])/\PutB x (x+1) M2 (S0 x (x+1)) W' w'):=fun W' hP=>by rw[hM2];exact FE.out W' M1 hP HMd.out.1 (by have:=HMd.out.2;omega)
   replace hM1:Hid _:=hM1;replace hM2:Hid _:=hM2;go_wp2_with fail;refine Calls.mono F9.out ?_;rintro r w9 ⟨rfl,hw9⟩;clear z0 z1 z2 z3 z4 z5 z6 z7 z8 z9 z10 z11 z12 z13 z14 z15 z16 z17 z18;have P9:Hid (PutB x (x+1) M1 (S0 x (x+1)) w4 w9):=P8.out.trans hw9;clear hw9;go_wp2_with fail;refine (F10.out w9 P9.out).mono ?_;rintro r w10 ⟨rfl,hw10⟩;have P10:Hid (PutB x (x+1) M2 (S0 x (x+1)) w4 w10):=P9.out.trans hw10;clear hw10;go_wp2_with fail;refine (FT.out w10 _ P10.out HMe.out.1 (by have:=HMe.out.2;omega)).mono ?_;rintro r w11 ⟨rfl,hk11⟩;have HK:Hid (Kept w w11):=(HKx.out w10 _ P10.out).trans hk11;clear hk11;rw[HFF.out];go_wp2;go_ret;exact ⟨rfl,HK.out⟩
 ·have hp0':(0:Int)<(pal.length:Int):=by omega
  have HPL:Hid (palB pal=chB plte pal):=by show palB pal=chB plte pal;unfold palB;rw[if_neg (by omega)]
  have FX:=FSg.out w5 A0 hP5.out hp0;replace FX:Hid _:=FX;have hplb':=hplb.out;go_wp2_with fail;refine Calls.mono FX.out ?_;rintro r w6 ⟨ov,rfl,⟨hLb,hLa,hnn,hnew,hk6⟩⟩;obtain ⟨d,o,c',rfl,hcell⟩:=hLa.addr (by omega);have hd6:d<w6.heap.size:=World.block_lt_of_cell? _ _ (hcell 0 (by omega));have FY:=palw_b x (x+1) A0 (S1 x (x+1) d) _ pal w6 (WrY.apart hP5.out.at' hk6 (hnew d rfl) hd6) (by omega) hLa hLb hnn (fun g hg e=>e.2 (by injection hg with hg;exact hg.symm)) (by omega) (by omega);replace FY:Hid _:=FY;replace hk6:Hid _:=hk6;clear hcell hLa hnn hnew hLb;go_wp2_with fail;refine Calls.mono FY.out ?_;rintro r w6b ⟨rfl,hw6⟩;have P6:Hid (PutB x (x+1) (A0++chB plte pal) (S0 x (x+1)) w4 w6b):=PutB.step hP5.out hk6.out hw6;have hA6:Hid (0<(A0++chB plte pal).length/\(A0++chB plte pal).length<=1000):=by show 0<(A0++chB plte pal).length/\(A0++chB plte pal).length<=1000;rw[List.length_append,chB_len];omega
  obtain ⟨A1,hA1⟩:∃ A1,A1=A0++chB plte pal:=⟨_,rfl⟩;replace HPL:Hid (A0++palB pal=A1):=by show A0++palB pal=A1;rw[HPL.out,hA1]
  rw[<- hA1] at P6 hA6;clear hA1;clear hw6 z0 z1 z2 z3 z4 z5 z6 z7 z8 z9 z10 z11 z12 z13 z14 z15 z16 z17 z18;obtain ⟨z0,z1,z2,z3,z4,z5,z6,z7,z8,z9,z10,z11,z12,z13,z14,z15,z16,z17,z18⟩:=HA.out w6b _ P6.out;rcases Nat.eq_zero_or_pos clr.length with hc0 | hc0
  ·have hc0':(clr.length:Int)=0:=by omega
   have HCL:Hid (clrB K clr=[]):=by show clrB K clr=[];unfold clrB;rw[if_pos hc0]
   have HM1:Hid (0<(A1).length/\(A1).length<=300000):=by have:=hA6.out;show 0<A1.length/\A1.length<=300000;omega
   obtain ⟨M1,hM1⟩:∃ M1,M1=A1++chB idat sl:=⟨_,rfl⟩;have HMd:Hid (0<M1.length/\M1.length<=400000):=by
    show 0<M1.length/\M1.length<=400000
    rw[hM1,List.length_append];have:=HM1.out;have:=HCI.out;omega
   obtain ⟨M2,hM2⟩:∃ M2,M2=M1++chB iend []:=⟨_,rfl⟩;have HMe:Hid (0<M2.length/\M2.length<=500000):=by
    show 0<M2.length/\M2.length<=500000
    rw[hM2,List.length_append,chB_len];have:=HMd.out;simp;omega
   have HFF:Hid (M2=FF):=by show M2=FF;rw[hM2,hM1,HFE.out,HPL.out,HCL.out];try (first | rfl | simp only [List.append_nil,List.append_assoc])
   have F9:=FD.out w6b (A1) P6.out HM1.out.1 (by have:=HM1.out.2;omega);rw[<- hM1] at F9;replace F9:Hid _:=F9;have F10:Hid (∀ W',PutB x (x+1) M1 (S0 x (x+1)) w4 W'->Calls Tryz.prog 52 #[.pointer (some ⟨x,0,none⟩)] W' fun r w'=>r = .returned (.tuple #[])/\PutB x (x+1) M2 (S0 x (x+1)) W' w'):=fun W' hP=>by rw[hM2];exact FE.out W' M1 hP HMd.out.1 (by have:=HMd.out.2;omega)
   replace hM1:Hid _:=hM1;replace hM2:Hid _:=hM2;go_wp2_with fail;refine Calls.mono F9.out ?_;rintro r w9 ⟨rfl,hw9⟩;clear z0 z1 z2 z3 z4 z5 z6 z7 z8 z9 z10 z11 z12 z13 z14 z15 z16 z17 z18;have P9:Hid (PutB x (x+1) M1 (S0 x (x+1)) w4 w9):=P6.out.trans hw9;clear hw9;go_wp2_with fail;refine (F10.out w9 P9.out).mono ?_;rintro r w10 ⟨rfl,hw10⟩;have P10:Hid (PutB x (x+1) M2 (S0 x (x+1)) w4 w10):=P9.out.trans hw10;clear hw10;go_wp2_with fail;refine (FT.out w10 _ P10.out HMe.out.1 (by have:=HMe.out.2;omega)).mono ?_;rintro r w11 ⟨rfl,hk11⟩;have HK:Hid (Kept w w11):=(HKx.out w10 _ P10.out).trans hk11;clear hk11;rw[HFF.out];go_wp2;go_ret;exact ⟨rfl,HK.out⟩
  ·have hc0':(0:Int)<(clr.length:Int):=by omega
   have FX:=FCl.out w6b _ P6.out (by omega);obtain ⟨CL,hCL⟩:∃ CL:List Int,CL=(if (K:Int)=3 then clr else twoB clr):=⟨_,rfl⟩;rw[<- hCL] at FX;have hCLb:Hid (0<CL.length/\CL.length<=131072):=by
    show 0<CL.length/\CL.length<=131072
    have:=hclb.out
    rw[hCL];split
    ·omega
    ·rw[twoB_len];omega
   have HCL:Hid (clrB K clr=chB trns CL):=by show clrB K clr=chB trns CL;unfold clrB;rw[if_neg (show ¬ clr.length=0 by omega),<- hCL]
   replace FX:Hid _:=FX;clear hCL;go_wp2_with fail;refine Calls.mono FX.out ?_;rintro r w7 ⟨ov,rfl,⟨hLb,hLa,hnn,hnew,hk7⟩⟩;obtain ⟨d,o,c',rfl,hcell⟩:=hLa.addr hCLb.out.1;have hd7:d<w7.heap.size:=World.block_lt_of_cell? _ _ (hcell 0 hCLb.out.1);have FY:=clrw_b x (x+1) (A1) (S1 x (x+1) d) _ CL w7 (WrY.apart P6.out.at' hk7 (hnew d rfl) hd7) hA6.out.1 hLa hLb hnn (fun g hg e=>e.2 (by injection hg with hg;exact hg.symm)) (by have:=hA6.out.2;omega) (by have:=hCLb.out;omega);replace FY:Hid _:=FY;replace hk7:Hid _:=hk7;clear hcell hLa hnn hnew hLb;go_wp2_with fail;refine Calls.mono FY.out ?_;rintro r w8 ⟨rfl,hw8⟩;have P8:Hid (PutB x (x+1) (A1++chB trns CL) (S0 x (x+1)) w4 w8):=PutB.step P6.out hk7.out hw8;clear hw8 z0 z1 z2 z3 z4 z5 z6 z7 z8 z9 z10 z11 z12 z13 z14 z15 z16 z17 z18;obtain ⟨z0,z1,z2,z3,z4,z5,z6,z7,z8,z9,z10,z11,z12,z13,z14,z15,z16,z17,z18⟩:=HA.out w8 _ P8.out;have HM1:Hid (0<(A1++chB trns CL).length/\(A1++chB trns CL).length<=300000):=by show 0<(A1++chB trns CL).length/\(A1++chB trns CL).length<=300000;rw[List.length_append,chB_len];have:=hCLb.out;have:=hA6.out;omega
   obtain ⟨M1,hM1⟩:∃ M1,M1=A1++chB trns CL++chB idat sl:=⟨_,rfl⟩;have HMd:Hid (0<M1.length/\M1.length<=400000):=by
    show 0<M1.length/\M1.length<=400000
    rw[hM1,List.length_append];have:=HM1.out;have:=HCI.out;omega
   obtain ⟨M2,hM2⟩:∃ M2,M2=M1++chB iend []:=⟨_,rfl⟩;have HMe:Hid (0<M2.length/\M2.length<=500000):=by
    show 0<M2.length/\M2.length<=500000
    rw[hM2,List.length_append,chB_len];have:=HMd.out;simp;omega
   have HFF:Hid (M2=FF):=by show M2=FF;rw[hM2,hM1,HFE.out,HPL.out,HCL.out];try (first | rfl | simp only [List.append_nil,List.append_assoc])
   have F9:=FD.out w8 (A1++chB trns CL) P8.out HM1.out.1 (by have:=HM1.out.2;omega);rw[<- hM1] at F9;replace F9:Hid _:=F9;have F10:Hid (∀ W',PutB x (x+1) M1 (S0 x (x+1)) w4 W'->Calls Tryz.prog 52 #[.pointer (some ⟨x,0,none⟩)] W' fun r w'=>r = .returned (.tuple #[])/\PutB x (x+1) M2 (S0 x (x+1)) W' w'):=fun W' hP=>by rw[hM2];exact FE.out W' M1 hP HMd.out.1 (by have:=HMd.out.2;omega)
   replace hM1:Hid _:=hM1;replace hM2:Hid _:=hM2;go_wp2_with fail;refine Calls.mono F9.out ?_;rintro r w9 ⟨rfl,hw9⟩;clear z0 z1 z2 z3 z4 z5 z6 z7 z8 z9 z10 z11 z12 z13 z14 z15 z16 z17 z18;have P9:Hid (PutB x (x+1) M1 (S0 x (x+1)) w4 w9):=P8.out.trans hw9;clear hw9;go_wp2_with fail;refine (F10.out w9 P9.out).mono ?_;rintro r w10 ⟨rfl,hw10⟩;have P10:Hid (PutB x (x+1) M2 (S0 x (x+1)) w4 w10):=P9.out.trans hw10;clear hw10;go_wp2_with fail;refine (FT.out w10 _ P10.out HMe.out.1 (by have:=HMe.out.2;omega)).mono ?_;rintro r w11 ⟨rfl,hk11⟩;have HK:Hid (Kept w w11):=(HKx.out w10 _ P10.out).trans hk11;clear hk11;rw[HFF.out];go_wp2;go_ret;exact ⟨rfl,HK.out⟩
