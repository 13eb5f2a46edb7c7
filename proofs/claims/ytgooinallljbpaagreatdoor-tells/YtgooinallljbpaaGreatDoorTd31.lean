import Derived.Test.YtgooinallljbpaaGreatDoorTd29
import Derived.Test.YtgooinallljbpaaGreatDoorTd30
import Derived.Test.YtgooinallljbpaaGreatDoorTd24
set_option maxRecDepth 100000
set_option maxHeartbeats 6400000
namespace Go.Proofs.YtgooinallljbpaaGreatDoor
open Go.RowKit Px
set_option linter.unusedSimpArgs false
set_option linter.unusedVariables false
def ChP (w w':World) (b:Nat) (f:Fl) (l:List Nat) (i:Nat) (r:Ending):Prop:=∃ dn F' pv' cv' zv' iv',(f.ov (sA l)=true->uT f.z dn)/\r = .returned (.tuple #[.int .i64 ((i+(f.chunk l i dn).took:Nat):Int),.bool (decide ((f.chunk l i dn).took≠0))])/\ar w' b F' (f.chunk l i dn).err (if (f.chunk l i dn).err=0 then 0 else i+(f.chunk l i dn).at') pv' cv' zv' iv'/\fw (f.chunk l i dn).f F'/\((f.chunk l i dn).took≠0->F'=(f.chunk l i dn).f)/\Below b w w'
theorem CF (t:ByteArray) (f1:Fl) (k i n:Nat) (hi:i+8<=t.size):Fl.body f1 k n (((af t).drop i).take 8) (((af t).drop i).drop 8) (i+8)=lE (f1.data k (seg t (i+8) n) (i+8)) k n (seg t (i+8) n) (decide (t.size<i+8+n+4)) (decide (bL (bE au (seg t (i+4) (4+n)))≠dj (seg t (i+8+n) 4))):=by
 have hl:(((af t).drop i).drop 8).length=t.size - (i+8):=by rw[List.drop_drop,List.length_drop,aw]
 unfold Fl.body lE;rw[Az];by_cases c:t.size<i+8+n+4
 ·rw[if_pos (by rw[hl];omega),if_pos (decide_eq_true c)]
 have hc:¬ (decide (t.size<i+8+n+4)=true):=by rw[decide_eq_false c];decide
 have e1:(((af t).drop i).take 8).drop 4++seg t (i+8) n=seg t (i+4) (4+n):=by
  rw[<- JB t i n (by omega),Az]
 have e2:n4 ((((af t).drop i).drop 8).getD n 0) ((((af t).drop i).drop 8).getD (n+1) 0) ((((af t).drop i).drop 8).getD (n+2) 0) ((((af t).drop i).drop 8).getD (n+3) 0)=dj (seg t (i+8+n) 4):=by
  rw[List.drop_drop,cD,cD,cD,cD];exact ya t (i+8+n) (by omega)
 rw[e1,e2,if_neg (show ¬ (((af t).drop i).drop 8).length<n+4 by rw[hl];omega),if_neg hc];by_cases d:bL (bE au (seg t (i+4) (4+n)))≠dj (seg t (i+8+n) 4)
 ·rw[if_pos d,if_pos (decide_eq_true d)]
 ·have hd:¬ (decide (bL (bE au (seg t (i+4) (4+n)))≠dj (seg t (i+8+n) 4))=true):=by rw[decide_eq_false d];decide
  rw[if_neg d,if_neg hd]
theorem Fo (b:Nat) (t:ByteArray) (i:Nat) (w:World) (h:t.size<i+4) (hs:t.size<=1048576) (hi:i<=1048576) :
  Calls Tryz.prog 58 #[.pointer (some ⟨b,0,none⟩),.string t,.int .i64 (i:Int)] w fun r w'=>r = .returned (.tuple #[.int .i64 (i:Int),.bool false])/\w'=w:=by
 go_enter Tryz.func58,Tryz.ntmps58;go_wp2;go_ret2;exact ⟨rfl,rfl⟩
theorem Fp (b:Nat) (f:Fl) (pv cv zv iv:Value) (t:ByteArray) (i n:Nat) (w:World) (h:ar w b f 0 0 pv cv zv iv) (h4:i+4<=t.size) (hs:t.size<=1048576)
  (F:Hid (∀ W,Calls Tryz.prog 98 #[.string t,.int .i64 (i:Int),.int .i64 4] W fun r w'=>r = .returned (.int .i64 (n:Int))/\w'=W)) (hn:decide ((2147483648:Int)<=(n:Int))=true) :
  Calls Tryz.prog 58 #[.pointer (some ⟨b,0,none⟩),.string t,.int .i64 (i:Int)] w fun r w'=>r = .returned (.tuple #[.int .i64 (i:Int),.bool false])/\ar w' b f 2 (i+3) pv cv zv iv/\Below b w w':=by
 have e3:Hid (∀ W,ar W b f 0 0 pv cv zv iv->Calls Tryz.prog 57 #[.pointer (some ⟨b,0,none⟩),.int .i64 2,.int .i64 ((i:Int)+3)] W fun r w'=>r = .returned (.bool false)/\ar w' b f 2 (i+3) pv cv zv iv/\Fr1 b W w'):=fun W hW=>lN b f 0 0 2 (i+3) pv cv zv iv W hW
 have hb:=h.lt;go_enter Tryz.func58,Tryz.ntmps58;go_wp2_with fail;refine (F.out _).mono ?_;rintro r w' ⟨rfl,hw⟩;subst w';go_wp2_with fail;refine (e3.out _ h).mono ?_;rintro r w1 ⟨rfl,h1,hw1⟩;go_wp2;go_ret2;exact ⟨rfl,h1,⟨hw1.os,hw1.tape,hw1.output,hw1.size,fun j hj=>hw1.block j (by omega) (by omega)⟩⟩
theorem Fm (b:Nat) (t:ByteArray) (i n:Nat) (w:World) (h4:i+4<=t.size) (h8:t.size<i+8) (hs:t.size<=1048576)
  (F:Hid (∀ W,Calls Tryz.prog 98 #[.string t,.int .i64 (i:Int),.int .i64 4] W fun r w'=>r = .returned (.int .i64 (n:Int))/\w'=W)) (hn:decide ((2147483648:Int)<=(n:Int))=false) :
  Calls Tryz.prog 58 #[.pointer (some ⟨b,0,none⟩),.string t,.int .i64 (i:Int)] w fun r w'=>r = .returned (.tuple #[.int .i64 (i:Int),.bool false])/\w'=w:=by
 go_enter Tryz.func58,Tryz.ntmps58;go_wp2_with fail;refine (F.out _).mono ?_;rintro r w' ⟨rfl,hw⟩;subst w';go_wp2;go_ret2;exact ⟨rfl,rfl⟩
theorem Fk (b:Nat) (f:Fl) (pv cv zv iv:Value) (t:ByteArray) (i n:Nat) (w:World) (h:ar w b f 0 0 pv cv zv iv) (ho:FOk f) (hbd:FBd i f) (h8:i+8<=t.size) (hs:t.size<=1048576)
  (F:Hid (∀ W,Calls Tryz.prog 98 #[.string t,.int .i64 (i:Int),.int .i64 4] W fun r w'=>r = .returned (.int .i64 (n:Int))/\w'=W)) (hnn:n<2147483648) (hch:Hid (∀ dn,f.chunk ((af t).drop i) i dn=if f.begE (ty (t.extract (i+4) (i+8))) n dn≠0 then ⟨f,f.begE (ty (t.extract (i+4) (i+8))) n dn,7,0⟩ else Fl.body (f.begF (ty (t.extract (i+4) (i+8)))) (ty (t.extract (i+4) (i+8))) n (((af t).drop i).take 8) (((af t).drop i).drop 8) (i+8))) (hty:Hid (ty (t.extract (i+4) (i+8))=sA ((af t).drop i))) :
  Calls Tryz.prog 58 #[.pointer (some ⟨b,0,none⟩),.string t,.int .i64 (i:Int)] w fun r w'=>ChP w w' b f ((af t).drop i) i r:=by
 obtain ⟨kd,hkd⟩:∃ kd,kd=t.extract (i+4) (i+8):=⟨_,rfl⟩;have hks:kd.size=4:=by rw[hkd,size_extract t _ _ (by omega) h8];omega
 rw[<- hkd] at hch hty;have hnd:decide ((2147483648:Int)<=(n:Int))=false:=decide_eq_false (by omega);have G:Hid (Calls Tryz.prog 99 #[.pointer (some ⟨b,0,none⟩),.string kd,.int .i64 (n:Int)] w fun r w'=>yT w w' b f 0 0 pv cv zv iv (ty kd) n r):=CJ b f 0 0 i pv cv zv iv kd n w h hks hnn ho hbd (by omega);have HKE:Hid (t.extract (i+4) (i+8)=kd):=hkd.symm;have t4:=xJ kd hks;have HBD:Hid (FBd i f):=hbd;have HO:Hid (FOk f):=ho;have hblt:=h.lt;have hext:t.extract (i+4) (i+8)=kd:=hkd.symm;clear h ho hbd hkd;go_enter Tryz.func58,Tryz.ntmps58;go_wp2_with fail;refine (F.out _).mono ?_;rintro r w' ⟨rfl,hw⟩;subst w';go_wp2_with fail;rw[hext];clear hext;refine G.out.mono ?_;rintro r w1 ⟨dn,g,hrd,rfl,hX,hsf,hg,hB⟩;have HRD:Hid (f.ov (sA ((af t).drop i))=true->uT f.z dn):=by rw[<- hty.out];exact hrd
 have HX:Hid (ar w1 b g 0 0 pv cv zv iv):=hX;have HB:Hid (Below b w w1):=hB;have HSF:Hid (fw f g):=hsf;have hb1:=hX.lt;obtain ⟨V,hV⟩:∃ V,V=f.begE (ty kd) n dn:=⟨_,rfl⟩;have hcd:=hch.out dn;rw[<- hV] at hg hcd ⊢;have HG:Hid (V=0->g=f.begF (ty kd)):=hg;have HV:Hid _:=hV;clear hrd hX hsf hg hB hV hch;by_cases v0:V=0
 ·rw[if_neg (fun q=>q v0),CF t _ _ i n h8] at hcd
  have hgf:=HG.out v0;have cv0:((V:Int) != 0)=false:=by rw[bne_eq_false_iff_eq];omega
  obtain ⟨E,hE⟩:∃ E,E=i+8+n:=⟨_,rfl⟩;have hEi:(i:Int)+8+(n:Int)=(E:Int):=by omega
  rw[<- hgf,<- hE] at hcd;have HCD:Hid _:=hcd;have HE:Hid (E=i+8+n):=hE;have hE8:i+8<=E:=by omega
  have hEb:E<=4294967296:=by omega
  have hgd:FBd i g:=HBD.out.same HSF.out;have HGD:Hid (FBd i g):=hgd;have F2:Hid (E+4<=t.size->Hid (∀ W,Calls Tryz.prog 100 #[.string (t.extract (i+4) E)] W fun r w'=>r = .returned (.int .i64 ((bL (bE au (seg t (i+4) (4+n))):Nat):Int))/\w'=W)):=fun q W=>by
   have:=IE (t.extract (i+4) E) W (by rw[size_extract t _ _ (by omega) (by omega)];omega)
   rw[qc,show E - (i+4)=4+n by omega] at this;exact this
  have F3:Hid (E+4<=t.size->Hid (∀ W,Calls Tryz.prog 98 #[.string t,.int .i64 (E:Int),.int .i64 4] W fun r w'=>r = .returned (.int .i64 ((dj (seg t E 4):Nat):Int))/\w'=W)):=fun q W=>qJ t E 4 W (by omega) (by omega) hs
  have he0:f.begE (ty kd) n dn=0:=HV.out.symm.trans v0;have G2:Hid (∀ f2:Fl,f2.hd=f.hd->E+4<=t.size->∀ zv iv pv cv,Hid (∀ W,ar W b f2 0 0 pv cv zv iv->Calls Tryz.prog 101 #[.pointer (some ⟨b,0,none⟩),.string kd,.string (t.extract (i+8) E)] W fun r w'=>∃ pv' cv',r = .returned (.int .i64 ((f2.ends (ty kd) (seg t (i+8) n)).2:Int))/\ar w' b (f2.ends (ty kd) (seg t (i+8) n)).1 0 0 pv' cv' zv iv/\Below b W w')):=fun f2 hf2 q zv iv pv cv W hW=>by
   have hsz:(t.extract (i+8) E).size=n:=by rw[size_extract t _ _ (by omega) (by omega)];omega
   have:=Ir b f2 0 0 pv cv zv iv kd (t.extract (i+8) E) W hW hks (by rw[hsz];omega) (fun e=>by rw[hsz];rw[e] at he0;exact (wI he0).2) (fun e hK=>by
    rw[e] at he0;have hfi:=iH (by decide) he0;have hh:=(HO.out.on hfi).2;have hD16:f.hd.D<=16:=by have:=hh.D;unfold okD at this;omega
    rw[hf2] at hK ⊢;rcases (AV hfi hh.K (wH hfi he0)).2 with q | ⟨_,q⟩ | ⟨_,q⟩
    ·exact absurd q hK
    ·exact ⟨by rw[hsz,q],hD16⟩
    ·exact ⟨by rw[hsz,q],hD16⟩)
   rw[qc,show E - (i+8)=n by omega] at this;exact this
  have FIN:Hid (∀ (W2:World) (pv cv zv iv:Value),Below b w1 W2->ar W2 b (g.data (ty kd) (seg t (i+8) n) (i+8)) 0 0 pv cv zv iv->Hid (∀ W' pv' cv',ar W' b (lE (g.data (ty kd) (seg t (i+8) n) (i+8)) (ty kd) n (seg t (i+8) n) (decide (t.size<E+4)) (decide (bL (bE au (seg t (i+4) (4+n)))≠dj (seg t E 4)))).f (lE (g.data (ty kd) (seg t (i+8) n) (i+8)) (ty kd) n (seg t (i+8) n) (decide (t.size<E+4)) (decide (bL (bE au (seg t (i+4) (4+n)))≠dj (seg t E 4)))).err (if (lE (g.data (ty kd) (seg t (i+8) n) (i+8)) (ty kd) n (seg t (i+8) n) (decide (t.size<E+4)) (decide (bL (bE au (seg t (i+4) (4+n)))≠dj (seg t E 4)))).err=0 then 0 else i+(lE (g.data (ty kd) (seg t (i+8) n) (i+8)) (ty kd) n (seg t (i+8) n) (decide (t.size<E+4)) (decide (bL (bE au (seg t (i+4) (4+n)))≠dj (seg t E 4)))).at') pv' cv' zv iv->Below b W2 W'->ChP w W' b f ((af t).drop i) i (.returned (.tuple #[.int .i64 ((i+(lE (g.data (ty kd) (seg t (i+8) n) (i+8)) (ty kd) n (seg t (i+8) n) (decide (t.size<E+4)) (decide (bL (bE au (seg t (i+4) (4+n)))≠dj (seg t E 4)))).took:Nat):Int),.bool (decide ((lE (g.data (ty kd) (seg t (i+8) n) (i+8)) (ty kd) n (seg t (i+8) n) (decide (t.size<E+4)) (decide (bL (bE au (seg t (i+4) (4+n)))≠dj (seg t E 4)))).took≠0))])))):=fun W2 pv cv zv iv k2 hx2 W' pv' cv' hx' k'=>by
   refine ⟨dn,(lE (g.data (ty kd) (seg t (i+8) n) (i+8)) (ty kd) n (seg t (i+8) n) (decide (t.size<E+4)) (decide (bL (bE au (seg t (i+4) (4+n)))≠dj (seg t E 4)))).f,pv',cv',zv,iv,HRD.out,?_,?_,?_,fun _ => ?_,(HB.out.trans k2).trans k'⟩
   ·rw[HCD.out]
   ·rw[HCD.out];exact hx'
   ·rw[HCD.out];exact fw.refl _
   ·rw[HCD.out]
  have hghd:g.hd=f.hd:=by obtain ⟨o,p,e⟩:=HSF.out;rw[e]
  have HGHD:Hid (g.hd=f.hd):=hghd;clear hcd hgf HV HCD HRD hghd he0 hE hgd HG;obtain ⟨HVV,hHVV0⟩:∃ H,H=min E t.size:=⟨_,rfl⟩;have hHVV:Hid (HVV=min E t.size):=hHVV0;clear hHVV0;go_upto_if 64 with fail
  go_cut [12,64] from 65 to 66 (fun xF v64 W=>xF = .int .i64 (HVV:Int)/\W=w1)
  case first=>
   by_cases c:t.size<E
   ·have ci:(t.size:Int)<(E:Int):=by omega
    have He:Hid (HVV=t.size):=by show HVV=t.size;have:=hHVV.out;omega
    clear hHVV;go_wp2_with fail;go_meet
    case rel=>exact ⟨by rw[He.out],rfl⟩
   ·have ci:¬ (t.size:Int)<(E:Int):=by omega
    have He:Hid (HVV=E):=by show HVV=E;have:=hHVV.out;omega
    clear hHVV;go_wp2_with fail;go_meet
    case rel=>exact ⟨by rw[He.out],rfl⟩
  case rest=>
   obtain ⟨rfl,hw⟩:=hcut;subst wc;have HHV:Hid (HVV=min E t.size):=hHVV.out;clear hHVV;by_cases cd:ty kd=aJ
   ·rw[decide_eq_true cd] at t4
    obtain ⟨xs,hxs⟩:=HX.out.ids;obtain ⟨ia,ic,hiv⟩:=aq hxs;have c11:w1.cell? ⟨b,11,none⟩=some (.slice ia g.ids ic):=by rw[<- hiv];exact HX.out.cell 11 (by omega)
    have hids:g.ids<=1048576:=Nat.le_trans HGD.out.ids (by omega);have hfz:=HX.out.fz;have HOW:Hid (w1.ownsRow (b+1) 3 1 iv g.ids xs):=hxs;have HIV:Hid (iv = .slice ia g.ids ic):=hiv;have HC:Hid (∀ j u,[Value.int .i64 (n:Int)][j]? = some u->(w1.alloc (.cells #[.int .i64 (n:Int)] 3)).cell? (Addr.add ⟨w1.heap.size,0,none⟩ j)=some u):=by
     intro j u hj
     match j,hj with
     | 0,hj=>simp at hj;subst hj;simp [Addr.add]
     | j+1,hj=>simp at hj
    have HCD:Hid (ty kd=aJ):=cd;have hnb:some b≠iv.ownBlock:=fun e=>by have:=(hxs.lt b e.symm).1;omega
    clear hxs hiv cd;go_wp2_with (at_builtin;refine cT _ 30 3 1 8 (.int .i64 0) Tryz.underlying30 rS rfl (by omega) rfl _ _ rfl (b+1) iv g.ids xs (by rw[HIV.out];rfl) (HOW.out.alloc _) ⟨w1.heap.size,0,none⟩ 1 1 [.int .i64 (n:Int)] rfl rfl (by omega) HC.out (by intro u hu;simp at hu;subst hu;rfl) (by unfold maxLen;omega) (by omega) (by simp;omega) ?_)
    intro v2 w2 ho2 hg2 hn2;obtain ⟨p2,c2,hv2⟩:=aq ho2;have hF2:Fr (fun x=>iv.ownBlock=some x) w1 w2:=((Fr.refl _ w1).alloc _).grown hg2 (fun k hk=>Or.inl hk);have hX2:=HX.out.setIds hF2 ho2 (fun q hq=>by rcases hn2 q hq with z | z;exact Or.inl z;exact Or.inr (by omega));have blk:w2.heap[b]? = w1.heap[b]? := hF2.block b hb1 (fun e=>hnb e.symm);have c11':w2.cell? ⟨b,11,none⟩=some (.slice ia g.ids ic):=(World.cell?_of_block (w:=w1) blk).trans c11;have hfz':∀ k,w2.frozen? ⟨b,k,none⟩=false:=fun k=>(World.frozen?_of_block (w:=w1) blk).trans (hfz k)
    subst hv2;obtain ⟨w3,hw3⟩:∃ w3,w3=w2.setCell ⟨b,11,none⟩ (.slice p2 (g.ids+1) c2):=⟨_,rfl⟩;rw[<- hw3] at hX2;have HX2:Hid (ar w3 b { g with ids:=g.ids+1 } 0 0 pv cv zv (.slice p2 (g.ids+1) c2)):=hX2;have HB3:Hid (Below b w1 w3):=by
     have h1:Below b w1 w2:=⟨hF2.os,hF2.tape,hF2.output,hF2.size,fun j hj=>hF2.block j (by omega) (fun e=>by have:=(HOW.out.lt j e).1;omega)⟩;show Below b w1 w3
     rw[hw3];exact h1.setCell (p:=⟨b,11,none⟩) (Nat.le_refl b) _
    have HW3:Hid (w2.setCell ⟨b,11,none⟩ (.slice p2 (g.ids+1) c2)=w3):=hw3.symm;have hHV1:HVV<=t.size:=by have:=HHV.out;omega
    have hHV2:i+8<=HVV:=by have:=HHV.out;omega
    have hzl:g.z.length<=1048576:=Nat.le_trans HGD.out.zl (by omega);clear hX2 hF2 ho2 hg2 hn2 blk hw3 hnb c11 hfz;go_upto_region 18 with fail
    rw[HW3.out];go_upto_block 0 with fail
    have HZ:Hid (seg t (i+8) (HVV - (i+8))=seg t (i+8) n):=by
     show seg t (i+8) (HVV - (i+8))=seg t (i+8) n
     have h1:=HHV.out;have h2:=HE.out;by_cases c:t.size<E
     ·rw[JK t (i+8) n (by omega) (by omega),show HVV - (i+8)=t.size - (i+8) by omega]
     ·rw[show HVV - (i+8)=n by omega]
    refine wp_mono (Mt (P:=fun r w'=>ChP w w' b f ((af t).drop i) i r) b (i+8) HVV t { g with ids:=g.ids+1 } pv cv zv (.slice p2 (g.ids+1) c2) w3 HX2 hHV1 hHV2 hs hzl ?_) (fun e a w hq=>hq);intro vm Lg Lf Le zE zD zC zy zx zw zu zt zq zo zm zk zj zi zg ze qC w4 zv' hX4 hB4;rw[HZ.out] at hX4;have hD:g.data (ty kd) (seg t (i+8) n) (i+8)={ g with ids:=g.ids+1,z:=g.z++plc (seg t (i+8) n) (i+8) }:=by unfold Fl.data;rw[if_pos HCD.out]
    have HX4:Hid (ar w4 b (g.data (ty kd) (seg t (i+8) n) (i+8)) 0 0 pv cv zv' (.slice p2 (g.ids+1) c2)):=by
     rw[hD];exact hX4
    have hdh:(g.data (ty kd) (seg t (i+8) n) (i+8)).hd=f.hd:=by rw[hD];exact HGHD.out
    have FF:=FIN.out w4 pv cv zv' (.slice p2 (g.ids+1) c2) (HB3.out.trans hB4) HX4.out;have GG:E+4<=t.size->Hid _:=fun q=>G2.out (g.data (ty kd) (seg t (i+8) n) (i+8)) hdh q zv' (.slice p2 (g.ids+1) c2) pv cv
    repeat (first | exact wp_mono (DS (fun r w'=>ChP w w' b f ((af t).drop i) i r) b i n E _ _ t kd (g.data (ty kd) (seg t (i+8) n) (i+8)) pv cv zv' (.slice p2 (g.ids+1) c2) w4 HX4 hs HE.out h8 hnn F2.out F3.out GG FF) (fun e a w hq=>hq) | go_step)
   ·rw[decide_eq_false cd] at t4
    have hD:g.data (ty kd) (seg t (i+8) n) (i+8)=g:=by unfold Fl.data;rw[if_neg cd]
    have HX4:Hid (ar w1 b (g.data (ty kd) (seg t (i+8) n) (i+8)) 0 0 pv cv zv iv):=by
     rw[hD];exact HX.out
    have hdh:(g.data (ty kd) (seg t (i+8) n) (i+8)).hd=f.hd:=by rw[hD];exact HGHD.out
    have FF:=FIN.out w1 pv cv zv iv (Below.refl _ _) HX4.out;have GG:E+4<=t.size->Hid _:=fun q=>G2.out (g.data (ty kd) (seg t (i+8) n) (i+8)) hdh q zv iv pv cv
    have HFF:Hid _:=FF;have HGG:Hid _:=GG;clear hD hdh FF GG cd;go_upto_if 68 with fail
    repeat (first | exact wp_mono (DS (fun r w'=>ChP w w' b f ((af t).drop i) i r) b i n E _ _ t kd (g.data (ty kd) (seg t (i+8) n) (i+8)) pv cv zv iv w1 HX4 hs HE.out h8 hnn F2.out F3.out HGG.out HFF.out) (fun e a w hq=>hq) | go_step)
 ·rw[if_pos v0] at hcd
  have HCD:Hid _:=hcd;have cv0:((V:Int) != 0)=true:=by rw[bne_iff_ne];omega
  have e3:Hid (∀ W,ar W b g 0 0 pv cv zv iv->Calls Tryz.prog 57 #[.pointer (some ⟨b,0,none⟩),.int .i64 (V:Int),.int .i64 ((i:Int)+7)] W fun r w'=>r = .returned (.bool false)/\ar w' b g V (i+7) pv cv zv iv/\Fr1 b W w'):=fun W hW=>lN b g 0 0 V (i+7) pv cv zv iv W hW
  have HV0:Hid (V≠0):=v0;clear hcd v0;go_wp2_with fail;refine (e3.out _ HX.out).mono ?_;rintro r w2 ⟨rfl,h2,hw2⟩;have HH:Hid (ChP w w2 b f ((af t).drop i) i (.returned (.tuple #[.int .i64 (i:Int),.bool false]))):=by
   refine ⟨dn,g,pv,cv,zv,iv,HRD.out,?_,?_,?_,fun q => ?_,HB.out.trans ⟨hw2.os,hw2.tape,hw2.output,hw2.size,fun j hj=>hw2.block j (by omega) (by omega)⟩⟩
   ·rw[HCD.out];rfl
   ·rw[HCD.out]
    show ar w2 b g V (if V=0 then 0 else i+7) _ _ _ _
    rw[if_neg HV0.out];exact h2
   ·rw[HCD.out];exact HSF.out
   ·rw[HCD.out] at q;exact absurd rfl q
  clear h2 hw2;go_wp2
  first
   | exact HH.out
   | (go_ret2;exact HH.out)
def KZ (W:World) (b:Nat) (l:List Nat):Prop:=∃ F F' er at' pv cv zv iv,fq l F er at'/\fw F F'/\ar W b F' er at' pv cv zv iv/\FBd l.length F'
theorem CD (b:Nat) (f:Fl) (pv cv zv iv:Value) (t:ByteArray) (i:Nat) (w:World) (h:ar w b f 0 0 pv cv zv iv) (ho:FOk f) (hbd:FBd i f) (hi:i<=t.size) (hs:t.size<=1048576) :
  Calls Tryz.prog 58 #[.pointer (some ⟨b,0,none⟩),.string t,.int .i64 (i:Int)] w fun r w'=>ChP w w' b f ((af t).drop i) i r:=by
 have hl:((af t).drop i).length=t.size - i:=by rw[List.length_drop,aw]
 obtain ⟨dn,hdn⟩:=Lh h (hbd.good (by omega));by_cases c4:t.size<i+4
 ·refine (Fo b t i w c4 hs (by omega)).mono ?_
  rintro r w' ⟨rfl,rfl⟩;have e:f.chunk ((af t).drop i) i dn=⟨f,0,0,0⟩:=by unfold Fl.chunk;rw[if_pos (by rw[hl];omega)]
  refine ⟨dn,f,pv,cv,zv,iv,fun _=>hdn,by rw[e];rfl,by rw[e];exact h,by rw[e];exact fw.refl f,(fun q=>by rw[e] at q;exact absurd rfl q),Below.refl _ _⟩
 have n0:n4 (((af t).drop i).getD 0 0) (((af t).drop i).getD 1 0) (((af t).drop i).getD 2 0) (((af t).drop i).getD 3 0)=dj (seg t i 4):=by
  rw[cD,cD,cD,cD];exact ya t i (by omega)
 have F:Hid (∀ W,Calls Tryz.prog 98 #[.string t,.int .i64 (i:Int),.int .i64 4] W fun r w'=>r = .returned (.int .i64 ((dj (seg t i 4):Nat):Int))/\w'=W):=fun W=>qJ t i 4 W (by omega) (by omega) hs
 have hq:∀ dn,f.chunk ((af t).drop i) i dn=if 2147483648<=dj (seg t i 4) then ⟨f,2,3,0⟩ else if ((af t).drop i).length<8 then ⟨f,0,0,0⟩ else if f.begE (n4 (((af t).drop i).getD 4 0) (((af t).drop i).getD 5 0) (((af t).drop i).getD 6 0) (((af t).drop i).getD 7 0)) (dj (seg t i 4)) dn≠0 then ⟨f,f.begE (n4 (((af t).drop i).getD 4 0) (((af t).drop i).getD 5 0) (((af t).drop i).getD 6 0) (((af t).drop i).getD 7 0)) (dj (seg t i 4)) dn,7,0⟩ else Fl.body (f.begF (n4 (((af t).drop i).getD 4 0) (((af t).drop i).getD 5 0) (((af t).drop i).getD 6 0) (((af t).drop i).getD 7 0))) (n4 (((af t).drop i).getD 4 0) (((af t).drop i).getD 5 0) (((af t).drop i).getD 6 0) (((af t).drop i).getD 7 0)) (dj (seg t i 4)) (((af t).drop i).take 8) (((af t).drop i).drop 8) (i+8):=fun dn=>by
  unfold Fl.chunk;rw[if_neg (by rw[hl];omega),n0]
 generalize dj (seg t i 4)=n at *;by_cases gn:2147483648<=n
 ·refine (Fp b f pv cv zv iv t i n w h (by omega) hs F (decide_eq_true (by omega))).mono ?_
  rintro r w' ⟨rfl,h1,hw⟩;have e:=hq dn;rw[if_pos gn] at e;exact ⟨dn,f,pv,cv,zv,iv,fun _=>hdn,by rw[e];rfl,by rw[e];exact h1,by rw[e];exact fw.refl f,(fun q=>by rw[e] at q;exact absurd rfl q),hw⟩
 by_cases g8:t.size<i+8
 ·refine (Fm b t i n w (by omega) g8 hs F (decide_eq_false (by omega))).mono ?_
  rintro r w' ⟨rfl,rfl⟩;have e:=hq dn;rw[if_neg gn,if_pos (by rw[hl];omega)] at e;exact ⟨dn,f,pv,cv,zv,iv,fun _=>hdn,by rw[e];rfl,by rw[e];exact h,by rw[e];exact fw.refl f,(fun q=>by rw[e] at q;exact absurd rfl q),Below.refl _ _⟩
 have ht:=Ls t i (by omega);refine Fk b f pv cv zv iv t i n w h ho hbd (by omega) hs F (by omega) (fun dn => ?_) ht;have e:=hq dn;rw[if_neg gn,if_neg (by rw[hl];omega),<- ht] at e;exact e
theorem Kept.trans' {w x y:World} (h:Kept w x) (k:Below w.heap.size x y):Kept w y:=Below.trans h k
theorem Kt {f:Fl} {k:Nat} {d:List Nat} (h:(f.ends k d).2≠0):(f.ends k d).1.done=f.done:=by
 revert h
 unfold Fl.ends
 (repeat' split)
 all_goals (intro h;first | rfl | exact absurd rfl h)
theorem yB (f:Fl) (k:Nat) (d:List Nat) (i:Nat):(f.data k d i).done=f.done:=by
 unfold Fl.data;split<;>rfl
theorem yN (f:Fl) (k:Nat):(f.begF k).done=f.done:=by
 obtain ⟨o,p,e⟩:=xA f k;rw[e]
theorem Fq {f:Fl} {l:List Nat} {i:Nat} {dn:Bool} (h:(f.chunk l i dn).took=0):(f.chunk l i dn).f.done=f.done:=by
 revert h
 unfold Fl.chunk;split
 ·intro _;rfl
 split
 ·intro _;rfl
 split
 ·intro _;rfl
 split
 ·intro _;rfl
 unfold Fl.body;split
 ·intro _;rw[yB,yN]
 split
 ·intro _;rw[yB,yN]
 split
 ·rename_i q
  intro _;show (Fl.ends _ _ _).1.done=_
  rw[Kt q,yB,yN]
 ·intro h
  exact absurd h (by show 8+_+4≠0;omega)
def IP:Value->Nat | .bool true=>1 | _=>0
def Nn (l:List Nat) (b i:Nat) (ok:Bool) (W:World):Prop:=
 (ok=true/\∃ f pv cv zv iv,ar W b f 0 0 pv cv zv iv/\Wk l i f/\FBd i f/\FBd l.length f) \/
 (ok=false/\∃ F F' er at' pv cv zv iv,fq l F er at'/\fw F F'/\ar W b F' er at' pv cv zv iv/\FBd l.length F'/\F'.done=false)
theorem CQ {u1 u2 u4 u5 u6 u7 u8 u9 rY vo tX uE uC sq u16 sx rX o6 o5 o4 o3 o0 oZ oY oX oW oV oU oT oS u32 oR oQ oP oO oN oM oL oK oJ oI oH oG oF oE oD oC oB oA oz oy ox ow ou ot oq oo om oj oi oh og u64 pW pV:Value} (P:Ending->World->Prop) (b:Nat) (t:ByteArray) (w:World) (pv cv zv iv:Value) (h:Hid (ar w b Fl.start 0 0 pv cv zv iv)) (hs:t.size<=1048576) (hsg:Hid (Gy (af t)))
  (HP:Hid (∀ W',KZ W' b (af t)->Below b w W'->P (.returned (.pointer (some ⟨b,0,none⟩))) W')) :
  Code.wp Tryz.prog ((Tryz.f40.body.bind (qQ 9)).getD .skip) (bodyPost Tryz.prog Tryz.f40 P) ⟨#[.string t,u1,u2,.pointer (some ⟨b,0,none⟩),u4,u5,u6,u7,u8,u9,rY,vo,tX,uE,uC,sq,u16,sx,rX,o6,o5,o4,o3,o0,oZ,oY,oX,oW,oV,oU,oT,oS,u32,oR,oQ,oP,oO,oN,oM,oL,oK,oJ,oI,oH,oG,oF,oE,oD,oC,oB,oA,oz,oy,ox,ow,ou,ot,oq,oo,om,oj,oi,oh,og,u64,pW,pV],[]⟩ w:=by
 conv=>arg 2;whnf
 have hblt:=h.out.lt;have hbl:(af t).length=t.size:=aw t;have HBL:Hid ((af t).length=t.size):=hbl;have HBS:Hid (∀ x ∈ af t,x<256):=lK t;clear hbl;go_wp2_with fail;go_loopw [6,7] (fun j o W=>∃ (q:Nat) (ok:Bool),j = .int .i64 (q:Int)/\o = .bool ok/\Nn (af t) b q ok W/\Below b w W/\(q<=t.size\/q=8)) (fun j o _=>2*(t.size - (intOf j).toNat)+IP o)
 case atStart=>exact ⟨8,true,rfl,rfl,Or.inl ⟨rfl,Fl.start,pv,cv,zv,iv,h.out,Wk.start hsg.out,uP.mono (by omega),uP.mono (by omega)⟩,Below.refl _ _,Or.inr rfl⟩
 case round=>
  obtain ⟨q,ok,rfl,rfl,hrel,hkq,hql⟩:=hrel;have HK:Hid (Below b w wr):=hkq;clear hkq;cases ok
  ·rcases hrel with ⟨z,_⟩ | ⟨_,F,F',er,at',pv',cv',zv',iv',h1,h2,h3,h4,h5⟩
   ·cases z
   ·have c14:wr.cell? ⟨b,14,none⟩=some (.bool F'.done):=h3.cell 14 (by omega)
    rw[h5] at c14;have HH:Hid (P (.returned (.pointer (some ⟨b,0,none⟩))) wr):=HP.out wr ⟨F,F',er,at',pv',cv',zv',iv',h1,h2,h3,h4⟩ HK.out;clear h1 h2 h3 h4 h5;go_wp2;exact lH HH.out rfl
  ·rcases hrel with ⟨_,f,pv',cv',zv',iv',h1,h2,h3,h3l⟩ | ⟨z,_⟩
   ·have c14:wr.cell? ⟨b,14,none⟩=some (.bool f.done):=h1.cell 14 (by omega)
    by_cases hqs:q<t.size
    ·have hqs':(q:Int)<(t.size:Int):=by omega
     cases hd:f.done
     ·rw[hd] at c14
      have fk:=(wV HBS.out h2).2;have F:=CD b f pv' cv' zv' iv' t q wr h1 fk h3 (by omega) hs;have HST:Hid (∀ w',∀ r,ChP wr w' b f ((af t).drop q) q r->∃ (m:Nat) (ok:Bool),r = .returned (.tuple #[.int .i64 (m:Int),.bool ok])/\Nn (af t) b m ok w'/\Below b w w'/\(m<=t.size\/m=8)/\2*(t.size - m)+(if ok=true then 1 else 0)<2*(t.size - q)+1):=fun w' r hc=>by
       obtain ⟨dn,F',pa,ca,za,ia,k1,k2,k3,k4,k5,k6⟩:=hc;have hll:((af t).drop q).length=t.size - q:=by rw[List.length_drop,HBL.out]
       have hcb:=IL (dn:=dn) (l:=(af t).drop q) h3 (fun x hx=>HBS.out x (List.mem_of_mem_drop hx)) (by omega);by_cases tk:(f.chunk ((af t).drop q) q dn).took=0
       ·refine ⟨_,_,k2,Or.inr ⟨decide_eq_false (fun z=>z tk),(f.chunk ((af t).drop q) q dn).f,F',_,_,pa,ca,za,ia,fq.stop h2 hd (by rw[HBL.out];exact hqs) k1 tk,k4,k3,?_,?_⟩,HK.out.trans k6,?_,?_⟩
        ·exact (hcb.1.same k4).mono (by rw[HBL.out,hll];omega)
        ·obtain ⟨o,p,e⟩:=k4
         rw[e];exact (Fq tk).trans hd
        ·left;rw[tk];omega
        ·rw[tk,if_neg (by rw[decide_eq_false (fun z=>z rfl)];decide)];omega
       ·have h5:=hcb.2 tk
        have hF:=k5 tk;rw[h5.2.2] at k3;refine ⟨_,_,k2,Or.inl ⟨decide_eq_true tk,F',pa,ca,za,ia,k3,?_,?_,?_⟩,HK.out.trans k6,?_,?_⟩
        ·rw[hF];exact Wk.next h2 hd (by rw[HBL.out];exact hqs) k1 tk
        ·rw[hF];exact h5.1
        ·rw[hF];exact hcb.1.mono (by rw[HBL.out,hll];omega)
        ·left;have:=h5.2.1;omega
        ·have:=h5.2.1
         rw[if_pos (decide_eq_true tk)];omega
      have HF:Hid (Calls Tryz.prog 58 _ _ _):=F;clear F fk h1 h2 h3 hd;go_wp2_with fail;refine Calls.mono HF.out ?_;rintro r w1 hc;obtain ⟨m,ok,rfl,a1,a2,a3,a4⟩:=HST.out w1 r hc;have A1:Hid _:=a1;have A4:Hid _:=a4;clear hc a1 a4 HST;go_wp2;refine ⟨⟨m,ok,rfl,rfl,A1.out,a2,a3⟩,?_⟩
      have:=A4.out
      cases ok<;>simp [intOf,IP] at this ⊢<;>omega
     ·rw[hd] at c14
      have F:=lN b f 0 0 22 q pv' cv' zv' iv' wr h1;have HF:Hid (Calls Tryz.prog 57 _ _ _):=F;have HH:Hid (∀ w',ar w' b f 22 q pv' cv' zv' iv'->Fr1 b wr w'->P (.returned (.pointer (some ⟨b,0,none⟩))) w'):=fun w' a1 a2=>by
       have hb1:=h1.lt;exact HP.out w' ⟨f,f,22,q,pv',cv',zv',iv',fq.trail h2 hd (by rw[HBL.out];exact hqs),fw.refl f,a1,h3l⟩ (HK.out.trans ⟨a2.os,a2.tape,a2.output,a2.size,fun j hj=>a2.block j (by omega) (by omega)⟩)
      clear F h1 h2 h3 hd;go_wp2_with fail;refine Calls.mono HF.out ?_;rintro r w1 ⟨rfl,b1,b2⟩;have H3:Hid _:=HH.out w1 b1 b2;clear b1 b2 HH HF;go_wp2;exact lH H3.out rfl
    ·have hqs':¬ (q:Int)<(t.size:Int):=by omega
     have HH:Hid (P (.returned (.pointer (some ⟨b,0,none⟩))) wr):=HP.out wr ⟨f,f,0,0,pv',cv',zv',iv',fq.out h2 (by rw[HBL.out];omega),fw.refl f,h1,?_⟩ HK.out
     ·clear h1 h2 h3
      cases hd:f.done
      ·rw[hd] at c14
       clear hd;go_wp2;exact lH HH.out rfl
      ·rw[hd] at c14
       clear hd;go_wp2;exact lH HH.out rfl
     ·exact h3l
   ·cases z
theorem Mc (w:World):ar (w.alloc (.cells #[.bool false,.int .i64 0,.int .i64 0,.int .i64 0,.int .i64 0,.int .i64 0,.bool false,.bool false,.slice none 0 0,.slice none 0 0,.slice none 0 0,.slice none 0 0,.bool false,.bool false,.bool false,.int .i64 0,.int .i64 0] 87)) w.heap.size Fl.start 0 0 (.slice none 0 0) (.slice none 0 0) (.slice none 0 0) (.slice none 0 0):=by
 refine ⟨fun j hj => ?_,fun j=>World.frozen?_alloc_at _ _ _ _ rfl,mK (World.ownsRow_nil _ 0 _ _),mK (World.ownsRow_nil _ 0 _ _),World.ownsRow_nil _ _ _ _,⟨[],World.ownsRow_nil _ _ _ _⟩,(fun g hg=>by cases hg),(fun g hg=>by cases hg),(fun g hg=>by cases hg),(fun g hg=>by cases hg),(fun g hg=>by cases hg)⟩;rw[World.cell?_alloc_at _ _ _ _ rfl];exact bP (P:=fun j=>(#[.bool false,.int .i64 0,.int .i64 0,.int .i64 0,.int .i64 0,.int .i64 0,.bool false,.bool false,.slice none 0 0,.slice none 0 0,.slice none 0 0,.slice none 0 0,.bool false,.bool false,.bool false,.int .i64 0,.int .i64 0]:Array Value)[j]? = some (flV Fl.start 0 0 (.slice none 0 0) (.slice none 0 0) (.slice none 0 0) (.slice none 0 0) j)) ⟨rfl,rfl,rfl,rfl,rfl,rfl,rfl,rfl,rfl,rfl,rfl,rfl,rfl,rfl,rfl,rfl,rfl⟩ j hj
theorem F9 (t:ByteArray) (w:World) (hs:t.size<=1048576) :
  Calls Tryz.prog 40 #[.string t] w fun r w'=>r = .returned (.pointer (some ⟨w.heap.size,0,none⟩))/\KZ w' w.heap.size (af t)/\Kept w w':=by
 have H0:Hid (ar (w.alloc _) w.heap.size Fl.start 0 0 (.slice none 0 0) (.slice none 0 0) (.slice none 0 0) (.slice none 0 0)):=Mc w;have HGB:Hid (∀ j,gb t j=(af t).getD j 0):=fun j=>rfl
 have HBL:Hid ((af t).length=t.size):=aw t;go_enter Tryz.func40,Tryz.ntmps40;go_wp2_with (go_at_call 56;refine (Gx _).mono ?_;rintro r w' ⟨rfl,hw⟩;subst w')
 go_loopw [5] (fun j W=>∃ i:Nat,i<=8/\j = .int .i64 (i:Int)/\ar W w.heap.size Fl.start 0 0 (.slice none 0 0) (.slice none 0 0) (.slice none 0 0) (.slice none 0 0)/\Kept w W/\Hid (∀ q,q<i->gb t q=fP q)) (fun j _=>8 - (intOf j).toNat)
 case atStart=>exact ⟨0,by omega,rfl,H0.out,(Below.refl _ _).alloc (Nat.le_refl _) _,fun q hq=>by omega⟩
 case round=>
  obtain ⟨i,hi,rfl,hfl,hkw,HG⟩:=hrel;have HFL:Hid (ar wr w.heap.size Fl.start 0 0 (.slice none 0 0) (.slice none 0 0) (.slice none 0 0) (.slice none 0 0)):=hfl;have HKW:Hid (Kept w wr):=hkw;clear hfl hkw;by_cases hlt:i<8/\i<t.size
  ·obtain ⟨h8,hsz⟩:=hlt
   have h8':(i:Int)<8:=by omega
   have hsz':(i:Int)<(t.size:Int):=by omega
   have hE:∀ h',((ByteArray.mk #[137,80,78,71,13,10,26,10])[i]'h').toNat=fP i:=fun h'=>tZ i h8 h'
   have hE2:=mL t i hsz;have hsg:i<(ByteArray.mk #[137,80,78,71,13,10,26,10]).size:=h8;by_cases hb:gb t i=fP i
   ·have hd:((t[i].toNat:Int) != (((ByteArray.mk #[137,80,78,71,13,10,26,10])[i]'hsg).toNat:Int))=false:=by
     rw[bne_eq_false_iff_eq,hE,hE2,hb]
    have HB:Hid (gb t i=fP i):=hb;clear hb hE hE2;go_wp2;go_quiet (fail);go_wp2;exact ⟨⟨i+1,by omega,by go_num,HFL.out.drewN _,HKW.out.drewN _,fun q hq=>by by_cases e:q=i;(rw[e];exact HB.out);exact HG.out q (by omega)⟩,by simp [intOf];omega⟩
   ·have hd:((t[i].toNat:Int) != (((ByteArray.mk #[137,80,78,71,13,10,26,10])[i]'hsg).toNat:Int))=true:=by
     rw[bne_iff_ne,hE,hE2];omega
    have HW:Hid (fq (af t) Fl.start 1 i):=fq.sign i h8 (by rw[HBL.out];exact hsz) (by rw[<- HGB.out i];exact hb) (fun j hj=>by rw[<- HGB.out j];exact HG.out j hj);clear hb hE hE2;go_wp2;go_quiet (fail);go_wp2_with fail;refine (lN w.heap.size Fl.start 0 0 1 i _ _ _ _ _ (HFL.out.drewN _)).mono ?_;rintro r w1 ⟨rfl,h1,hw1⟩;have HF:Hid _:=h1;have HK1:Hid (Kept w w1):=Fr.to_kept (HKW.out.drewN _) hw1 (fun j hj e=>by omega);clear h1 hw1;go_wp2;go_ret;exact ⟨rfl,⟨Fl.start,Fl.start,1,i,_,_,_,_,HW.out,fw.refl _,HF.out,uP.mono (by omega)⟩,HK1.out⟩
  ·have HSG:Hid (Gy (af t)):=fun j h1 h2=>by rw[<- HGB.out j];exact HG.out j (by rw[HBL.out] at h2;omega)
   have HPP:Hid (∀ W',KZ W' w.heap.size (af t)->Below w.heap.size wr W'->(fun r w'=>r=Ending.returned (.pointer (some ⟨w.heap.size,0,none⟩))/\KZ w' w.heap.size (af t)/\Kept w w') (.returned (.pointer (some ⟨w.heap.size,0,none⟩))) W'):=fun W' a1 a2=>⟨rfl,a1,HKW.out.trans' a2⟩
   by_cases h8:i<8
   ·have h8':(i:Int)<8:=by omega
    have hsz':¬ (i:Int)<(t.size:Int):=by omega
    clear hlt;go_upto_if 18 with fail
    repeat (first | exact wp_mono (CQ _ w.heap.size t wr _ _ _ _ HFL hs HSG HPP) (fun e a w hq=>hq) | go_step)
   ·have h8':¬ (i:Int)<8:=by omega
    clear hlt;go_upto_if 18 with fail
    repeat (first | exact wp_mono (CQ _ w.heap.size t wr _ _ _ _ HFL hs HSG HPP) (fun e a w hq=>hq) | go_step)
theorem LO (fb sb palN en:Nat) (h:Hd) (ov:Value) (out:List One) (dn sm:Bool) (w:World) (hf:sf w fb h palN) (hs:wT w sb ov out dn sm en) (hW:h.W<=16) (hH:h.H<=16) (hD:okD h.D) (hK:kindOk h.K) (hL:h.L<=1) (hl:(h.K=0\/h.K=3)\/(h.D=8\/h.D=16)) (hb:1<=bG h) (ho:dt out) (hol:out.length<=4294967296) (hp:palN<=1048576) (hen:en<=1048576) (hovw:∀ g,ae ov=some g->g<w.heap.size) :
  Calls Tryz.prog 42 #[.pointer (some ⟨fb,0,none⟩),.pointer (some ⟨sb,0,none⟩)] w fun r w'=>∃ mb ls im,r = .returned (.pointer (some ⟨mb,0,none⟩))/\OfP h (palN / 3) w w' fb mb out dn sm en ls im:=by
 have c5:=hf.c5;have hD16:h.D<=16:=by unfold okD at hD;omega
 have hlt:=hf.lt;have F:Hid (∀ W:World,Calls Tryz.prog 70 _ W _):=fun W=>GC h W hW hH hD16 hL hK
 have HSV:Hid (∀ W,Calls Tryz.prog 71 #[.int .i64 (h.K:Int),.int .i64 (h.D:Int)] W fun r w'=>r = .returned (.int .i64 (cE h:Int))/\w'=W):=fun W=>by
  have:=Gr h.K h.D W hD16
  rw[BA hK hD hl] at this;exact this
 obtain ⟨rows,hrows0⟩:∃ rows,rows=az h (aF h.L) 0:=⟨_,rfl⟩;have hrows:Hid (rows=az h (aF h.L) 0):=hrows0;clear hrows0;have hst:cE h<=8:=by
  unfold cE bG
  have:=ob h.K
  have:chn h.K*h.D<=4*16:=Nat.mul_le_mul this hD16
  omega
 have hst1:1<=cE h:=by unfold cE;omega
 go_enter Tryz.func42,Tryz.ntmps42;go_wp2_with fail;refine (vT _ _ hL).mono ?_;rintro r w1 ⟨rfl,hps,hk1⟩;have h1:=hf.kept hk1;have d1:=h1.c1;have d2:=h1.c2;have d3:=h1.c3;have d4:=h1.c4;have d5:=h1.c5;have hlt1:=h1.lt;clear c5;have HH1:Hid (sf w1 fb h palN):=h1;have HS:Hid (wT w1 sb ov out dn sm en):=hs.kept hk1;have HP:Hid (qe w1 w.heap.size h.L):=hps;have hps1:=hps.lt;clear h1 hs hps hf hlt;go_wp2_with fail;go_region_held3 (fun W=>W.cell? ⟨fb,1,none⟩=some (.int .i64 (h.W:Int))/\W.cell? ⟨fb,2,none⟩=some (.int .i64 (h.H:Int))/\W.cell? ⟨fb,3,none⟩=some (.int .i64 (h.D:Int))/\W.cell? ⟨fb,4,none⟩=some (.int .i64 (h.K:Int))/\W.cell? ⟨fb,5,none⟩=some (.int .i64 (h.L:Int))) (first | go_keep | (refine ⟨?_,?_,?_,?_,?_⟩<;>(rw[hk2.cell (by go_grown)];go_keep))) ((go_at_call 70;refine (F.out _).mono ?_;rintro r w2 ⟨⟨v,rfl,hown⟩,hk2⟩))
 rw[<- hrows.out] at hown ⊢;obtain ⟨pr,cr,rfl⟩:=aq hown;have hml:w1.heap.size<((w1.alloc (.cells #[.pointer (some ⟨fb,0,none⟩),.slice (some ⟨w.heap.size,0,none⟩) (aF h.L) (aF h.L),.slice none 0 0,.slice none 0 0,.slice none 0 0,.int .i64 0,.int .i64 0] 105)).drew).heap.size:=by simp
 have mc:∀ j,w2.cell? ⟨w1.heap.size,j,none⟩=(#[.pointer (some ⟨fb,0,none⟩),.slice (some ⟨w.heap.size,0,none⟩) (aF h.L) (aF h.L),.slice none 0 0,.slice none 0 0,.slice none 0 0,.int .i64 0,.int .i64 0]:Array Value)[j]? := fun j=>by
  rw[hk2.cell (p:=⟨w1.heap.size,j,none⟩) hml];show (w1.alloc _).cell? _=_
  rw[World.cell?_alloc_at _ _ _ _ rfl]
 have mf:∀ j,w2.frozen? ⟨w1.heap.size,j,none⟩=false:=fun j=>by
  rw[hk2.frozen (p:=⟨w1.heap.size,j,none⟩) hml];exact World.frozen?_alloc_at _ _ _ _ rfl
 have K12:Hid (Kept w1 w2):=(((Below.refl _ _).alloc (Nat.le_refl _) _).drew).trans (Below.mono hk2 (Nat.le_of_lt hml));have m2:w2.cell? ⟨w1.heap.size,2,none⟩=some (.slice none 0 0):=mc 2;have mf2:=mf 2;have hF2:Hid (sf w2 fb h palN):=HH1.out.kept K12.out;have e3:=hF2.out.c3;have e4:=hF2.out.c4;have hm2:w1.heap.size<w2.heap.size:=World.block_lt_of_cell? _ _ m2;have HMC:Hid (∀ j,w2.cell? ⟨w1.heap.size,j,none⟩=_):=mc;have HMF:Hid (∀ j,w2.frozen? ⟨w1.heap.size,j,none⟩=false):=mf;have HOW0:w2.ownsRow (w1.heap.size+1) 146 5 (.slice pr rows.length cr) rows.length (kT h rows 0):=by simpa using hown
 have HOW:Hid (w2.ownsRow (w1.heap.size+1) 146 5 (.slice pr rows.length cr) rows.length (kT h rows 0)):=HOW0;clear HOW0;have HK1:Hid (Kept w w1):=hk1;clear mc mf hk2 hown hk1 d1 d2 d3 d4 d5 hml;go_wp2_with fail;go_quiet ((go_at_call 71;exact Calls.quiet_of_same (HSV.out _)))
 obtain ⟨w3,hw3⟩:∃ w3,w3=(w2.setCell ⟨w1.heap.size,2,none⟩ (.slice pr rows.length cr)).drewN nq:=⟨_,rfl⟩;rw[<- hw3];have F3:Fr1 w1.heap.size w2 w3:=by rw[hw3];exact ((Fr1.refl _ _).set _ _).drewN nq
 have hsz3:w2.heap.size<=w3.heap.size:=F3.size;have n3:∀ j,j≠2->w3.cell? ⟨w1.heap.size,j,none⟩=w2.cell? ⟨w1.heap.size,j,none⟩:=fun j hj=>by
  rw[hw3];exact aa _ _ _ _ _ (by omega)
 have n2:w3.cell? ⟨w1.heap.size,2,none⟩=some (.slice pr rows.length cr):=by rw[hw3];exact aj m2 _
 have nf:∀ j,w3.frozen? ⟨w1.heap.size,j,none⟩=false:=fun j=>by rw[hw3];exact (World.frozen?_setCell _ _ _ _).trans (HMF.out j)
 have HS3:Hid (wT w3 sb ov out dn sm en):=by
  have h2:=HS.out.kept K12.out;have hlt2:sb<w1.heap.size:=HS.out.lt
  have:Kept w1 w3:=Fr.to_kept K12.out F3 (fun i hi e=>by omega)
  exact HS.out.kept this
 have HF3:Hid (sf w3 fb h palN):=HH1.out.kept (Fr.to_kept K12.out F3 (fun i hi e=>by omega));have HPA:Hid (qe w3 w.heap.size h.L):=HP.out.kept (Fr.to_kept K12.out F3 (fun i hi e=>by omega));have HOW3:Hid (w3.ownsRow (w1.heap.size+1) 146 5 (.slice pr rows.length cr) rows.length (kT h rows 0)):=aQ HOW.out F3 (fun g hg e=>by have:=(HOW.out.lt g hg).1;omega);have HK3:Hid (Kept w w3):=HK1.out.trans (Fr.to_kept K12.out F3 (fun i hi e=>by omega));have HIM:Hid (gF w3 w3 w1.heap.size (.slice none 0 0) (.slice none 0 0) []) :=
  ⟨(n3 3 (by omega)).trans (HMC.out 3),(n3 4 (by omega)).trans (HMC.out 4),(n3 5 (by omega)).trans (HMC.out 5),(n3 6 (by omega)).trans (HMC.out 6),fun j _=>rfl,nf,Fr.refl _ _,by omega,World.ownsRow_nil _ _ _ _,⟨[],World.ownsRow_nil _ _ _ _⟩,(fun a ha=>by cases ha),(fun g hg=>by cases hg)⟩
 have M0:Hid (w3.cell? ⟨w1.heap.size,0,none⟩=some (.pointer (some ⟨fb,0,none⟩))/\w3.cell? ⟨w1.heap.size,1,none⟩=some (.slice (some ⟨w.heap.size,0,none⟩) (aF h.L) (aF h.L))/\w3.cell? ⟨w1.heap.size,2,none⟩=some (.slice pr rows.length cr)):=⟨(n3 0 (by omega)).trans (HMC.out 0),(n3 1 (by omega)).trans (HMC.out 1),n2⟩;have hm3:w1.heap.size<w3.heap.size:=by omega
 obtain ⟨mb,hmb⟩:∃ mb,mb=w1.heap.size:=⟨_,rfl⟩;have hlo:w.heap.size<=mb:=by rw[hmb];exact HK1.out.size
 rw[<- hmb] at HIM M0 hm3 HOW3 ⊢;have HL0:Hid (OfL h (palN / 3) out rows w3 w3 mb 0 (.slice none 0 0) (.slice none 0 0) [] [] rows 0 (fun _=>0)) :=
  ⟨HIM.out,rfl,rfl,rfl,by rw[hrows.out];exact zW h,(fun q=>absurd rfl q),(by show _=ImR.app [] (aN h (palN / 3) rows (fun _=>0) out);rw[ImR.app_nil]),(fun j a e=>by simp at e)⟩
 have K13:Hid (Kept w1 w3):=Fr.to_kept K12.out F3 (fun i hi e=>by omega);have HMB:Hid (mb=w1.heap.size):=hmb;have HKW:Hid (∀ W,Fr1 mb w3 W->Kept w1 W):=fun W k=>Fr.to_kept K13.out k (fun i hi e=>by rw[HMB.out] at e;omega)
 have hrl:rows.length<=200:=by
  rw[hrows.out];exact D7 h hH (aF h.L) 0 (wD h.L).2
 have htot:aH h rows<=200*200:=by
  have:=zJ h hW hD16 rows
  omega
 obtain ⟨TT,hTT⟩:∃ TT,TT=aH h rows:=⟨_,rfl⟩;rw[<- hTT] at htot ⊢;have HTT:Hid (TT=aH h rows):=hTT;have hHD:Hid (okD h.D):=hD;have hHK:Hid (kindOk h.K):=hK;have hHl:Hid ((h.K=0\/h.K=3)\/(h.D=8\/h.D=16)):=hl;have hHo:Hid (dt out):=ho;clear m2 mf2 e3 e4 hm2 HMC HMF K12 hF2 F3 n3 n2 nf hw3 HIM HOW hlt1 hps1 hsz3 hmb hTT hD hK hl ho F HSV;obtain ⟨po,co,hov⟩:=HS.out.z.form;subst hov;obtain ⟨ST,hST⟩:∃ ST,ST=cE h:=⟨_,rfl⟩;rw[<- hST] at hst hst1 ⊢;have HN:Hid (∀ a,po=some a->a.block≠mb):=fun a ha=>by
  have h1:=hovw a.block (by rw[ha];rfl);have h2:=HK1.out.size
  have:=HMB.out
  omega
 have n1:fb≠mb:=by
  have h1:=HH1.out.lt
  have:=HMB.out
  omega
 have n2:sb≠mb:=by
  have h1:=HS.out.lt
  have:=HMB.out
  omega
 have HE:Hid (Lb w3 fb sb mb co cr palN ST po pr h out rows):=⟨HF3.out,HS3.out.c0,HS3.out.z,by rw[HMB.out];rw[HMB.out] at HOW3;exact HOW3.out,n1,n2,HN.out,hol,hHo.out,hp,hST,hst1,hst,hW,hH,hHD.out,hb,hrl,by rw[<- HTT.out];exact htot⟩;have HST:Hid _:=hST;have HSM:Hid (wT w3 sb (.slice po out.length co) out dn sm en):=HS3.out;have FIN:Hid (∀ W' ls im,mJ w3 W' mb (ofE im dn sm en).1 (ofE im dn sm en).2 ls->aN h (palN / 3) rows (fun _=>0) out=im->ls.map Ln.x=im.lines->Jg h rows ls->OfP h (palN / 3) w W' fb mb out dn sm en ls im):=fun W' ls im a1 a2 a3 a4=>by
  have hm:=a1.lt;have kk:Kept w W':=Fr.to_kept HK3.out a1.fr (fun i hi e=>by rw[HMB.out] at e;have:=HK1.out.size;omega);refine ⟨by rw[<- hrows.out];exact a2,a3,by rw[<- hrows.out];exact a4,⟨w3,w.heap.size,_,a1,(a1.c02 0 (by omega)).trans M0.out.1,(a1.c02 1 (by omega)).trans M0.out.2.1,?_,Nat.le_refl _,(a1.c02 2 (by omega)).trans M0.out.2.2,?_⟩,hlo,kk⟩
  ·have hl:w.heap.size<w1.heap.size:=HP.out.lt
   have hl3:=HPA.out.lt;exact ⟨fun p j hp hj=>(a1.fr.cell hl3 (by rw[HMB.out];omega)).trans (HPA.out.cell p j hp hj)⟩
  ·rw[<- hrows.out]
   have o1:=aQ HOW3.out a1.fr (fun g hg e=>by have:=(HOW3.out.lt g hg).1;omega);exact uI o1 (by omega)
 clear hST HOW3 HPA HK3 M0 HKW HP HK1 K13 HH1 hHD hHK hHl hHo HF3 HS HS3 hst hst1;go_upto_block 0 with fail
 refine Nm fb sb mb co cr palN ST po pr h out rows w3 HE HL0 ?_ ?_
 ·intro v4 Gb zF xF vm vD vh vC uB uV ML MK MJ MI MH MG MF ME MD MB MA Mz My Mx Mw Mv Lg Lf Le zE zD zC zy zx zw zu zt zq zo zm zk zj zi zg ze qC tM tL tK tJ tI tH tG tF tE tD tC tB tA tz tx tu tt ts tr tq tp tn tm tj th tg tf tc s9 s8 sZ sY sX sW sV sU sT sS sR pM pL pK mC mB mA mz my mx mw mv mu mr mq mo mn mm ml mj mi mh mg lZ lY lX lW lV lU lT lS lR lQ lP jG jF jE jD jC jB jA jz jy jx jw jv ju jt js jr jq jo jn jm jl jk jj ji jh jg jf je jd jc jb ja iZ iY iX iW iV iU iT iS iR iQ iP iO iN iM iL pJ pI pH pG pF pE pD pC pB pA pz pq pn pj pg pe pd o9 o8 o7 W' ls im him
  have HI:Hid _:=him;clear him HL0 HE;go_step;go_step;refine wp_mono (of_rest (fun r w'=>∃ mb ls im,r = .returned (.pointer (some ⟨mb,0,none⟩))/\OfP h (palN / 3) w w' fb mb out dn sm en ls im) sb mb TT en co po h (palN / 3) out dn sm rows ls im w3 W' HSM HI HTT (by omega) hol n2 HN ?_) (fun e a w hq=>hq);intro W2 hf;exact ⟨mb,ls,im,rfl,FIN.out W2 ls im hf HI.out.eq HI.out.lines HI.out.sz⟩
 ·intro Gb zF xF vm vD vh vC uB uV ML MK MJ MI MH MG MF ME MD MB MA Mz My Mx Mw Mv Lg Lf Le zE zD zC zy zx zw zu zt zq zo zm zk zj zi zg ze qC tM tL tK tJ tI tH tG tF tE tD tC tB tA tz tx tu tt ts tr tq tp tn tm tj th tg tf tc s9 s8 sZ sY sX sW sV sU sT sS sR pM pL pK mC mB mA mz my mx mw mv mu mr mq mo mn mm ml mj mi mh mg lZ lY lX lW lV lU lT lS lR lQ lP jG jF jE jD jC jB jA jz jy jx jw jv ju jt js jr jq jo jn jm jl jk jj ji jh jg jf je jd jc jb ja iZ iY iX iW iV iU iT iS iR iQ iP iO iN iM iL pJ pI pH pG pF pE pD pC pB pA pz pq pn pj pg pe pd o9 o8 o7 W' hr
  obtain ⟨ls,e,p,h1,h2,h3⟩:=hr;have HR:Hid (OfP h (palN / 3) w W' fb mb out dn sm en ls (.bad (ls.map Ln.x) e p)):=FIN.out W' ls _ h2 h1 rfl h3;clear h1 h2 h3 HL0 HE;go_ret;exact ⟨mb,ls,_,rfl,HR.out⟩
