import Derived.Test.YthniahejjamhgaaGreatDoorRoP2
set_option maxRecDepth 100000
set_option maxHeartbeats 6400000
namespace Go.Proofs.YthniahejjamhgaaGreatDoor
open Go.RowKit Px
set_option linter.unusedSimpArgs false
set_option linter.unusedVariables false
def Rw.laid (r:Rw):Rw:={ layPx r r.columns with above:=(layPx r r.columns).row,taken:=0,line:=r.line+1 }
def Rw.bad (r:Rw):Bool:=decide (r.hd.K=3) && !hasC r
def Rw.endRow (r:Rw):Rw × Nat:=if r.bad then (r,16) else (if r.lines<=r.line+1 then r.laid.next else r.laid,0)
theorem laid_ok {r:Rw} (h:RwOk r):RwOk r.laid:=by
 have k:=(layPx_same r r.columns).ok h;exact ⟨k.W,k.H,k.D,k.K,k.L,k.filter,k.row,k.row⟩
theorem RwV.lay_above' {c:Nat->Value} {o:Nat} {r:Rw} (h:RwV c o r):RwV (updL c (o+141) 128 (fun j=>c (o+13+j))) o { r with above:=r.row } :=
 h.all_above r.row (fun i hi=>(updL_in hi).trans (h.row i hi)) (fun i hi=>updL_out (fun q=>hi ⟨q.1,by omega⟩))
theorem endRow_x (b o n:Nat) (c:Nat->Value) (r:Rw) (w:World) (hB:Blk w b n c) (hV:RwV c o r) (hn:o+1549<=n) (hk:RwIn r) (hg:RwGeo r) (hG:GrdAt w) (hb:b≠0) :
  Calls Tryz.prog 213 #[.pointer (some ⟨b,o,none⟩)] w fun e w'=>e = .returned (.int .i64 (r.endRow.2:Int))/\RwStep b o n c r.endRow.1 w w':=by
 have k3:=hB.at (i:=o+3) (by omega) hV.hd.K;have HB:Hid (Blk w b n c):=hB;have HV:Hid (RwV c o r):=hV;have HK:Hid (RwIn r):=hk;have HGeo:Hid (RwGeo r):=hg;have HG:Hid (∀ W,Fr1 b w W->GrdAt W):=fun W f=>hG.fr f (fun q=>hb q.symm)
 have FH:Hid (Calls Tryz.prog 216 #[.pointer (some ⟨b,o,none⟩)] w fun e w'=>e = .returned (.bool (hasC r))/\Kept w w'):=hasC_x b o n c r w hB hV hn hk;have hK6:=hk.ok.K;clear hB hV hk hg hG;go_enter Tryz.func213,Tryz.ntmps213;go_upto_region 1 with fail
 go_cut [13] from 3 (fun v W=>v = .bool r.bad/\Kept w W)
 case first=>
  by_cases h3:r.hd.K=3
  ·have eK:((r.hd.K:Int) == 3)=true:=by rw[beq_iff_eq];omega
   have HE:Hid (r.bad = !hasC r):=by show r.bad = !hasC r;unfold Rw.bad;rw[decide_eq_true h3];rfl
   generalize hasC r=HC at *;generalize r.hd.K=KK at *;subst h3;go_wp2_with fail;refine FH.out.mono ?_;rintro e w1 ⟨rfl,hk1⟩;go_wp2_with fail
   all_goals
    go_meet
    case rel=>exact ⟨by rw[HE.out],hk1⟩
  ·have eK:((r.hd.K:Int) == 3)=false:=by rw[beq_eq_false_iff_ne];omega
   have HE:Hid (r.bad=false):=by show r.bad=false;unfold Rw.bad;rw[decide_eq_false h3];rfl
   generalize r.hd.K=KK at *;go_wp2_with fail;go_meet
   case rel=>exact ⟨by rw[HE.out],Kept.refl _⟩
 case rest=>
  obtain ⟨hv,hkc⟩:=hcut;clear k3 FH;have B1:Hid (Blk wc b n c):=HB.out.kept hkc;have F1:Hid (Fr1 b w wc):=Fr.of_kept hkc;clear HB hkc;by_cases hbad:r.bad=true
  ·have HE:Hid (r.endRow=(r,16)):=by show r.endRow=(r,16);unfold Rw.endRow;rw[hbad];rfl
   rw[hbad] at hv;subst hv;go_wp2_with fail;go_ret;rw[HE.out];exact ⟨rfl,c,B1.out,HV.out,FrC.refl _ _ _ _,F1.out⟩
  ·have hbad':r.bad=false:=by simpa using hbad
   clear hbad;rw[hbad'] at hv;subst hv;have HE:Hid (r.endRow=(if r.lines<=r.line+1 then r.laid.next else r.laid,0)):=by show r.endRow=_;unfold Rw.endRow;rw[hbad'];rfl
   go_wp2_with fail;refine (layPixels_x b o n c r _ B1.out HV.out hn HK.out HGeo.out (HG.out _ F1.out) hb).mono ?_;rintro e w2 ⟨rfl,d,hB2,hV2,hC2,hF2⟩;have B2:Hid (Blk w2 b n d):=hB2;have V2:Hid (RwV d o (layPx r r.columns)):=hV2;have C2:Hid (FrC b o (o+1549) c d):=hC2;have F2:Hid (Fr1 b w w2):=F1.out.trans hF2;clear hB2 hV2 hC2 hF2 B1 F1;have HSm:Hid (same1 (layPx r r.columns) r):=layPx_same r _;have V3:Hid (RwV (updL d (o+141) 128 (fun j=>d (o+13+j))) o { layPx r r.columns with above:=(layPx r r.columns).row }):=V2.out.lay_above';obtain ⟨cs,hcs⟩:∃ cs,cs=(List.range 128).map (fun j=>d (o+13+j)):=⟨_,rfl⟩;have hcl:cs.length=128:=by rw[hcs];simp
   have hca:∀ j,j<128->cs[j]? = some (d (o+13+j)):=fun j hj=>by rw[hcs,List.getElem?_map,List.getElem?_range hj];rfl
   have hone:∀ v ∈ cs,v.oneCell'=true:=by
    intro v hv;rw[hcs,List.mem_map] at hv;obtain ⟨j,hj,rfl⟩:=hv;rw[V2.out.row j (List.mem_range.1 hj)];rfl
   have hrr:Hid (w2.rangeAt b (o+13) cs):=by show w2.rangeAt b (o+13) cs;rw[hcs];exact B2.out.range (by omega)
   have hsc:(storeCells ⟨b,o+141,none⟩ cs).run Tryz.prog w2 = .ok () (w2.setCells b (o+141) cs):=store_all (by rw[hcl];exact B2.out.there (by omega)) hone;have hi128:Hid ((Tryz.prog.info? 85).map (·.size)=some cs.length):=by show _=_;rw[hcl];exact size128'
   have B3:Hid (Blk (w2.setCells b (o+141) cs) b n (updL d (o+141) 128 (fun j=>d (o+13+j)))):=B2.out.sets (by omega) _ hcl hca;have F3:Hid (Fr1 b w (w2.setCells b (o+141) cs)):=Fr1.sets _ _ F2.out;have C3:Hid (FrC b o (o+1549) c (updL d (o+141) 128 (fun j=>d (o+13+j)))):=C2.out.trans (FrC.updL (by omega) (by omega));replace hcs:Hid _:=hcs;replace hcl:Hid _:=hcl;replace hca:Hid _:=hca;clear hone;go_wp2;refine wp_load_mid 85 _ rfl b (o+13) rfl cs _ hrr.out Tryz.underlying85 rfl hi128.out ?_;have k11:=B3.out.at (i:=o+11) (by omega) V3.out.taken;have k7:=B3.out.at (i:=o+7) (by omega) V3.out.line;have z3:=B3.out.fz;replace k7:(w2.setCells b (o+141) cs).cell? ⟨b,o+7,none⟩=some (.int .i64 ((layPx r r.columns).line:Int)):=k7;rw[show (layPx r r.columns).line=r.line from HSm.out.2.2.2.1] at k7;have hl16:=HK.out.line;obtain ⟨LN,hLN⟩:∃ LN,LN=r.line+1:=⟨_,rfl⟩;have e1:(r.line:Int)+1=(LN:Int):=by omega
   have hLN17:LN<=17:=by omega
   have HLN:Hid (LN=r.line+1):=hLN;clear hLN;clear hrr;go_upto_region 5 with fail
   generalize w2.setCells b (o+141) cs=w3 at *;clear hsc;have B4:Hid (Blk ((w3.setCell ⟨b,o+11,none⟩ (.int .i64 0)).setCell ⟨b,o+7,none⟩ (.int .i64 (LN:Int))) b n (upd (upd (updL d (o+141) 128 (fun j=>d (o+13+j))) (o+11) (.int .i64 0)) (o+7) (.int .i64 (LN:Int)))):=(B3.out.set (by omega) _).set (by omega) _;have V4:Hid (RwV (upd (upd (updL d (o+141) 128 (fun j=>d (o+13+j))) (o+11) (.int .i64 0)) (o+7) (.int .i64 (LN:Int))) o r.laid):=by
    have:=(V3.out.set_taken 0).set_line LN
    show RwV _ o r.laid
    rw[show r.laid={ ({ ({ layPx r r.columns with above:=(layPx r r.columns).row }:Rw) with taken:=0 }:Rw) with line:=LN } from by rw[HLN.out];rfl];exact this
   have C4:Hid (FrC b o (o+1549) c (upd (upd (updL d (o+141) 128 (fun j=>d (o+13+j))) (o+11) (.int .i64 0)) (o+7) (.int .i64 (LN:Int)))):=(C3.out.trans (FrC.upd _ (by omega) (by omega))).trans (FrC.upd _ (by omega) (by omega));have F4:Hid (Fr1 b w ((w3.setCell ⟨b,o+11,none⟩ (.int .i64 0)).setCell ⟨b,o+7,none⟩ (.int .i64 (LN:Int)))):=Fr1.set (Fr1.set F3.out _ _) _ _;go_upto_region 7 with fail
   generalize (w3.setCell ⟨b,o+11,none⟩ (.int .i64 0)).setCell ⟨b,o+7,none⟩ (.int .i64 (LN:Int))=w4 at *;clear B3 V3 C3 F3 k11 k7 z3;generalize upd (upd (updL d (o+141) 128 (fun j=>d (o+13+j))) (o+11) (.int .i64 0)) (o+7) (.int .i64 (LN:Int))=d4 at *;have k7:=B4.out.at (i:=o+7) (by omega) V4.out.line;have k9:=B4.out.at (i:=o+9) (by omega) V4.out.lines;rw[show r.laid.line=LN from HLN.out.symm] at k7;rw[show r.laid.lines=r.lines from HSm.out.2.2.2.2.2.1] at k9;rw[<- HLN.out] at HE;by_cases hend:r.lines<=LN
   ·have hend':(r.lines:Int)<=(LN:Int):=by omega
    go_quiet (fail);go_wp2_with fail;refine (nextPass_x b o n d4 r.laid _ (B4.out.kept ((Kept.refl _).drewN _)) V4.out hn (laid_ok HK.out.ok) (by rw[show r.laid.columns=r.columns from HSm.out.2.2.2.2.1];exact HK.out.col) (by rw[show r.laid.pass=r.pass from HSm.out.2.2.1];have:=HK.out.pass0;omega) (by rw[show r.laid.pass=r.pass from HSm.out.2.2.1];exact HK.out.pass7) (HG.out _ (F4.out.kept ((Kept.refl _).drewN _))) hb).mono ?_;rintro e w5 ⟨rfl,d5,B5,V5,C5,F5⟩;go_wp2_with fail;go_ret;rw[HE.out,if_pos hend];exact ⟨rfl,d5,B5,V5,C4.out.trans C5,(F4.out.kept ((Kept.refl _).drewN _)).trans F5⟩
   ·have hend':¬ (r.lines:Int)<=(LN:Int):=by omega
    go_quiet (fail);go_wp2_with fail;go_ret;rw[HE.out,if_neg hend];exact ⟨rfl,d4,B4.out.kept ((Kept.refl _).drewN _),V4.out,C4.out,F4.out.kept ((Kept.refl _).drewN _)⟩
def Rw.take (r:Rw) (x:Nat):Rw × Nat:=
 if wholeP r then (r,17)
 else if r.taken=0 then ({ r with taken:=1 }:Rw).takeF x
 else if r.taken+1<=r.size then (({ r with taken:=r.taken+1 }:Rw).lay (r.taken - 1) x,0)
 else (({ r with taken:=r.taken+1 }:Rw).lay (r.taken - 1) x).endRow
theorem RwIn.taken' {r:Rw} (h:RwIn r) {m:Nat} (hm:m<=129):RwIn { r with taken:=m }:=⟨⟨h.ok.W,h.ok.H,h.ok.D,h.ok.K,h.ok.L,h.ok.filter,h.ok.row,h.ok.above⟩,h.dd,h.col,h.lns,h.line,h.fit,h.size,hm,h.pass0,h.pass7,h.colours⟩
theorem RwIn.lay {r:Rw} (h:RwIn r) (i x:Nat):RwIn (r.lay i x):=⟨⟨h.ok.W,h.ok.H,h.ok.D,h.ok.K,h.ok.L,h.ok.filter,fun j=>by
 show upd r.row i (undo r i x) j<256
 by_cases e:j=i
 ·subst e;rw[upd_same];exact Nat.mod_lt _ (by omega)
 ·rw[upd_ne _ _ _ e];exact h.ok.row j,h.ok.above⟩,h.dd,h.col,h.lns,h.line,h.fit,h.size,h.taken,h.pass0,h.pass7,h.colours⟩
theorem rtake_x (b o n x:Nat) (c:Nat->Value) (r:Rw) (w:World) (hB:Blk w b n c) (hV:RwV c o r) (hn:o+1549<=n) (hk:RwIn r) (ht:r.taken<=128) (hg:wholeP r=false->RwGeo r) (hG:GrdAt w) (hb:b≠0) (hx:x<256) :
  Calls Tryz.prog 204 #[.pointer (some ⟨b,o,none⟩),.int .u8 (x:Int)] w fun e w'=>e = .returned (.int .i64 ((r.take x).2:Int))/\RwStep b o n c (r.take x).1 w w':=by
 have HB:Hid (Blk w b n c):=hB;have HV:Hid (RwV c o r):=hV;have HK:Hid (RwIn r):=hk;have HGeo:Hid (wholeP r=false->RwGeo r):=hg;have HG:Hid (∀ W,Fr1 b w W->GrdAt W):=fun W f=>hG.fr f (fun q=>hb q.symm)
 have FW:Hid (Calls Tryz.prog 143 #[.pointer (some ⟨b,o,none⟩)] w fun e w'=>e = .returned (.bool (wholeP r))/\Kept w w'):=(whole_x b o n c r w hB hV hn).mono (fun e w' ⟨h1,q,h2⟩=>⟨h1,by rw[h2];exact (Kept.refl _).drewN _⟩);clear hB hV hk hG hg;go_enter Tryz.func204,Tryz.ntmps204;go_wp2_with fail;refine FW.out.mono ?_;rintro e w1 ⟨rfl,hk1⟩;have B1:Hid (Blk w1 b n c):=HB.out.kept hk1;have F1:Hid (Fr1 b w w1):=Fr.of_kept hk1;clear HB hk1 FW;cases hw:wholeP r with
 | true=>
  have HE:Hid (r.take x=(r,17)):=by show r.take x=(r,17);unfold Rw.take;rw[hw];rfl
  go_wp2_with fail;go_ret;rw[HE.out];exact ⟨rfl,c,B1.out,HV.out,FrC.refl _ _ _ _,F1.out⟩
 | false=>
  have HE:Hid (r.take x=if r.taken=0 then ({ r with taken:=1 }:Rw).takeF x
    else if r.taken+1<=r.size then (({ r with taken:=r.taken+1 }:Rw).lay (r.taken - 1) x,0)
    else (({ r with taken:=r.taken+1 }:Rw).lay (r.taken - 1) x).endRow):=by show r.take x=_;unfold Rw.take;rw[hw];rfl
  have HGe:Hid (RwGeo r):=HGeo.out hw;clear HGeo hw;have k11:=B1.out.at (i:=o+11) (by omega) HV.out.taken;have z11:=B1.out.fz (o+11);obtain ⟨T,hT⟩:∃ T,T=r.taken+1:=⟨_,rfl⟩;have eT:(r.taken:Int)+1=(T:Int):=by omega
  have HT:Hid (T=r.taken+1):=hT;have hT0:1<=T:=by omega
  have hT9:T<=129:=by omega
  clear hT;have B2:Hid (Blk (w1.setCell ⟨b,o+11,none⟩ (.int .i64 (T:Int))) b n (upd c (o+11) (.int .i64 (T:Int)))):=B1.out.set (by omega) _;have V2:Hid (RwV (upd c (o+11) (.int .i64 (T:Int))) o { r with taken:=T }):=HV.out.set_taken T;have F2:Hid (Fr1 b w (w1.setCell ⟨b,o+11,none⟩ (.int .i64 (T:Int)))):=Fr1.set F1.out _ _;have C2:Hid (FrC b o (o+1549) c (upd c (o+11) (.int .i64 (T:Int)))):=FrC.upd _ (by omega) (by omega);go_upto_region 4 with fail
  generalize w1.setCell ⟨b,o+11,none⟩ (.int .i64 (T:Int))=w2 at *;generalize upd c (o+11) (.int .i64 (T:Int))=c2 at *;clear k11 z11 B1 F1 HV;have k11:=B2.out.at (i:=o+11) (by omega) V2.out.taken;replace k11:w2.cell? ⟨b,o+11,none⟩=some (.int .i64 (T:Int)):=k11;by_cases h1:T=1
  ·have h1':((T:Int) == 1)=true:=by rw[beq_iff_eq];omega
   have HE2:Hid (r.take x=({ r with taken:=T }:Rw).takeF x):=by show r.take x=_;rw[HE.out,if_pos (by have:=HT.out;omega),h1]
   replace h1:Hid _:=h1;go_wp2_with fail;refine (takeFilter_x b o n x c2 { r with taken:=T } w2 B2.out V2.out hn hx).mono ?_;rintro e w3 ⟨rfl,d,B3,V3,C3,F3⟩;go_wp2_with fail;go_ret;rw[HE2.out];exact ⟨rfl,d,B3,V3,C2.out.trans C3,F2.out.trans F3⟩
  ·have h1':((T:Int) == 1)=false:=by rw[beq_eq_false_iff_ne];omega
   obtain ⟨J,hJ⟩:∃ J,J=r.taken - 1:=⟨_,rfl⟩;have eJ:(T:Int) - 2=(J:Int):=by have:=HT.out;omega
   have hJ8:J<128:=by have:=HT.out;omega
   have HE2:Hid (r.take x=if T<=r.size then (({ r with taken:=T }:Rw).lay J x,0) else (({ r with taken:=T }:Rw).lay J x).endRow):=by show r.take x=_;rw[HE.out,if_neg (by have:=HT.out;omega),hJ,HT.out]
   clear HE hJ;go_wp2_with fail;refine (lay_x b o n J x c2 { r with taken:=T } w2 B2.out V2.out hn (HK.out.taken' hT9).ok hJ8 hx).mono ?_;rintro e w3 ⟨rfl,d,hB3,hV3,hC3,hF3⟩;have B3:Hid (Blk w3 b n d):=hB3;have V3:Hid (RwV d o (({ r with taken:=T }:Rw).lay J x)):=hV3;have C3:Hid (FrC b o (o+1549) c d):=C2.out.trans hC3;have F3:Hid (Fr1 b w w3):=F2.out.trans hF3;have k11:=hB3.at (i:=o+11) (by omega) hV3.taken;have k10:=hB3.at (i:=o+10) (by omega) hV3.size;replace k11:w3.cell? ⟨b,o+11,none⟩=some (.int .i64 (T:Int)):=k11;replace k10:w3.cell? ⟨b,o+10,none⟩=some (.int .i64 (r.size:Int)):=k10;have HG3:Hid (RwGeo (({ r with taken:=T }:Rw).lay J x)):=⟨HGe.out.px,HGe.out.py⟩;clear hB3 hV3 hC3 hF3 B2 V2 C2 F2;by_cases h2:T<=r.size
   ·have h2':(T:Int)<=(r.size:Int):=by omega
    go_wp2_with fail;go_quiet (fail);go_wp2_with fail;go_ret;rw[HE2.out,if_pos h2];exact ⟨rfl,d,B3.out.kept ((Kept.refl _).drewN _),V3.out,C3.out,F3.out.kept ((Kept.refl _).drewN _)⟩
   ·have h2':¬ (T:Int)<=(r.size:Int):=by omega
    go_wp2_with fail;go_quiet (fail);go_wp2_with fail;refine (endRow_x b o n d _ _ (B3.out.kept ((Kept.refl _).drewN _)) V3.out hn ((HK.out.taken' hT9).lay J x) HG3.out (HG.out _ (F3.out.kept ((Kept.refl _).drewN _))) hb).mono ?_;rintro e w4 ⟨rfl,d4,B4,V4,C4,F4⟩;go_wp2_with fail;go_ret;rw[HE2.out,if_neg h2];exact ⟨rfl,d4,B4,V4,C3.out.trans C4,(F3.out.kept ((Kept.refl _).drewN _)).trans F4⟩
def rw0 (h:Hd) (k:Nat):Rw:=⟨h,k,-1,0,0,0,0,0,0,fun _=>0,fun _=>0,fun _=>false,fun _=>0⟩
def Rw.start (h:Hd) (k:Nat):Rw:=(rw0 h k).next
theorem zero1549:Tryz.zeroCells91.toList=List.replicate 12 (.int .i64 0)++(List.replicate 257 (.int .u8 0)++(List.replicate 256 (.bool false)++List.replicate 1024 (.int .u16 0))):=by kernel_rfl
theorem size1549:Tryz.zeroCells91.size=1549:=by
 rw[<- Array.length_toList,zero1549,List.length_append,List.length_append,List.length_append,List.length_replicate,List.length_replicate,List.length_replicate,List.length_replicate]
theorem info1549:(Tryz.prog.info? 91).map (·.size)=some 1549:=by kernel_rfl
theorem getD_skip (l r:List Value) (n j:Nat) (hl:l.length=n):(l++r).getD (n+j) undef=r.getD j undef:=by
 rw[List.getD_eq_getElem?_getD,List.getD_eq_getElem?_getD,List.getElem?_append_right (by omega),show n+j - l.length=j from by omega]
theorem getD_rep (n j:Nat) (v:Value) (r:List Value) (hj:j<n):(List.replicate n v++r).getD j undef=v:=by
 rw[List.getD_eq_getElem?_getD,List.getElem?_append_left (by rw[List.length_replicate];exact hj),List.getElem?_replicate,if_pos hj];rfl
theorem Blk.new (w:World) (A:Array Value) (t:TypeId) (n:Nat) (hn:A.size=n):Blk (w.alloc (Obj.cells A t)) w.heap.size n (fun i=>A.getD i undef):=by
 refine ⟨fun i hi => ?_,fun i=>World.frozen?_alloc_at _ _ _ _ rfl,by simp⟩;rw[World.cell?_alloc_at _ _ _ _ rfl];show A[i]? = some (A.getD i undef)
 rw[Array.getD_eq_getD_getElem?,Array.getElem?_eq_getElem (by omega)];rfl
def rwTail:List Value:=List.replicate 257 (.int .u8 0)++(List.replicate 256 (.bool false)++List.replicate 1024 (.int .u16 0))
theorem rwTail_len:rwTail.length=1537:=by unfold rwTail;rw[List.length_append,List.length_append,List.length_replicate,List.length_replicate,List.length_replicate]
theorem rwTail_u8 (j:Nat) (hj:j<257):rwTail.getD j undef = .int .u8 0:=getD_rep _ _ _ _ hj
theorem rwTail_bl (j:Nat) (hj:j<256):rwTail.getD (257+j) undef = .bool false:=(getD_skip _ _ 257 j (List.length_replicate ..)).trans (getD_rep _ _ _ _ hj)
theorem rwTail_u16 (j:Nat) (hj:j<1024):rwTail.getD (257+(256+j)) undef = .int .u16 0:=(getD_skip _ _ 257 _ (List.length_replicate ..)).trans ((getD_skip _ _ 256 j (List.length_replicate ..)).trans (by
 have:=getD_rep 1024 j (.int .u16 0) [] hj
 rw[List.append_nil] at this;exact this))
theorem rwZero:Tryz.zeroCells91.toList=List.replicate 12 (.int .i64 0)++rwTail:=zero1549
theorem set12 (a0 a1 a2 a3 a4 a5 a6 z:Value) (T:List Value):((((((((List.replicate 12 z++T).set 0 a0).set 1 a1).set 2 a2).set 3 a3).set 4 a4).set 5 a5).set 6 a6)=[a0,a1,a2,a3,a4,a5,a6,z,z,z,z,z]++T:=rfl
theorem getD_front (l r:List Value) (i:Nat) (h:i<l.length):(l++r).getD i undef=l.getD i undef:=by
 rw[List.getD_eq_getElem?_getD,List.getD_eq_getElem?_getD,List.getElem?_append_left h]
theorem lay_rw (h:Hd) (k:Nat):∃ A:List Value,(((((((Tryz.zeroCells91.toList.set 0 (.int .i64 (h.W:Int))).set 1 (.int .i64 (h.H:Int))).set 2 (.int .i64 (h.D:Int))).set 3 (.int .i64 (h.K:Int))).set 4 (.int .i64 (h.L:Int))).set 5 (.int .i64 (k:Int))).set 6 (.int .i64 (-1)))=A/\A.length=1549/\RwV (fun j=>A.getD j undef) 0 (rw0 h k):=by
 rw[rwZero,set12];refine ⟨_,rfl,by rw[List.length_append,rwTail_len];rfl,?_⟩;obtain ⟨L,hL⟩:∃ L,L=[Value.int .i64 (h.W:Int),.int .i64 (h.H:Int),.int .i64 (h.D:Int),.int .i64 (h.K:Int),.int .i64 (h.L:Int),.int .i64 (k:Int),.int .i64 (-1),.int .i64 0,.int .i64 0,.int .i64 0,.int .i64 0,.int .i64 0]:=⟨_,rfl⟩;rw[<- hL];have h12:L.length=12:=by rw[hL];rfl
 have g:∀ i v,i<12->L.getD i undef=v->(L++rwTail).getD i undef=v:=fun i v hi e=>(getD_front _ _ i (by omega)).trans e
 have t:∀ i j v,i=12+j->rwTail.getD j undef=v->(L++rwTail).getD i undef=v:=fun i j v hi e=>by rw[hi];exact (getD_skip _ _ 12 j h12).trans e
 exact ⟨⟨g 0 _ (by omega) (by rw[hL];rfl),g 1 _ (by omega) (by rw[hL];rfl),g 2 _ (by omega) (by rw[hL];rfl),g 3 _ (by omega) (by rw[hL];rfl),g 4 _ (by omega) (by rw[hL];rfl)⟩,g 5 _ (by omega) (by rw[hL];rfl),g 6 _ (by omega) (by rw[hL];rfl),g 7 _ (by omega) (by rw[hL];rfl),g 8 _ (by omega) (by rw[hL];rfl),g 9 _ (by omega) (by rw[hL];rfl),g 10 _ (by omega) (by rw[hL];rfl),g 11 _ (by omega) (by rw[hL];rfl),t 12 0 _ rfl (rwTail_u8 0 (by omega)),fun i hi=>t _ (1+i) _ (by omega) (rwTail_u8 _ (by omega)),fun i hi=>t _ (129+i) _ (by omega) (rwTail_u8 _ (by omega)),fun i hi=>t _ (257+i) _ (by omega) (rwTail_bl _ hi),fun i hi=>t _ (257+(256+i)) _ (by omega) (rwTail_u16 _ hi)⟩
theorem RwV.one {c:Nat->Value} {o:Nat} {r:Rw} (h:RwV c o r) (i:Nat) (hi:i<1549):(c (o+i)).oneCell'=true:=by
 by_cases h0:i<13
 ·have:i=0\/i=1\/i=2\/i=3\/i=4\/i=5\/i=6\/i=7\/i=8\/i=9\/i=10\/i=11\/i=12:=by omega
  rcases this with rfl | rfl | rfl | rfl | rfl | rfl | rfl | rfl | rfl | rfl | rfl | rfl | rfl
  ·rw[show c (o+0)=_ from h.hd.W];rfl
  ·rw[h.hd.H];rfl
  ·rw[h.hd.D];rfl
  ·rw[h.hd.K];rfl
  ·rw[h.hd.L];rfl
  ·rw[h.colours];rfl
  ·rw[h.pass];rfl
  ·rw[h.line];rfl
  ·rw[h.columns];rfl
  ·rw[h.lines];rfl
  ·rw[h.size];rfl
  ·rw[h.taken];rfl
  ·rw[h.filter];rfl
 ·by_cases h1:i<141
  ·have:=h.row (i - 13) (by omega)
   rw[show o+13+(i - 13)=o+i from by omega] at this;rw[this];rfl
  ·by_cases h2:i<269
   ·have:=h.above (i - 141) (by omega)
    rw[show o+141+(i - 141)=o+i from by omega] at this;rw[this];rfl
   ·by_cases h3:i<525
    ·have:=h.known (i - 269) (by omega)
     rw[show o+269+(i - 269)=o+i from by omega] at this;rw[this];rfl
    ·have:=h.smp (i - 525) (by omega)
     rw[show o+525+(i - 525)=o+i from by omega] at this;rw[this];rfl
def hdV (h:Hd):Value := .agg #[.int .i64 (h.W:Int),.int .i64 (h.H:Int),.int .i64 (h.D:Int),.int .i64 (h.K:Int),.int .i64 (h.L:Int)]
theorem range_len (c:Nat->Value) (m:Nat):((List.range m).map c).length=m:=by rw[List.length_map,List.length_range]
theorem range_getD (c:Nat->Value) (m j:Nat) (hj:j<m):((List.range m).map c).getD j undef=c j:=by
 rw[List.getD_eq_getElem?_getD,List.getElem?_map,List.getElem?_range hj];rfl
theorem range_get (c:Nat->Value) (m j:Nat) (hj:j<m):((List.range m).map c)[j]? = some (c j):=by
 rw[List.getElem?_map,List.getElem?_range hj];rfl
theorem rbegin_x (h:Hd) (k:Nat) (w:World) (hW:h.W<=16) (hH:h.H<=16) (hD:h.D<=16) (hK:h.K<=6) (hL:h.L<=1) (hG:GrdAt w) :
  Calls Tryz.prog 140 #[hdV h,.int .i64 (k:Int)] w fun e w'=>∃ cs:List Value,e = .returned (.agg cs.toArray)/\cs.length=1549/\RwV (fun i=>cs.getD i undef) 0 (Rw.start h k)/\(∀ v ∈ cs,v.oneCell'=true)/\Kept w w':=by
 unfold hdV;obtain ⟨A,hAe,hAl,hAV⟩:=lay_rw h k;have aone:∀ v ∈ A,v.oneCell'=true:=by
  intro v hv;obtain ⟨j,hj,e⟩:=List.getElem_of_mem hv
  have:=hAV.one j (by omega)
  rw[Nat.zero_add,List.getD_eq_getElem?_getD,List.getElem?_eq_getElem hj] at this;rw[<- e];exact this
 have hgs:0<w.heap.size:=World.block_lt_of_cell? _ _ (hG 0 (by omega));obtain ⟨w1,hw1⟩:∃ w1,w1=w.alloc (Obj.cells #[.int .i64 (h.W:Int),.int .i64 (h.H:Int),.int .i64 (h.D:Int),.int .i64 (h.K:Int),.int .i64 (h.L:Int)] 66):=⟨_,rfl⟩;have hs1:w1.heap.size=w.heap.size+1:=by rw[hw1];simp
 have hk1:Kept w w1:=by rw[hw1];exact Below.alloc (Below.refl _ _) (Nat.le_refl _) _
 obtain ⟨w2,hw2⟩:∃ w2,w2=w1.alloc (Obj.cells Tryz.zeroCells91 91):=⟨_,rfl⟩;have hs2:w2.heap.size=w.heap.size+1+1:=by rw[hw2];simp [hs1]
 have hk2:Kept w1 w2:=by rw[hw2];exact Below.alloc (Below.refl _ _) (Nat.le_refl _) _
 have B2:=Blk.new w1 Tryz.zeroCells91 91 1549 size1549;rw[<- hw2,hs1] at B2;obtain ⟨w3,hw3⟩:∃ w3,w3=w2.alloc (Obj.cells Tryz.zeroCells91 91):=⟨_,rfl⟩;have hk3:Kept w2 w3:=by rw[hw3];exact Below.alloc (Below.refl _ _) (Nat.le_refl _) _
 have B3:=Blk.new w2 Tryz.zeroCells91 91 1549 size1549;rw[<- hw3,hs2] at B3;have B2':Blk w3 (w.heap.size+1) 1549 _:=B2.kept hk3;have hsc:(storeCells ⟨w.heap.size+1+1,0,none⟩ A).run Tryz.prog w3 = .ok () (w3.setCells (w.heap.size+1+1) 0 A):=store_all (by rw[hAl];exact B3.there (by omega)) aone;have B4:Blk (w3.setCells (w.heap.size+1+1) 0 A) (w.heap.size+1+1) 1549 _:=B3.sets (k:=0) (m:=1549) (by omega) (fun j=>A.getD j undef) hAl (fun j hj=>by
  show A[j]? = some (A.getD j undef)
  rw[List.getD_eq_getElem?_getD,List.getElem?_eq_getElem (by omega)];rfl)
 have V4:=hAV.congr (d:=updL (fun i=>Tryz.zeroCells91.getD i undef) 0 1549 (fun j=>A.getD j undef)) (fun i _ hi=>by
  have:=updL_in (c:=fun i=>Tryz.zeroCells91.getD i undef) (k:=0) (f:=fun j=>A.getD j undef) (show i<1549 by omega)
  rw[Nat.zero_add] at this;exact this)
 have F4:Fr1 (w.heap.size+1+1) w3 (w3.setCells (w.heap.size+1+1) 0 A):=Fr1.sets _ _ (Fr.refl _ _);have K4:Kept w (w3.setCells (w.heap.size+1+1) 0 A):=Fr.to_kept (S:=fun j=>j=w.heap.size+1+1) ((hk1.trans hk2).trans hk3) F4 (fun i hi e=>by omega);have B24:Blk (w3.setCells (w.heap.size+1+1) 0 A) (w.heap.size+1) 1549 _:=B2'.fr F4 (by omega);have G4:GrdAt (w3.setCells (w.heap.size+1+1) 0 A):=hG.kept K4;have FN:Hid (∀ W,W=w3.setCells (w.heap.size+1+1) 0 A->Calls Tryz.prog 165 #[.pointer (some ⟨w.heap.size+1+1,0,none⟩)] W fun e w'=>e = .returned (.tuple #[])/\RwStep (w.heap.size+1+1) 0 1549 (updL (fun i=>Tryz.zeroCells91.getD i undef) 0 1549 (fun j=>A.getD j undef)) (Rw.start h k) W w'):=fun W e=>by
  rw[e];exact nextPass_x _ 0 1549 _ (rw0 h k) _ B4 V4 (by omega) ⟨hW,hH,hD,hK,hL,by show (0:Nat)<256;omega,fun i=>by show (0:Nat)<256;omega,fun i=>by show (0:Nat)<256;omega⟩ (by show (0:Nat)<=16;omega) (by show (-1:Int) <= -1;omega) (by show (-1:Int)<=7;omega) G4 (by omega)
 rw[hw3,hw2,hw1] at hsc;replace B24:Hid _:=B24;replace K4:Hid _:=K4;rw[hw3,hw2,hw1] at FN B24 K4;clear hAV aone hw1 hw2 hw3 hk1 hk2 hk3 B2 B3 B2' B4 V4 F4 G4 hG hs1 hs2;replace hAl:Hid _:=hAl;go_enter Tryz.func140,Tryz.ntmps140;go_wp2_with fail;refine (FN.out _ rfl).mono ?_;rintro e w5 ⟨rfl,d,hB5,hV5,hC5,hF5⟩;have B5:Hid (Blk w5 (w.heap.size+1+1) 1549 d):=hB5;have B25:Hid (Blk w5 (w.heap.size+1) 1549 (fun i=>Tryz.zeroCells91.getD i undef)):=B24.out.fr hF5 (by omega);have K5:Hid (Kept w w5):=Fr.to_kept (S:=fun j=>j=w.heap.size+1+1) K4.out hF5 (fun i hi e=>by omega);obtain ⟨cs,hcs⟩:∃ cs,cs=(List.range 1549).map d:=⟨_,rfl⟩;have hcl:cs.length=1549:=by rw[hcs];exact range_len d 1549
 have HV:Hid (RwV (fun i=>cs.getD i undef) 0 (Rw.start h k)):=hV5.congr (fun i _ hi=>by show cs.getD i undef=d i;rw[hcs];exact range_getD d 1549 i (by omega));have hone:∀ v ∈ cs,v.oneCell'=true:=by
  intro v hv;rw[hcs,List.mem_map] at hv;obtain ⟨j,hj,rfl⟩:=hv
  have:=hV5.one j (List.mem_range.1 hj)
  rw[Nat.zero_add] at this;exact this
 have hcr:Hid (w5.rangeAt (w.heap.size+1+1) 0 cs):=by
  show w5.rangeAt (w.heap.size+1+1) 0 cs
  have:=hB5.range (k:=0) (m:=1549) (by omega)
  rw[hcs];rw[show (fun j=>d (0+j))=d from funext (fun j=>by rw[Nat.zero_add])] at this;exact this
 have hi:Hid ((Tryz.prog.info? 91).map (·.size)=some cs.length):=by show _=_;rw[hcl];exact info1549
 have ht:Hid (w5.there (w.heap.size+1) 0 cs.length):=by show w5.there _ 0 cs.length;rw[hcl];exact B25.out.there (by omega)
 have hsc5:(storeCells ⟨w.heap.size+1,0,none⟩ cs).run Tryz.prog w5 = .ok () (w5.setCells (w.heap.size+1) 0 cs):=store_all ht.out hone;have hld:Hid ((loadVar 91 ⟨w.heap.size+1,0,none⟩).run Tryz.prog (w5.setCells (w.heap.size+1) 0 cs) = .ok (.agg cs.toArray) (w5.setCells (w.heap.size+1) 0 cs)) :=
  run_loadVar_mid _ _ _ _ cs _ (World.rangeAt_setCells_same _ _ _ _ ht.out) Tryz.underlying91 rfl hi.out
 have K6:Hid (Kept w (w5.setCells (w.heap.size+1) 0 cs)):=Fr.to_kept (S:=fun j=>j=w.heap.size+1) K5.out (Fr1.sets _ _ (Fr.refl _ _)) (fun i hi e=>by omega);replace hcs:Hid _:=hcs;replace hcl:Hid _:=hcl;replace hone:Hid _:=hone;clear hsc FN hB5 hV5 hC5 hF5 B24 K4 hAe hAl;go_wp2_with fail;refine wp_load_mid 91 _ rfl (w.heap.size+1+1) 0 rfl cs _ hcr.out Tryz.underlying91 rfl hi.out ?_;go_wp2;refine bodyPost_ret (v := .agg cs.toArray) ?_ rfl ⟨cs,rfl,hcl.out,HV.out,hone.out,K6.out⟩;exact results_cell1 rfl _ _ _ _ _ rfl hld.out
