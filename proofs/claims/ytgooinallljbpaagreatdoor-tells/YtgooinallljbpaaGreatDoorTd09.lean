import Derived.Test.YtgooinallljbpaaGreatDoorTd08
set_option maxRecDepth 100000
set_option maxHeartbeats 6400000
namespace Go.Proofs.YtgooinallljbpaaGreatDoor
open Go.RowKit Px
set_option linter.unusedSimpArgs false
set_option linter.unusedVariables false
def bU:Nat->Nat->St->Rw->Nat->St × Rw × Nat
 | 0,_,s,r,_=>(s,r,0)
 | k+1,i,s,r,x=>if s.skip then (s,r,0) else if (aW s r (x / 2^i % 2)).2.2=0 then bU k (i+1) (aW s r (x / 2^i % 2)).1 (aW s r (x / 2^i % 2)).2.1 x else aW s r (x / 2^i % 2)
def oe:Nat->Nat->St->Rw->Nat->Prop
 | 0,_,_,_,_=>True
 | k+1,i,s,r,x=>s.skip=true\/(xE s r (x / 2^i % 2)/\((aW s r (x / 2^i % 2)).2.2=0->oe k (i+1) (aW s r (x / 2^i % 2)).1 (aW s r (x / 2^i % 2)).2.1 x))
def takeB (s:St) (r:Rw) (x:Nat):St × Rw × Nat:=if s.part=10 then (s,r,20) else bU 8 0 { s with skip:=false } r x
structure BtR (b o n:Nat) (c:Nat->Value) (w:World) (x i:Nat) (T:St × Rw × Nat) (d:Nat->Value) (s:St) (r:Rw) (W:World):Prop where
 B:Blk W b n d
 S:StV d o s
 R:RwV d (o+3351) r
 C:FrC b o (o+4900) c d
 F:Fr1 b w W
 i8:i<=8
 eq:bU (8 - i) i s r x=T
 ok:oe (8 - i) i s r x
theorem Jq (x i:Nat) (hx:x<256):bits .and .u32 ((x:Int) / 2^i) 1=((x / 2^i % 2:Nat):Int):=by
 have e:(x:Int) / 2^i=((x / 2^i:Nat):Int):=by simp
 rw[e];exact rL _ (Nat.lt_of_le_of_lt (Nat.div_le_self _ _) (by omega))
theorem Gd (x i:Nat) (hx:x<256):bits .and .u32 ((x:Int) / 2^i % 4294967296) 1=((x / 2^i % 2:Nat):Int):=by
 have e:(x:Int) / 2^i=((x / 2^i:Nat):Int):=by simp
 have h:x / 2^i<=x:=Nat.div_le_self _ _;obtain ⟨q,hq⟩:∃ q,q=x / 2^i:=⟨_,rfl⟩;rw[<- Jq x i hx,e];rw[<- hq] at h ⊢;rw[Int.emod_eq_of_lt (by omega) (by omega)]
theorem C9 (b o n x:Nat) (c:Nat->Value) (s:St) (r:Rw) (w:World) (hB:Blk w b n c) (hS:StV c o s) (hR:RwV c (o+3351) r) (hn:o+4900<=n) (hk':s.part≠10->oe 8 0 { s with skip:=false } r x) (hG:bg w) (hb:NT b) (hx:x<256) :
  Calls Tryz.prog 126 #[.pointer (some ⟨b,o,none⟩),.int .u8 (x:Int),.pointer (some ⟨b,o+3351,none⟩)] w fun e w'=>e = .returned (.int .i64 ((takeB s r x).2.2:Int))/\ao b o n c (takeB s r x).1 (takeB s r x).2.1 w w':=by
 by_cases hp:s.part=10
 ·have H0:Hid (ao b o n c s r w w):=ao.refl hB hS hR
  have FE:Hid (Calls Tryz.prog 84 #[.pointer (some ⟨b,o,none⟩)] w fun e w'=>e = .returned (.bool true)/\w'=w):=by
   have:=ub b o n c s w hB hS (by omega)
   rw[decide_eq_true hp] at this;exact this
  have HT:Hid (takeB s r x=(s,r,20)):=if_pos hp;clear hB hS hR hk' hG hp;go_enter Tryz.func126,Tryz.ntmps126;go_wp2_with fail;refine FE.out.mono ?_;rintro e w1 ⟨rfl,hw1⟩;subst w1;go_wp2_with fail;go_ret;rw[HT.out];exact ⟨rfl,H0.out⟩
 have hk:=hk' hp;clear hk';have k7:=hB.at (i:=o+7) (by omega) hS.skip;have z:=hB.fz (o+7);have FE:Hid (Calls Tryz.prog 84 #[.pointer (some ⟨b,o,none⟩)] w fun e w'=>e = .returned (.bool false)/\w'=w):=by
  have:=ub b o n c s w hB hS (by omega)
  rw[decide_eq_false hp] at this;exact this
 have HG:Hid (∀ W,Fr1 b w W->bg W):=fun W f=>hG.fr f hb
 obtain ⟨T,hT⟩:∃ T,T=takeB s r x:=⟨_,rfl⟩;rw[<- hT];have H0:Hid (BtR b o n c w x 0 T (upd c (o+7) (.bool false)) { s with skip:=false } r (w.setCell ⟨b,o+7,none⟩ (.bool false))) :=
  ⟨hB.set (by omega) _,hS.set_skip false,hR.congr (fun i h1 h2=>upd_ne _ _ _ (by omega)),FrC.upd _ (by omega) (by omega),Fr1.set (Fr.refl _ _) _ _,by omega,by rw[hT];exact (if_neg hp).symm,hk⟩
 clear hT hB hS hR hk hG hp;go_enter Tryz.func126,Tryz.ntmps126;go_wp2_with fail;refine FE.out.mono ?_;rintro e w1 ⟨rfl,hw1⟩;subst w1;go_wp2_with fail;go_loopg [7,8] 8 (fun k v u W=>∃ i d,∃ s':St,∃ r':Rw,k=8 - i/\v = .int .u64 (i:Int)/\BtR b o n c w x i T d s' r' W)
 case atStart=>exact ⟨0,_,_,_,rfl,rfl,H0.out⟩
 case round=>
  obtain ⟨i,d,s',r',hgk,rfl,hI⟩:=hrel;clear H0 FE k7 z;have HI:Hid (BtR b o n c w x i T d s' r' wr):=hI;replace hgk:Hid _:=hgk;have hi8:=hI.i8;have k7:=hI.B.at (i:=o+7) (by omega) hI.S.skip;clear hI;by_cases h8:i<8
  ·have h8':(i:Int)<8:=by omega
   obtain ⟨m,hm⟩:∃ m,8 - i=m+1:=⟨7 - i,by omega⟩;cases hsk:s'.skip with
   | true=>
    rw[hsk] at k7;have HT:Hid (T=(s',r',0)):=by
     show T=_
     rw[<- HI.out.eq,hm];show bU (m+1) i s' r' x=_
     rw[bU,hsk];exact if_pos rfl
    replace hsk:Hid _:=hsk;replace hm:Hid _:=hm;go_wp2_with fail;go_ret;rw[HT.out];exact ⟨rfl,d,HI.out.B,HI.out.S,HI.out.R,HI.out.C,HI.out.F⟩
   | false=>
    rw[hsk] at k7;obtain ⟨t,ht⟩:∃ t,t=x / 2^i % 2:=⟨_,rfl⟩;have et:bits .and .u32 ((x:Int) / 2^i % 4294967296) 1=(t:Int):=by rw[ht];exact Gd x i hx
    have HT:Hid (T=if (aW s' r' t).2.2=0 then bU m (i+1) (aW s' r' t).1 (aW s' r' t).2.1 x else aW s' r' t):=by
     show T=_
     rw[<- HI.out.eq,hm];show bU (m+1) i s' r' x=_
     rw[bU,hsk,ht];exact if_neg (by decide)
    have HO:Hid (xE s' r' t/\((aW s' r' t).2.2=0->oe m (i+1) (aW s' r' t).1 (aW s' r' t).2.1 x)):=by
     have h:=HI.out.ok;rw[hm] at h;rw[ht];rcases h with h | h
     ·rw[hsk] at h;exact absurd h (by simp)
     ·exact h
    have ht1:t<=1:=by omega
    clear ht;have FB:Hid (Calls Tryz.prog 140 #[.pointer (some ⟨b,o,none⟩),.int .u32 (t:Int),.pointer (some ⟨b,o+3351,none⟩)] wr fun e w'=>e = .returned (.int .i64 ((aW s' r' t).2.2:Int))/\ao b o n d (aW s' r' t).1 (aW s' r' t).2.1 wr w'):=D1 b o n t d s' r' wr HI.out.B HI.out.S HI.out.R hn HO.out.1 (HG.out _ HI.out.F) hb;obtain ⟨E,hE⟩:∃ E,E=(aW s' r' t).2.2:=⟨_,rfl⟩;have HE:Hid (E=(aW s' r' t).2.2):=hE;rw[<- hE] at FB HT;rw[<- hE] at HO;replace hsk:Hid _:=hsk;replace hm:Hid _:=hm;clear hE;go_wp2_with fail;refine FB.out.mono ?_;rintro e w2 ⟨rfl,d2,hB2,hS2,hR2,hC2,hF2⟩;have B2:Hid (Blk w2 b n d2):=hB2;have S2:Hid (StV d2 o (aW s' r' t).1):=hS2;have R2:Hid (RwV d2 (o+3351) (aW s' r' t).2.1):=hR2;have C2:Hid (FrC b o (o+4900) c d2):=HI.out.C.trans hC2;have F2:Hid (Fr1 b w w2):=HI.out.F.trans hF2;clear hB2 hS2 hR2 hC2 hF2 FB;by_cases h0:E=0
    ·have h0':((E:Int) != 0)=false:=by rw[bne_eq_false_iff_eq];omega
     have HT2:Hid (T=bU m (i+1) (aW s' r' t).1 (aW s' r' t).2.1 x):=by show T=_;rw[HT.out,if_pos h0]
     have HO2:Hid (oe m (i+1) (aW s' r' t).1 (aW s' r' t).2.1 x):=HO.out.2 h0;replace h0:Hid _:=h0;go_wp2_with fail;go_roundg (8 - (i+1))
     case measure=>rw[hgk.out];omega
     case rel=>
      have hmm:8 - (i+1)=m:=by have:=hm.out;omega
      exact ⟨i+1,d2,_,_,rfl,by go_num,B2.out,S2.out,R2.out,C2.out,F2.out,by omega,by rw[hmm];exact HT2.out.symm,by rw[hmm];exact HO2.out⟩
    ·have h0':((E:Int) != 0)=true:=by rw[bne_iff_ne];omega
     have HT2:Hid (T=aW s' r' t):=by show T=_;rw[HT.out,if_neg h0]
     go_wp2_with fail;go_ret;rw[HT2.out];exact ⟨ah (by rw[HE.out]),d2,B2.out,S2.out,R2.out,C2.out,F2.out⟩
  ·have h8':¬ (i:Int)<8:=by omega
   have HT:Hid (T=(s',r',0)):=by
    show T=_
    rw[<- HI.out.eq,show 8 - i=0 from by omega];rfl
   go_wp2_with fail;go_ret;rw[HT.out];exact ⟨rfl,d,HI.out.B,HI.out.S,HI.out.R,HI.out.C,HI.out.F⟩
def cs0:CS:=⟨fun _=>0,fun _=>0,0,0⟩
def tb0:Tb:=⟨0,0,0,cs0,fun _=>0,fun _=>0,0,0⟩
def st0 (sum:Nat):St:=⟨0,0,0,0,⟨0,0,0⟩,false,0,false,0,cs0,cs0,tb0,0,0,fun _=>0,0,sum⟩
def St.start:St:=(st0 1).enter 0 16
def stH:List Value:=[.int .i64 0,.int .u32 0,.int .u64 0,.int .u64 0,.int .i64 0,.int .i64 0,.int .i64 0,.bool false,.int .i64 0,.bool false]
def stT:List Value:=List.replicate 922 (.int .i64 0)++(List.replicate 335 (.int .u8 0)++(List.replicate 4 (.int .i64 0)++List.replicate 2078 (.int .u8 0)))
theorem rM:stT.length=3339:=by unfold stT;rw[List.length_append,List.length_append,List.length_append,List.length_replicate,List.length_replicate,List.length_replicate,List.length_replicate]
theorem yV:Tryz.zeroCells63.toList=stH++(stT++[.int .i64 0,.int .u32 0]):=by kernel_rfl
theorem zR:Tryz.zeroCells63.size=3351:=by
 rw[<- Array.length_toList,yV,List.length_append,List.length_append,rM,show stH.length=10 from rfl];simp only [List.length_cons,List.length_nil]
theorem Ig:(Tryz.prog.info? 63).map (·.size)=some 3351:=by kernel_rfl
theorem MW (j:Nat) (hj:j<922):stT.getD j undef = .int .i64 0:=da _ _ _ _ hj
theorem MV (j:Nat) (hj:j<335):stT.getD (922+j) undef = .int .u8 0:=(av _ _ 922 j (List.length_replicate ..)).trans (da _ _ _ _ hj)
theorem MU (j:Nat) (hj:j<4):stT.getD (922+(335+j)) undef = .int .i64 0:=(av _ _ 922 _ (List.length_replicate ..)).trans ((av _ _ 335 j (List.length_replicate ..)).trans (da _ _ _ _ hj))
theorem MT (j:Nat) (hj:j<2078):stT.getD (922+(335+(4+j))) undef = .int .u8 0:=(av _ _ 922 _ (List.length_replicate ..)).trans ((av _ _ 335 _ (List.length_replicate ..)).trans ((av _ _ 4 j (List.length_replicate ..)).trans (by
 have:=da 2078 j (.int .u8 0) [] hj
 rw[List.append_nil] at this;exact this)))
theorem Gs (sum:Nat):StV (fun j=>(stH++(stT++[Value.int .i64 0,.int .u32 (sum:Int)])).getD j undef) 0 (st0 sum):=by
 have h10:stH.length=10:=rfl;obtain ⟨L,hL⟩:∃ L,L=stH++(stT++[Value.int .i64 0,.int .u32 (sum:Int)]):=⟨_,rfl⟩;rw[<- hL];have g:∀ i v,i<10->stH.getD i undef=v->L.getD i undef=v:=fun i v hi e=>by rw[hL];exact (fM _ _ i (by rw[h10];exact hi)).trans e
 have t:∀ j v,j<3339->stT.getD j undef=v->L.getD (10+j) undef=v:=fun j v hj e=>by
  rw[hL];exact (av _ _ 10 j h10).trans ((fM _ _ j (by rw[rM];exact hj)).trans e)
 have u:∀ j v,[Value.int .i64 0,.int .u32 (sum:Int)].getD j undef=v->L.getD (3349+j) undef=v:=fun j v e=>by
  rw[hL,show 3349+j=10+(3339+j) from by omega];exact (av _ _ 10 _ h10).trans ((av _ _ 3339 j rM).trans e)
 have A:∀ i,10<=i->i<932->L.getD i undef = .int .i64 0:=fun i h1 h2=>by
  have:=t (i - 10) _ (by omega) (MW (i - 10) (by omega))
  rw[show 10+(i - 10)=i from by omega] at this;exact this
 have B:∀ i,932<=i->i<1267->L.getD i undef = .int .u8 0:=fun i h1 h2=>by
  have:=t (922+(i - 932)) _ (by omega) (MV (i - 932) (by omega))
  rw[show 10+(922+(i - 932))=i from by omega] at this;exact this
 have C:∀ i,1267<=i->i<1271->L.getD i undef = .int .i64 0:=fun i h1 h2=>by
  have:=t (922+(335+(i - 1267))) _ (by omega) (MU (i - 1267) (by omega))
  rw[show 10+(922+(335+(i - 1267)))=i from by omega] at this;exact this
 have D:∀ i,1271<=i->i<3349->L.getD i undef = .int .u8 0:=fun i h1 h2=>by
  have:=t (922+(335+(4+(i - 1271)))) _ (by omega) (MT (i - 1271) (by omega))
  rw[show 10+(922+(335+(4+(i - 1271))))=i from by omega] at this;exact this
 clear hL t;refine ⟨g 0 _ (by omega) rfl,g 1 _ (by omega) rfl,g 2 _ (by omega) rfl,g 3 _ (by omega) rfl,⟨g 4 _ (by omega) rfl,g 5 _ (by omega) rfl,g 6 _ (by omega) rfl⟩,g 7 _ (by omega) rfl,g 8 _ (by omega) rfl,g 9 _ (by omega) rfl,A _ (by omega) (by omega),?_,?_,?_,C _ (by omega) (by omega),C _ (by omega) (by omega),fun i hi=>D _ (by omega) (by omega),u 0 _ rfl,u 1 _ rfl⟩
 ·exact ⟨fun i hi=>A _ (by omega) (by omega),fun i hi=>A _ (by omega) (by omega),A _ (by omega) (by omega),A _ (by omega) (by omega)⟩
 ·exact ⟨fun i hi=>A _ (by omega) (by omega),fun i hi=>A _ (by omega) (by omega),A _ (by omega) (by omega),A _ (by omega) (by omega)⟩
 ·exact ⟨A _ (by omega) (by omega),A _ (by omega) (by omega),A _ (by omega) (by omega),⟨fun i hi=>A _ (by omega) (by omega),fun i hi=>A _ (by omega) (by omega),A _ (by omega) (by omega),A _ (by omega) (by omega)⟩,fun i hi=>B _ (by omega) (by omega),fun i hi=>B _ (by omega) (by omega),C _ (by omega) (by omega),C _ (by omega) (by omega)⟩
theorem D5 (P T:List Value) (a z v:Value) (n:Nat) (hn:P.length+T.length+1=n):(P++(T++[a,z])).set n v=P++(T++[a,v]):=by
 rw[List.set_append_right _ _ (by omega),List.set_append_right _ _ (by omega),show n - P.length - T.length=1 from by omega];rfl
theorem LV:∃ A:List Value,Tryz.zeroCells63.toList.set 3350 (.int .u32 1)=A/\A.length=3351/\StV (fun j=>A.getD j undef) 0 (st0 1):=by
 have h10:stH.length=10:=rfl;rw[yV,D5 stH stT _ _ _ 3350 (by rw[rM,h10])];refine ⟨_,rfl,?_,Gs 1⟩;rw[List.length_append,List.length_append,rM,h10];simp only [List.length_cons,List.length_nil]
theorem CSV.one {c:Nat->Value} {o:Nat} {s:CS} (h:CSV c o s) (i:Nat) (hi:i<306):(c (o+i)).oneCell'=true:=by
 by_cases h0:i<16
 ·rw[h.count i h0];rfl
 ·by_cases h1:i<304
  ·have:=h.sym (i - 16) (by omega)
   rw[show o+16+(i - 16)=o+i from by omega] at this;rw[this];rfl
  ·have:i=304\/i=305:=by omega
   rcases this with rfl | rfl
   ·rw[h.total];rfl
   ·rw[h.longest];rfl
theorem TbV.one {c:Nat->Value} {o:Nat} {s:Tb} (h:TbV c o s) (i:Nat) (hi:i<646):(c (o+i)).oneCell'=true:=by
 by_cases h0:i<3
 ·have:i=0\/i=1\/i=2:=by omega
  rcases this with rfl | rfl | rfl
  ·rw[show c (o+0)=_ from h.literals];rfl
  ·rw[h.distances];rfl
  ·rw[h.shorts];rfl
 ·by_cases h1:i<309
  ·have:=h.short.one (i - 3) (by omega)
   rw[show o+3+(i - 3)=o+i from by omega] at this;exact this
  ·by_cases h2:i<328
   ·have:=h.sl (i - 309) (by omega)
    rw[show o+309+(i - 309)=o+i from by omega] at this;rw[this];rfl
   ·by_cases h3:i<644
    ·have:=h.ls (i - 328) (by omega)
     rw[show o+328+(i - 328)=o+i from by omega] at this;rw[this];rfl
    ·have:i=644\/i=645:=by omega
     rcases this with rfl | rfl
     ·rw[h.told];rfl
     ·rw[h.rep];rfl
theorem StV.one {c:Nat->Value} {o:Nat} {s:St} (h:StV c o s) (i:Nat) (hi:i<3351):(c (o+i)).oneCell'=true:=by
 by_cases h0:i<11
 ·have:i=0\/i=1\/i=2\/i=3\/i=4\/i=5\/i=6\/i=7\/i=8\/i=9\/i=10:=by omega
  rcases this with rfl | rfl | rfl | rfl | rfl | rfl | rfl | rfl | rfl | rfl | rfl
  ·rw[show c (o+0)=_ from h.part];rfl
  ·rw[h.number];rfl
  ·rw[h.got];rfl
  ·rw[h.wanted];rfl
  ·rw[h.path.bits];rfl
  ·rw[show c (o+5)=_ from h.path.offset];rfl
  ·rw[show c (o+6)=_ from h.path.ahead];rfl
  ·rw[h.skip];rfl
  ·rw[h.window];rfl
  ·rw[h.last];rfl
  ·rw[h.left];rfl
 ·by_cases h1:i<317
  ·have:=h.lit.one (i - 11) (by omega)
   rw[show o+11+(i - 11)=o+i from by omega] at this;exact this
  ·by_cases h2:i<623
   ·have:=h.dist.one (i - 317) (by omega)
    rw[show o+317+(i - 317)=o+i from by omega] at this;exact this
   ·by_cases h3:i<1269
    ·have:=h.tb.one (i - 623) (by omega)
     rw[show o+623+(i - 623)=o+i from by omega] at this;exact this
    ·by_cases h4:i<1271
     ·have:i=1269\/i=1270:=by omega
      rcases this with rfl | rfl
      ·rw[h.length];rfl
      ·rw[h.base];rfl
     ·by_cases h5:i<3349
      ·have:=h.hist (i - 1271) (by omega)
       rw[show o+1271+(i - 1271)=o+i from by omega] at this;rw[this];rfl
      ·have:i=3349\/i=3350:=by omega
       rcases this with rfl | rfl
       ·rw[h.count];rfl
       ·rw[h.sum];rfl
