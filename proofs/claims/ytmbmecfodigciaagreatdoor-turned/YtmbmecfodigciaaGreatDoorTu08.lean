import Derived.Test.YtmbmecfodigciaaGreatDoorTu07
namespace Go.Proofs.YtmbmecfodigciaaGreatDoor
open Go.RowKit Px
set_option linter.unusedSimpArgs false
set_option linter.unusedVariables false
theorem fixL_ok:CSOk fixL:=by
 refine ⟨fun i _ => ?_,fun i hi => ?_,by decide,by decide⟩
 ·show fixCnt i<=288;unfold fixCnt;split<;>(try split)<;>(try split)<;>omega
 ·show fixSym i<288;unfold fixSym;split<;>(try split)<;>(try split)<;>omega
theorem fixD_ok:CSOk fixD:=by
 refine ⟨fun i _ => ?_,fun i hi => ?_,by decide,by decide⟩
 ·show (if i=5 then 32 else 0)<=288;split<;>omega
 ·show (if i<32 then i else 0)<288;split<;>omega
theorem endBlockJ {s:St} (k:StK s):StJ s.endBlock:=by
 unfold St.endBlock
 split
 ·exact enterS (s:={ s with skip:=true }) ⟨k.lit,k.dist,k.short,k.sym,k.len,k.base,k.win,k.cnt,k.hist,k.sum,k.sl,k.ls,k.left⟩ (by omega) Wnt.w_9 (by omega) (by omega) (by omega) (by omega) (by omega)
 ·exact enterS k (by omega) Wnt.w_1 (by omega) (by omega) (by omega) (by omega) (by omega)
theorem giveK {s:St} (k:StK s) {x:Nat} (hx:x<256) (hc:s.count<2078):StK (s.give x) :=
 ⟨k.lit,k.dist,k.short,k.sym,k.len,k.base,k.win,by show s.count+1<=2078;omega,fun j=>by
  show upd s.hist s.count x j<256
  by_cases e:j=s.count
  ·rw[e,upd_same];exact hx
  ·rw[upd_ne _ _ _ e];exact k.hist j,adl_lt _ _,k.sl,k.ls,k.left⟩
theorem giveP_j {s:St} {r:Rw} {x:Nat} (k:StK s) (j:RwJ r) (hx:x<256) (he:(giveP s r x).2.2=0):giveP s r x=(s.give x,(r.take x).1,0)/\StK (s.give x)/\RwJ (r.take x).1/\s.count<2078:=by
 unfold giveP at he ⊢
 by_cases h1:(r.take x).2=0
 ·rw[if_pos h1] at he ⊢
  by_cases h2:2078<=s.count
  ·rw[if_pos h2] at he;exact absurd he (by show ¬ 17=0;omega)
  ·rw[if_neg h2];exact ⟨rfl,giveK k hx (by omega),j.take h1,by omega⟩
 ·rw[if_neg h1] at he;exact absurd he h1
theorem copyGo_j:∀ (n D:Nat) (s:St) (r:Rw),StK s->RwJ r->D<=s.count->CopyOk n D s r/\((copyGo n D s r).2.2=0->StJ (copyGo n D s r).1/\RwJ (copyGo n D s r).2.1)
 | 0,D,s,r,k,j,h=>⟨trivial,fun _=>⟨enterS k (by omega) (Wnt.any (by omega)) (by omega) (by omega) (by omega) (by omega) (by omega),j⟩⟩
 | n+1,D,s,r,k,j,h=>by
  have hx:=k.hist (s.count - D)
  refine ⟨⟨⟨j.good,k.sum,k.cnt,h,k.hist⟩,fun he => ?_⟩,?_⟩
  ·obtain ⟨e1,e2,e3,e4⟩:=giveP_j k j hx he
   rw[e1]
   exact (copyGo_j n D _ _ e2 e3 (by show D<=s.count+1;omega)).1
  ·unfold copyGo
   by_cases he:(giveP s r (s.hist (s.count - D))).2.2=0
   ·rw[if_pos he]
    obtain ⟨e1,e2,e3,e4⟩:=giveP_j k j hx he
    rw[e1]
    exact (copyGo_j n D _ _ e2 e3 (by show D<=s.count+1;omega)).2
   ·rw[if_neg he]
    exact fun q=>absurd q he
theorem copyP_j {s:St} {r:Rw} {D:Nat} (k:StK s) (j:RwJ r):(1<=D->D<=s.count->D<=s.window->CopyOk s.length D s r)/\((copyP s r D).2.2=0->StJ (copyP s r D).1/\RwJ (copyP s r D).2.1):=by
 refine ⟨fun _ h _=>(copyGo_j _ _ s r k j h).1,fun he => ?_⟩
 unfold copyP at he ⊢
 by_cases h:D<1\/s.count<D\/s.window<D
 ·rw[if_pos h] at he;exact absurd he (by show ¬ 14=0;omega)
 ·rw[if_neg h] at he ⊢
  exact (copyGo_j _ _ s r k j (by omega)).2 he
theorem distP_j {s:St} {r:Rw} {σ:Int} (k:StK s) (j:RwJ r) (h1:σ ≠ -1) (he:(distP s r σ).2.2=0):StJ (distP s r σ).1/\RwJ (distP s r σ).2.1:=by
 unfold distP at he ⊢
 rw[if_neg h1] at he ⊢
 by_cases h2:σ<0\/30<=σ
 ·rw[if_pos h2] at he;exact absurd he (by show ¬ 13=0;omega)
 rw[if_neg h2] at he ⊢
 have hd:=disT_le σ.toNat (by omega)
 by_cases h3:σ.toNat / 2 - 1=0
 ·rw[if_pos h3] at he ⊢
  exact (copyP_j k j).2 he
 ·rw[if_neg h3]
  refine ⟨enterS (s:={ s with base:=disT.getD σ.toNat 0 }) ⟨k.lit,k.dist,k.short,k.sym,k.len,by show disT.getD σ.toNat 0<=30000;omega,k.win,k.cnt,k.hist,k.sum,k.sl,k.ls,k.left⟩ (by omega) (Wnt.w_8 (by omega) (by omega)) (by omega) (by omega) (by omega) (by omega) (by omega),j⟩
theorem copyJ {s:St} {n:Nat} (k:StK s) (h:n<29):StJ (s.copy n):=by
 have hl:=lenT_le n h
 unfold St.copy
 have k':StK { s with length:=lenT.getD n 0 }:=⟨k.lit,k.dist,k.short,k.sym,by show lenT.getD n 0<=300;omega,k.base,k.win,k.cnt,k.hist,k.sum,k.sl,k.ls,k.left⟩
 split
 ·exact enterS k' (by omega) (Wnt.any (by omega)) (by omega) (by omega) (by omega) (by omega) (by omega)
 ·rename_i h0
  refine enterJ k' ⟨by show 7<=13;omega,Wnt.w_7 (by show 1<=lbtT.getD n 0;omega) hl.2.2,fun q=>absurd q (by show ¬ 7=3;omega),fun _=>hl.2.1,fun q=>absurd q (by show ¬ 7=5;omega),fun q=>absurd q (by show ¬ (7=5\/7=6\/7=11);omega),fun q=>absurd q (by show ¬ (7=6\/7=11);omega),fun q=>absurd q (by show ¬ 7=6;omega)⟩
theorem setP_sym (f:Nat->Nat) (N:Nat) (h0:0<N) (i:Nat):(setP f N).sym i<N:=mkS_lt f _ _ N (fun _=>h0) N (Nat.le_refl _) i
theorem makeCodesJ {s:St} (k:StK s) (h1:257<=s.tb.literals) (h2:s.tb.literals<=286) (h3:s.tb.literals<s.tb.told) (h4:s.tb.told<=s.tb.literals+30) (he:s.makeCodes.2=0):StJ s.makeCodes.1:=by
 have k2:StK s.mkLit.mkDist:=⟨setP_ok _ _ (by omega) (by omega),setP_ok _ _ (by show 0<s.tb.told - s.tb.literals;omega) (by show s.tb.told - s.tb.literals<=288;omega),k.short,k.sym,k.len,k.base,k.win,k.cnt,k.hist,k.sum,k.sl,k.ls,k.left⟩
 unfold St.makeCodes at he ⊢
 generalize s.mkLit.mkDist=s2 at *
 split
 ·rename_i q;rw[if_pos q] at he;exact absurd he (by show ¬ 12=0;omega)
 rename_i q1
 rw[if_neg q1] at he
 split
 ·rename_i q;rw[if_pos q] at he;exact absurd he (by show ¬ 12=0;omega)
 rename_i q2
 rw[if_neg q2] at he
 split
 ·rename_i q;rw[if_pos q] at he;exact absurd he (by show ¬ 12=0;omega)
 exact enterS k2 (by omega) (Wnt.any (by omega)) (by omega) (by omega) (by omega) (by omega) (by omega)
theorem layN_f:∀ (n x:Nat) (s:St),StK s->x<256->StK (St.layN n x s)/\(St.layN n x s).tb.literals=s.tb.literals/\(St.layN n x s).tb.distances=s.tb.distances/\(St.layN n x s).tb.told=s.tb.told+n
 | 0,_,s,k,_=>⟨k,rfl,rfl,rfl⟩
 | n+1,x,s,k,hx=>by
  have k1:StK (s.lay1 x):=⟨k.lit,k.dist,k.short,k.sym,k.len,k.base,k.win,k.cnt,k.hist,k.sum,k.sl,fun i=>by
   show upd s.tb.ls s.tb.told x i<256
   by_cases e:i=s.tb.told
   ·rw[e,upd_same];exact hx
   ·rw[upd_ne _ _ _ e];exact k.ls i,k.left⟩
  obtain ⟨h1,h2,h3,h4⟩:=layN_f n x (s.lay1 x) k1 hx
  refine ⟨h1,h2,h3,h4.trans ?_⟩
  show s.tb.told+1+n=_
  omega
theorem layJ {s:St} {x n:Nat} (k:StK s) (hx:x<256) (h1:257<=s.tb.literals) (h2:s.tb.literals<=286) (h3:1<=s.tb.distances) (h4:s.tb.distances<=30) (he:(s.lay x n).2=0):StJ (s.lay x n).1:=by
 unfold St.lay at he ⊢
 by_cases q:s.tb.literals+s.tb.distances<s.tb.told+n
 ·rw[if_pos q] at he;exact absurd he (by show ¬ 12=0;omega)
 rw[if_neg q] at he ⊢
 obtain ⟨k1,e1,e2,e3⟩:=layN_f n x s k hx
 generalize St.layN n x s=s1 at *
 by_cases q2:s1.tb.told<s.tb.literals+s.tb.distances
 ·rw[if_pos q2]
  refine enterJ k1 ⟨by show 11<=13;omega,Wnt.any (by show 10<=11;omega),fun q=>absurd q (by show ¬ 11=3;omega),fun q=>absurd q (by show ¬ 11=7;omega),fun q=>absurd q (by show ¬ 11=5;omega),fun _ => ?_,fun _ => ?_,fun q=>absurd q (by show ¬ 11=6;omega)⟩
  ·show 257<=s1.tb.literals/\s1.tb.literals<=286/\1<=s1.tb.distances/\s1.tb.distances<=30
   omega
  ·show s1.tb.told<=s1.tb.literals+s1.tb.distances
   omega
 ·rw[if_neg q2] at he ⊢
  exact makeCodesJ k1 (by omega) (by omega) (by omega) (by omega) he
theorem StK.setRep {s:St} (k:StK s) (σ:Int):StK (s.setRep σ):=⟨k.lit,k.dist,k.short,k.sym,k.len,k.base,k.win,k.cnt,k.hist,k.sum,k.sl,k.ls,k.left⟩
theorem enter6J {s:St} {w:Nat} (k:StK s) (h1:257<=s.tb.literals) (h2:s.tb.literals<=286) (h3:1<=s.tb.distances) (h4:s.tb.distances<=30) (h5:s.tb.told<=s.tb.literals+s.tb.distances) (hr:s.tb.rep=16\/s.tb.rep=17\/s.tb.rep=18) (w1:1<=w) (w2:w<=7):StJ (s.enter 6 w) :=
 enterJ k ⟨by show 6<=13;omega,Wnt.w_6 w1 w2,fun q=>absurd q (by show ¬ 6=3;omega),fun q=>absurd q (by show ¬ 6=7;omega),fun q=>absurd q (by show ¬ 6=5;omega),fun _=>⟨h1,h2,h3,h4⟩,fun _=>h5,fun _=>hr⟩
theorem codeLenJ {s:St} {σ:Int} (k:StK s) (t:TbOk s.tb) (h0 : -2<=σ) (h1:σ<=18) (hm:σ ≠ -1) (he:(s.codeLen σ).2=0):StJ (s.codeLen σ).1:=by
 have k1:=k.setRep σ
 unfold St.codeLen at he ⊢
 rw[if_neg hm] at he ⊢
 by_cases q2:σ = -2
 ·rw[if_pos q2] at he;exact absurd he (by show ¬ 13=0;omega)
 rw[if_neg q2] at he ⊢
 by_cases q3:σ=16
 ·rw[if_pos q3] at he ⊢
  by_cases q4:s.tb.told=0
  ·rw[if_pos q4] at he;exact absurd he (by show ¬ 12=0;omega)
  ·rw[if_neg q4]
   exact enter6J k1 t.l1 t.l2 t.d1 t.d2 t.td (Or.inl q3) (by omega) (by omega)
 rw[if_neg q3] at he ⊢
 by_cases q5:σ=17
 ·rw[if_pos q5]
  exact enter6J k1 t.l1 t.l2 t.d1 t.d2 t.td (Or.inr (Or.inl q5)) (by omega) (by omega)
 rw[if_neg q5] at he ⊢
 by_cases q6:σ=18
 ·rw[if_pos q6]
  exact enter6J k1 t.l1 t.l2 t.d1 t.d2 t.td (Or.inr (Or.inr q6)) (by omega) (by omega)
 rw[if_neg q6] at he ⊢
 exact layJ k1 (by omega) t.l1 t.l2 t.d1 t.d2 he
theorem repeatJ {s:St} {v:Nat} (k:StK s) (t:TbOk s.tb) (he:(s.repeat v).2=0):StJ (s.repeat v).1:=by
 unfold St.repeat at he ⊢
 by_cases q1:s.tb.rep=17
 ·rw[if_pos q1] at he ⊢;exact layJ k (by omega) t.l1 t.l2 t.d1 t.d2 he
 rw[if_neg q1] at he ⊢
 by_cases q2:s.tb.rep=18
 ·rw[if_pos q2] at he ⊢;exact layJ k (by omega) t.l1 t.l2 t.d1 t.d2 he
 rw[if_neg q2] at he ⊢
 by_cases q3:s.tb.told<1
 ·rw[if_pos q3] at he;exact absurd he (by show ¬ 12=0;omega)
 rw[if_neg q3] at he ⊢
 exact layJ k (k.ls _) t.l1 t.l2 t.d1 t.d2 he
theorem short1K {s:St} {v:Nat} (k:StK s) (hv:v<256):StK (s.short1 v):=⟨k.lit,k.dist,k.short,k.sym,k.len,k.base,k.win,k.cnt,k.hist,k.sum,fun i=>by
 show upd s.tb.sl (ordT.getD s.tb.told 0) v i<256
 by_cases e:i=ordT.getD s.tb.told 0
 ·rw[e,upd_same];exact hv
 ·rw[upd_ne _ _ _ e];exact k.sl i,k.ls,k.left⟩
theorem shortLenJ {s:St} {v:Nat} (k:StK s) (hv:v<256) (h1:257<=s.tb.literals) (h2:s.tb.literals<=286) (h3:1<=s.tb.distances) (h4:s.tb.distances<=30) (h5:s.tb.shorts<=19) (he:(s.shortLen v).2=0):StJ (s.shortLen v).1:=by
 have k1:=short1K k hv
 unfold St.shortLen at he ⊢
 by_cases q1:s.tb.told+1<s.tb.shorts
 ·rw[if_pos q1]
  exact enterJ k1 ⟨by show 5<=13;omega,Wnt.w_5,fun q=>absurd q (by show ¬ 5=3;omega),fun q=>absurd q (by show ¬ 5=7;omega),fun _=>⟨q1,h5⟩,fun _=>⟨h1,h2,h3,h4⟩,fun q=>absurd q (by show ¬ (5=6\/5=11);omega),fun q=>absurd q (by show ¬ 5=6;omega)⟩
 rw[if_neg q1] at he ⊢
 by_cases q2:(s.short1 v).short2.tb.short.full=true
 ·rw[if_pos q2]
  have k2:StK { (s.short1 v).short2 with tb:={ (s.short1 v).short2.tb with told:=0 } }:=⟨k1.lit,k1.dist,setP_ok _ _ (by omega) (by omega),fun i=>by have:=setP_sym (s.short1 v).tb.sl 19 (by omega) i;show (setP (s.short1 v).tb.sl 19).sym i<=18;omega,k1.len,k1.base,k1.win,k1.cnt,k1.hist,k1.sum,k1.sl,k1.ls,k1.left⟩
  exact enterJ k2 ⟨by show 11<=13;omega,Wnt.any (by show 10<=11;omega),fun q=>absurd q (by show ¬ 11=3;omega),fun q=>absurd q (by show ¬ 11=7;omega),fun q=>absurd q (by show ¬ 11=5;omega),fun _=>⟨h1,h2,h3,h4⟩,fun _=>by show 0<=_;omega,fun q=>absurd q (by show ¬ 11=6;omega)⟩
 ·rw[if_neg q2] at he;exact absurd he (by show ¬ 12=0;omega)
theorem countsJ {s:St} {v:Nat} (k:StK s) (hv:v<16384) (he:(s.counts v).2=0):StJ (s.counts v).1:=by
 unfold St.counts at he ⊢
 by_cases q:286<v % 32+257\/30<v / 32 % 32+1
 ·rw[if_pos q] at he;exact absurd he (by show ¬ 12=0;omega)
 rw[if_neg q]
 have k1:StK { s with tb:=tbN (v % 32+257) (v / 32 % 32+1) (v / 1024+4) }:=⟨k.lit,k.dist,cs00_ok,fun _=>by show 0<=18;omega,k.len,k.base,k.win,k.cnt,k.hist,k.sum,fun _=>by show 0<256;omega,fun _=>by show 0<256;omega,k.left⟩
 refine enterJ k1 ⟨by show 5<=13;omega,Wnt.w_5,fun q=>absurd q (by show ¬ 5=3;omega),fun q=>absurd q (by show ¬ 5=7;omega),fun _ => ?_,fun _ => ?_,fun q=>absurd q (by show ¬ (5=6\/5=11);omega),fun q=>absurd q (by show ¬ 5=6;omega)⟩
 ·show 0<v / 1024+4/\v / 1024+4<=19
  omega
 ·show 257<=v % 32+257/\v % 32+257<=286/\1<=v / 32 % 32+1/\v / 32 % 32+1<=30
  omega
theorem blockJ {s:St} {v:Nat} (k:StK s) (hv:v<8) (he:blockE v=0):StJ (s.block v):=by
 unfold blockE at he
 unfold St.block
 split
 ·exact enterS (s:={ s with last:=decide (v % 2=1),skip:=true }) ⟨k.lit,k.dist,k.short,k.sym,k.len,k.base,k.win,k.cnt,k.hist,k.sum,k.sl,k.ls,k.left⟩ (by omega) Wnt.w_2 (by omega) (by omega) (by omega) (by omega) (by omega)
 split
 ·exact enterS (s:={ s with last:=decide (v % 2=1),lit:=fixL,dist:=fixD }) ⟨fixL_ok,fixD_ok,k.short,k.sym,k.len,k.base,k.win,k.cnt,k.hist,k.sum,k.sl,k.ls,k.left⟩ (by omega) (Wnt.any (by omega)) (by omega) (by omega) (by omega) (by omega) (by omega)
 split
 ·exact enterS (s:=s.lastIs v) ⟨k.lit,k.dist,k.short,k.sym,k.len,k.base,k.win,k.cnt,k.hist,k.sum,k.sl,k.ls,k.left⟩ (by omega) Wnt.w_4 (by omega) (by omega) (by omega) (by omega) (by omega)
 ·split at he
  ·omega
  ·omega
theorem takeHeadJ {s:St} {v:Nat} (k:StK s) (he:(s.takeHead v).2=0):StJ (s.takeHead v).1:=by
 unfold St.takeHead at he ⊢
 by_cases q:zHead v=true
 ·rw[if_pos q]
  have q':=of_decide_eq_true q
  have hp:2^(v % 256 / 16)<=2^7:=Nat.pow_le_pow_right (by omega) q'.2.1
  exact enterS (s:={ s with window:=256*2^(v % 256 / 16) }) ⟨k.lit,k.dist,k.short,k.sym,k.len,k.base,by show 256*2^(v % 256 / 16)<=32768;omega,k.cnt,k.hist,k.sum,k.sl,k.ls,k.left⟩ (by omega) Wnt.w_1 (by omega) (by omega) (by omega) (by omega) (by omega)
 ·rw[if_neg q] at he;exact absurd he (by show ¬ 10=0;omega)
theorem enter3J {s:St} (k:StK s) (h:1<=s.left):StJ (s.enter 3 8) :=
 enterJ k ⟨by show 3<=13;omega,Wnt.w_3,fun _=>h,fun q=>absurd q (by show ¬ 3=7;omega),fun q=>absurd q (by show ¬ 3=5;omega),fun q=>absurd q (by show ¬ (3=5\/3=6\/3=11);omega),fun q=>absurd q (by show ¬ (3=6\/3=11);omega),fun q=>absurd q (by show ¬ 3=6;omega)⟩
theorem StK.setLeft {s:St} (k:StK s) {n:Nat} (h:n<=65535):StK { s with left:=n }:=⟨k.lit,k.dist,k.short,k.sym,k.len,k.base,k.win,k.cnt,k.hist,k.sum,k.sl,k.ls,h⟩
theorem takeSizeJ {s:St} {v:Nat} (k:StK s) (he:(s.takeSize v).2=0):StJ (s.takeSize v).1:=by
 unfold St.takeSize at he ⊢
 by_cases q:v % 65536+v / 65536=65535
 ·rw[if_pos q]
  have k1:StK { s with left:=v % 65536 }:=k.setLeft (by omega)
  show StJ (if v % 65536=0 then ({ s with left:=v % 65536 }:St).endBlock else ({ s with left:=v % 65536 }:St).enter 3 8)
  by_cases h0:v % 65536=0
  ·rw[if_pos h0];exact endBlockJ k1
  ·rw[if_neg h0];exact enter3J k1 (by show 1<=v % 65536;omega)
 ·rw[if_neg q] at he;exact absurd he (by show ¬ 11=0;omega)
theorem oneLessJ {s:St} (k:StK s):StJ s.oneLess:=by
 have hl:=k.left
 have k1:StK { s with left:=s.left - 1 }:=k.setLeft (by omega)
 unfold St.oneLess
 split
 ·exact endBlockJ k1
 ·rename_i h;exact enter3J k1 (by show 1<=s.left - 1;omega)
theorem storedPJ {s:St} {r:Rw} {x:Nat} (k:StK s) (j:RwJ r) (hx:x<256) (he:(storedP s r x).2.2=0):StJ (storedP s r x).1/\RwJ (storedP s r x).2.1:=by
 unfold storedP at he ⊢
 by_cases h:(giveP s r x).2.2=0
 ·rw[if_pos h]
  obtain ⟨e1,e2,e3,e4⟩:=giveP_j k j hx h
  rw[e1]
  exact ⟨oneLessJ e2,e3⟩
 ·rw[if_neg h] at he;exact absurd he h
theorem takeSumJ {s:St} {v:Nat} (k:StK s) (he:(s.takeSum v).2=0):StJ (s.takeSum v).1:=by
 unfold St.takeSum at he ⊢
 by_cases q:bswap v=s.sum
 ·rw[if_pos q];exact enterS k (by omega) (Wnt.any (by omega)) (by omega) (by omega) (by omega) (by omega) (by omega)
 ·rw[if_neg q] at he;exact absurd he (by show ¬ 19=0;omega)
theorem lengthRestJ {s:St} {v:Nat} (k:StK s) (h1:s.length<=258) (hv:v<32):StJ (s.lengthRest v) :=
 enterS (s:={ s with length:=s.length+v }) ⟨k.lit,k.dist,k.short,k.sym,by show s.length+v<=300;omega,k.base,k.win,k.cnt,k.hist,k.sum,k.sl,k.ls,k.left⟩ (by omega) (Wnt.any (by omega)) (by omega) (by omega) (by omega) (by omega) (by omega)
theorem symTJ {s:St} {r:Rw} {σ:Int} (k:StK s) (j:RwJ r) (hm:σ ≠ -1) (he:(symT s r σ).2.2=0):StJ (symT s r σ).1/\RwJ (symT s r σ).2.1:=by
 unfold symT at he ⊢
 rw[if_neg hm] at he ⊢
 by_cases q1:σ<0\/286<=σ
 ·rw[if_pos q1] at he;exact absurd he (by show ¬ 13=0;omega)
 rw[if_neg q1] at he ⊢
 by_cases q2:σ=256
 ·rw[if_pos q2];exact ⟨endBlockJ k,j⟩
 rw[if_neg q2] at he ⊢
 by_cases q3:257<=σ
 ·rw[if_pos q3]
  have hM:σ.toNat - 257<29:=by omega
  generalize σ.toNat - 257=M at hM ⊢
  exact ⟨copyJ k hM,j⟩
 rw[if_neg q3] at he ⊢
 have k1:=k.enter 12 0
 obtain ⟨e1,e2,e3,e4⟩:=giveP_j k1 j (by omega) he
 rw[e1]
 refine ⟨?_,e3⟩
 have:StJ (s.enter 12 0):=enterS k (by omega) (Wnt.any (by omega)) (by omega) (by omega) (by omega) (by omega) (by omega)
 exact ⟨e2,⟨this.p.part,this.p.want,this.p.left,this.p.l7,this.p.t5,this.p.tb,this.p.td,this.p.rep⟩,this.got,this.num,this.path⟩
theorem pow_ltw {v w n:Nat} (h:v<2^w) (hw:w<=n):v<2^n:=Nat.lt_of_lt_of_le h (Nat.pow_le_pow_right (by omega) hw)
theorem numOkJ {s:St} {r:Rw} {v:Nat} (k:StK s) (p:StP s) (j:RwJ r) (h9:s.part<=9) (hv:v<2^s.wanted):NumOk s r v:=by
 have a:=p.want
 have hc:=k.cnt
 have hl:=k.left
 have hln:=k.len
 have hb:=k.base
 have hw:=k.win
 refine ⟨h9,fun q => ?_,fun q => ?_,fun q => ?_,fun q => ?_,fun q => ?_,fun q => ?_,fun _=>by omega,fun q => ?_,?_,fun q=>p.left q,fun _=>hl,fun _=>j.good,k.sum⟩
 ·rw[a.w0 q] at hv;exact hv
 ·rw[a.w1 q] at hv;exact hv
 ·rw[a.w3 q] at hv;exact hv
 ·rw[a.w4 q] at hv;exact hv
 ·rw[a.w5 q] at hv
  have t:=p.t5 q
  exact ⟨by omega,by omega,t.2,fun i _=>k.sl i⟩
 ·have t:=p.tb (Or.inr (Or.inl q))
  have hv7:=pow_ltw hv (a.w6 q).2
  exact ⟨by omega,p.rep q,t.1,t.2.1,t.2.2.1,t.2.2.2,p.td (Or.inl q),k.ls⟩
 ·have hv13:=pow_ltw hv (a.w8 q).2
  exact ⟨by omega,by omega,hc,by omega,by omega,(copyP_j k j).1⟩
 ·have:s.wanted<=32:=by
   have:s.part=0\/s.part=1\/s.part=2\/s.part=3\/s.part=4\/s.part=5\/s.part=6\/s.part=7\/s.part=8\/s.part=9:=by omega
   rcases this with e | e | e | e | e | e | e | e | e | e
   ·have:=a.w0 e;omega
   ·have:=a.w1 e;omega
   ·have:=a.w2 e;omega
   ·have:=a.w3 e;omega
   ·have:=a.w4 e;omega
   ·have:=a.w5 e;omega
   ·have:=a.w6 e;omega
   ·have:=a.w7 e;omega
   ·have:=a.w8 e;omega
   ·have:=a.w9 e;omega
  exact pow_ltw hv this
theorem prE {A:St × Nat} {r:Rw} (h:((A.1,r,A.2):St × Rw × Nat).2.2=0):A.2=0:=h
theorem prJ {A:St × Nat} {r:Rw} (h:StJ A.1) (j:RwJ r):StJ ((A.1,r,A.2):St × Rw × Nat).1/\RwJ ((A.1,r,A.2):St × Rw × Nat).2.1:=⟨h,j⟩
theorem prF {A:St} {r:Rw} {e:Nat} (h:((A,r,e):St × Rw × Nat).2.2=0):e=0:=h
theorem prK {A:St} {r:Rw} {e:Nat} (h:StJ A) (j:RwJ r):StJ ((A,r,e):St × Rw × Nat).1/\RwJ ((A,r,e):St × Rw × Nat).2.1:=⟨h,j⟩
theorem numPJ {s:St} {r:Rw} {v:Nat} (k:StK s) (p:StP s) (j:RwJ r) (h9:s.part<=9) (hv:v<2^s.wanted) (he:(numP s r v).2.2=0):StJ (numP s r v).1/\RwJ (numP s r v).2.1:=by
 have n:=numOkJ k p j h9 hv
 have a:=p.want
 unfold numP at he ⊢
 by_cases q0:s.part=0
 ·rw[if_pos q0] at he ⊢;exact prJ (takeHeadJ k (prE he)) j
 rw[if_neg q0] at he ⊢
 by_cases q1:s.part=1
 ·rw[if_pos q1] at he ⊢;exact prK (blockJ k (n.v1 q1) (prF he)) j
 rw[if_neg q1] at he ⊢
 by_cases q2:s.part=2
 ·rw[if_pos q2] at he ⊢;exact prJ (takeSizeJ k (prE he)) j
 rw[if_neg q2] at he ⊢
 by_cases q3:s.part=3
 ·rw[if_pos q3] at he ⊢;exact storedPJ k j (n.v3 q3) he
 rw[if_neg q3] at he ⊢
 by_cases q4:s.part=4
 ·rw[if_pos q4] at he ⊢;exact prJ (countsJ k (n.v4 q4) (prE he)) j
 rw[if_neg q4] at he ⊢
 by_cases q5:s.part=5
 ·rw[if_pos q5] at he ⊢
  have t:=p.tb (Or.inl q5)
  exact prJ (shortLenJ k (n.v5 q5).vl t.1 t.2.1 t.2.2.1 t.2.2.2 (p.t5 q5).2 (prE he)) j
 rw[if_neg q5] at he ⊢
 by_cases q6:s.part=6
 ·rw[if_pos q6] at he ⊢;exact prJ (repeatJ k (n.v6 q6).tb (prE he)) j
 rw[if_neg q6] at he ⊢
 by_cases q7:s.part=7
 ·rw[if_pos q7] at he ⊢;exact prK (lengthRestJ k (p.l7 q7) (pow_ltw hv (a.w7 q7).2)) j
 rw[if_neg q7] at he ⊢
 by_cases q8:s.part=8
 ·rw[if_pos q8] at he ⊢;exact (copyP_j k j).2 he
 rw[if_neg q8] at he ⊢
 exact prJ (takeSumJ k (prE he)) j
theorem StK.setPath {s:St} (k:StK s) (p:Pt):StK { s with path:=p }:=⟨k.lit,k.dist,k.short,k.sym,k.len,k.base,k.win,k.cnt,k.hist,k.sum,k.sl,k.ls,k.left⟩
theorem StJ.setPath {s:St} (h:StJ s) {p:Pt} (hp:PtJ p):StJ { s with path:=p }:=⟨h.k.setPath p,⟨h.p.part,h.p.want,h.p.left,h.p.l7,h.p.t5,h.p.tb,h.p.td,h.p.rep⟩,h.got,h.num,hp⟩
theorem StJ.wle {s:St} (h:StJ s) (h9:s.part<=9):s.wanted<=32:=by
 have a:=h.p.want
 have:s.part=0\/s.part=1\/s.part=2\/s.part=3\/s.part=4\/s.part=5\/s.part=6\/s.part=7\/s.part=8\/s.part=9:=by omega
 rcases this with e | e | e | e | e | e | e | e | e | e
 ·have:=a.w0 e;omega
 ·have:=a.w1 e;omega
 ·have:=a.w2 e;omega
 ·have:=a.w3 e;omega
 ·have:=a.w4 e;omega
 ·have:=a.w5 e;omega
 ·have:=a.w6 e;omega
 ·have:=a.w7 e;omega
 ·have:=a.w8 e;omega
 ·have:=a.w9 e;omega
theorem TbOk.of {s:St} (k:StK s) (p:StP s) (h:s.part=11):TbOk s.tb:=by
 have t:=p.tb (Or.inr (Or.inr h))
 exact ⟨t.1,t.2.1,t.2.2.1,t.2.2.2,p.td (Or.inr h),k.ls⟩
theorem bit_lt {m g t:Nat} (hm:m<2^g) (ht:t<=1):m+t*2^g<2^(g+1):=by
 have:t*2^g<=1*2^g:=Nat.mul_le_mul_right _ ht
 rw[Nat.pow_succ];omega
theorem bitOkJ {s:St} {r:Rw} {t:Nat} (h:StJ s) (j:RwJ r) (h10:s.part≠10) (ht:t<=1):BitOk s r t:=by
 have hp:=h.p.part
 have hln:=h.k.len
 have hw:=h.k.win
 refine ⟨by omega,fun q => ?_,fun q => ?_,fun q => ?_,fun q => ?_,fun q=>h.wle q,fun _=>h.num,ht,fun q hg => ?_⟩
 ·exact ⟨h.k.lit,h.path.ok,ht,CS.step_lo _ _ _,by have:=CS.step_hi s.lit s.path t 288 (fun i hi=>by have:=h.k.lit.sym i hi;omega);omega,j.good,h.k.sum⟩
 ·exact ⟨h.k.short,h.path.ok,ht,CS.step_lo _ _ _,CS.step_hi _ _ _ 18 (fun i _=>h.k.sym i),TbOk.of h.k h.p q⟩
 ·exact ⟨h.k.dist,h.path.ok,ht,CS.step_lo _ _ _,by have:=CS.step_hi s.dist s.path t 288 (fun i hi=>by have:=h.k.dist.sym i hi;omega);omega,h.k.cnt,by omega,by omega,fun D h1 h2 h3=>(copyP_j (D:=D) (h.k.setPath (s.dist.step s.path t).1) j).1 h1 h2 h3⟩
 ·have:=h.got q;have:=h.wle q;omega
 ·have hgt:=h.got q
  have e:s.got+1=s.wanted:=by omega
  refine numOkJ (s:=s.oneBit t) ⟨h.k.lit,h.k.dist,h.k.short,h.k.sym,h.k.len,h.k.base,h.k.win,h.k.cnt,h.k.hist,h.k.sum,h.k.sl,h.k.ls,h.k.left⟩ ⟨h.p.part,h.p.want,h.p.left,h.p.l7,h.p.t5,h.p.tb,h.p.td,h.p.rep⟩ j q ?_
  show s.number+t*2^s.got<2^s.wanted
  rw[<- e]
  exact bit_lt h.num ht
theorem bitPJ {s:St} {r:Rw} {t:Nat} (h:StJ s) (j:RwJ r) (h10:s.part≠10) (ht:t<=1) (he:(bitP s r t).2.2=0):StJ (bitP s r t).1/\RwJ (bitP s r t).2.1:=by
 have hp:=h.p.part
 unfold bitP at he ⊢
 by_cases q12:s.part=12
 ·rw[if_pos q12] at he ⊢
  by_cases hm:(s.lit.step s.path t).2 = -1
  ·have e:symP s r t=({ s with path:=(s.lit.step s.path t).1 },r,0):=by unfold symP symT;rw[if_pos hm]
   rw[e]
   exact ⟨h.setPath (CS.step_more h.k.lit h.path ht hm),j⟩
  ·exact symTJ (h.k.setPath _) j hm he
 rw[if_neg q12] at he ⊢
 by_cases q11:s.part=11
 ·rw[if_pos q11] at he ⊢
  refine ⟨?_,j⟩
  replace he:(clP s t).2=0:=he
  show StJ (clP s t).1
  by_cases hm:(s.tb.short.step s.path t).2 = -1
  ·have e:(clP s t).1=({ s with path:=(s.tb.short.step s.path t).1 }:St).setRep (s.tb.short.step s.path t).2:=by unfold clP St.codeLen;rw[if_pos hm]
   rw[e]
   have h1:=h.setPath (CS.step_more h.k.short h.path ht hm)
   refine ⟨h1.k.setRep _,⟨h1.p.part,h1.p.want,h1.p.left,h1.p.l7,h1.p.t5,h1.p.tb,h1.p.td,fun q => ?_⟩,h1.got,h1.num,h1.path⟩
   replace q:s.part=6:=q
   omega
  ·exact codeLenJ (h.k.setPath _) (TbOk.of (s:=s) h.k h.p q11) (CS.step_lo _ _ _) (CS.step_hi _ _ _ 18 (fun i _=>h.k.sym i)) hm he
 rw[if_neg q11] at he ⊢
 by_cases q13:s.part=13
 ·rw[if_pos q13] at he ⊢
  by_cases hm:(s.dist.step s.path t).2 = -1
  ·have e:dsP s r t=({ s with path:=(s.dist.step s.path t).1 },r,0):=by unfold dsP distP;rw[if_pos hm]
   rw[e]
   exact ⟨h.setPath (CS.step_more h.k.dist h.path ht hm),j⟩
  ·exact distP_j (h.k.setPath _) j hm he
 rw[if_neg q13] at he ⊢
 have h9:s.part<=9:=by omega
 have hgt:=h.got h9
 have k1:StK (s.oneBit t):=⟨h.k.lit,h.k.dist,h.k.short,h.k.sym,h.k.len,h.k.base,h.k.win,h.k.cnt,h.k.hist,h.k.sum,h.k.sl,h.k.ls,h.k.left⟩
 have p1:StP (s.oneBit t):=⟨h.p.part,h.p.want,h.p.left,h.p.l7,h.p.t5,h.p.tb,h.p.td,h.p.rep⟩
 have hb:=bit_lt h.num ht
 by_cases qw:s.got+1<s.wanted
 ·rw[if_pos qw]
  exact ⟨⟨k1,p1,fun _=>qw,hb,h.path⟩,j⟩
 ·rw[if_neg qw] at he ⊢
  have e:s.got+1=s.wanted:=by omega
  refine numPJ k1 p1 j h9 ?_ he
  show s.number+t*2^s.got<2^s.wanted
  rw[<- e]
  exact hb
theorem StJ.skip {s:St} (h:StJ s) (b:Bool):StJ { s with skip:=b }:=⟨⟨h.k.lit,h.k.dist,h.k.short,h.k.sym,h.k.len,h.k.base,h.k.win,h.k.cnt,h.k.hist,h.k.sum,h.k.sl,h.k.ls,h.k.left⟩,⟨h.p.part,h.p.want,h.p.left,h.p.l7,h.p.t5,h.p.tb,h.p.td,h.p.rep⟩,h.got,h.num,h.path⟩
structure PN (s:St):Prop where
 n10:s.part≠10
 n9:s.part=9->s.skip=true/\s.got=0
theorem enter_pn (s:St) {p w:Nat} (h1:p≠9) (h2:p≠10):PN (s.enter p w):=⟨h2,fun q=>absurd q h1⟩
theorem endBlock_pn (s:St):PN s.endBlock:=by
 unfold St.endBlock
 split
 ·exact ⟨by show 9≠10;omega,fun _=>⟨rfl,rfl⟩⟩
 ·exact enter_pn _ (by omega) (by omega)
theorem giveP_pn {s:St} (h:PN s) (r:Rw) (x:Nat):PN (giveP s r x).1:=by
 unfold giveP
 split
 ·split
  ·exact h
  ·exact ⟨h.n10,h.n9⟩
 ·exact h
theorem copyGo_pn:∀ (k D:Nat) (s:St) (r:Rw),PN s->PN (copyGo k D s r).1
 | 0,_,s,_,_=>enter_pn s (by omega) (by omega)
 | k+1,D,s,r,h=>by
  unfold copyGo
  split
  ·exact copyGo_pn k D _ _ (giveP_pn h _ _)
  ·exact giveP_pn h _ _
theorem copyP_pn {s:St} (h:PN s) (r:Rw) (D:Nat):PN (copyP s r D).1:=by
 unfold copyP
 split
 ·exact h
 ·exact copyGo_pn _ _ _ _ h
theorem PN.same {s s':St} (h:PN s) (h1:s'.part=s.part) (h2:s'.skip=s.skip) (h3:s'.got=s.got):PN s':=⟨by rw[h1];exact h.n10,fun q=>by rw[h2,h3];exact h.n9 (by rw[<- h1];exact q)⟩
theorem layN_pn:∀ (n x:Nat) (s:St),PN s->PN (St.layN n x s)
 | 0,_,_,h=>h
 | n+1,x,s,h=>layN_pn n x (s.lay1 x) (h.same rfl rfl rfl)
theorem makeCodes_pn {s:St} (h:PN s):PN s.makeCodes.1:=by
 have h2:PN s.mkLit.mkDist:=h.same rfl rfl rfl
 unfold St.makeCodes
 split
 ·exact h2
 split
 ·exact h2
 split
 ·exact h2
 ·exact enter_pn _ (by omega) (by omega)
theorem lay_pn {s:St} (h:PN s) (x n:Nat):PN (s.lay x n).1:=by
 unfold St.lay
 split
 ·exact h
 split
 ·exact enter_pn _ (by omega) (by omega)
 ·exact makeCodes_pn (layN_pn n x s h)
theorem codeLen_pn {s:St} (h:PN s) (σ:Int):PN (s.codeLen σ).1:=by
 have h1:PN (s.setRep σ):=h.same rfl rfl rfl
 unfold St.codeLen
 split
 ·exact h1
 split
 ·exact h1
 split
 ·split
  ·exact h1
  ·exact enter_pn _ (by omega) (by omega)
 split
 ·exact enter_pn _ (by omega) (by omega)
 split
 ·exact enter_pn _ (by omega) (by omega)
 ·exact lay_pn h1 _ _
theorem repeat_pn {s:St} (h:PN s) (v:Nat):PN (s.repeat v).1:=by
 unfold St.repeat
 split
 ·exact lay_pn h _ _
 split
 ·exact lay_pn h _ _
 split
 ·exact h
 ·exact lay_pn h _ _
theorem shortLen_pn {s:St} (h:PN s) (v:Nat):PN (s.shortLen v).1:=by
 unfold St.shortLen
 split
 ·exact enter_pn _ (by omega) (by omega)
 split
 ·exact enter_pn _ (by omega) (by omega)
 ·exact h.same rfl rfl rfl
theorem counts_pn {s:St} (h:PN s) (v:Nat):PN (s.counts v).1:=by
 unfold St.counts
 split
 ·exact h.same rfl rfl rfl
 ·exact enter_pn _ (by omega) (by omega)
theorem copy_pn (s:St) (j:Nat):PN (s.copy j):=by
 unfold St.copy
 split
 ·exact enter_pn _ (by omega) (by omega)
 ·exact enter_pn _ (by omega) (by omega)
theorem numP_pn {s:St} (h:PN s) (h9:s.part≠9) (h':s.part<=9) (r:Rw) (v:Nat):PN (numP s r v).1:=by
 unfold numP
 split
 ·unfold St.takeHead
  split
  ·exact enter_pn _ (by omega) (by omega)
  ·exact h
 split
 ·show PN (s.block v)
  unfold St.block
  split
  ·exact enter_pn _ (by omega) (by omega)
  split
  ·exact enter_pn _ (by omega) (by omega)
  split
  ·exact enter_pn _ (by omega) (by omega)
  ·exact h.same rfl rfl rfl
 split
 ·show PN (s.takeSize v).1
  unfold St.takeSize
  split
  ·show PN (if v % 65536=0 then ({ s with left:=v % 65536 }:St).endBlock else ({ s with left:=v % 65536 }:St).enter 3 8)
   split
   ·exact endBlock_pn _
   ·exact enter_pn _ (by omega) (by omega)
  ·exact h
 split
 ·unfold storedP
  split
  ·show PN (giveP s r v).1.oneLess
   unfold St.oneLess
   split
   ·exact endBlock_pn _
   ·exact enter_pn _ (by omega) (by omega)
  ·exact giveP_pn h _ _
 split
 ·exact counts_pn h v
 split
 ·exact shortLen_pn h v
 split
 ·exact repeat_pn h v
 split
 ·exact enter_pn _ (by omega) (by omega)
 split
 ·exact copyP_pn h _ _
 ·rename_i q0 q1 q2 q3 q4 q5 q6 q7 q8
  omega
theorem bitP_pn {s:St} (h9:s.part≠9) (h10:s.part≠10) (hp:s.part<=13) (r:Rw) (t:Nat):PN (bitP s r t).1:=by
 have h:PN s:=⟨h10,fun q=>absurd q h9⟩
 unfold bitP
 split
 ·have h1:PN { s with path:=(s.lit.step s.path t).1 }:=h.same rfl rfl rfl
  unfold symP symT
  split
  ·exact h1
  split
  ·exact h1
  split
  ·exact endBlock_pn _
  split
  ·generalize (s.lit.step s.path t).2.toNat - 257=M
   exact copy_pn _ _
  ·exact giveP_pn (enter_pn _ (by omega) (by omega)) _ _
 split
 ·exact codeLen_pn (s:={ s with path:=(s.tb.short.step s.path t).1 }) (h.same rfl rfl rfl) _
 split
 ·have h1:PN { s with path:=(s.dist.step s.path t).1 }:=h.same rfl rfl rfl
  unfold dsP distP
  split
  ·exact h1
  split
  ·exact h1
  split
  ·exact copyP_pn h1 _ _
  ·exact enter_pn _ (by omega) (by omega)
 split
 ·exact ⟨h10,fun q=>absurd q h9⟩
 ·exact numP_pn (s:=s.oneBit t) ⟨h10,fun q=>absurd q h9⟩ h9 (by show s.part<=9;omega) _ _
theorem bitsGo_j (x:Nat):∀ (k i:Nat) (s:St) (r:Rw),i+k=8->StJ s->RwJ r->(s.part=10->k=0)->(s.part=9->(s.skip=true->s.got=0)/\(s.skip=false->s.got % 8=i % 8))->BitsOk k i s r x/\((bitsGo k i s r x).2.2=0->StJ (bitsGo k i s r x).1/\RwJ (bitsGo k i s r x).2.1/\((bitsGo k i s r x).1.part=9->(bitsGo k i s r x).1.got % 8=0))
 | 0,i,s,r,hi,h,j,_,h9=>⟨trivial,fun _=>⟨h,j,fun q=>by
   replace q:s.part=9:=q
   show s.got % 8=0
   obtain ⟨a,b⟩:=h9 q
   cases hs:s.skip with
   | true=>rw[a hs]
   | false=>have:=b hs;omega⟩⟩
 | k+1,i,s,r,hi,h,j,h10,h9=>by
  have n10:s.part≠10:=fun q=>absurd (h10 q) (by omega)
  by_cases hs:s.skip=true
  ·refine ⟨Or.inl hs,?_⟩
   unfold bitsGo
   rw[if_pos hs]
   exact fun _=>⟨h,j,fun q=>by show s.got % 8=0;rw[(h9 q).1 hs]⟩
  ·have hsf:s.skip=false:=by cases e:s.skip with | false=>rfl | true=>exact absurd e hs
   have ht:x / 2^i % 2<=1:=by omega
   have ok:=bitOkJ h j n10 ht
   generalize ht':x / 2^i % 2=t at *
   have key:(bitP s r t).2.2=0->BitsOk k (i+1) (bitP s r t).1 (bitP s r t).2.1 x/\((bitsGo k (i+1) (bitP s r t).1 (bitP s r t).2.1 x).2.2=0->StJ (bitsGo k (i+1) (bitP s r t).1 (bitP s r t).2.1 x).1/\RwJ (bitsGo k (i+1) (bitP s r t).1 (bitP s r t).2.1 x).2.1/\((bitsGo k (i+1) (bitP s r t).1 (bitP s r t).2.1 x).1.part=9->(bitsGo k (i+1) (bitP s r t).1 (bitP s r t).2.1 x).1.got % 8=0)):=fun he=>by
    obtain ⟨h1,j1⟩:=bitPJ h j n10 ht he
    refine bitsGo_j x k (i+1) _ _ (by omega) h1 j1 ?_ ?_
    ·by_cases q9:s.part=9
     ·intro q10
      have g:=(h9 q9).2 hsf
      have w:=h.p.want.w9 q9
      have hgt:=h.got (by omega)
      unfold bitP at q10
      rw[if_neg (by omega),if_neg (by omega),if_neg (by omega)] at q10
      by_cases qw:s.got+1<s.wanted
      ·rw[if_pos qw] at q10
       replace q10:s.part=10:=q10
       omega
      ·omega
     ·intro q10
      exact absurd q10 (bitP_pn q9 n10 h.p.part r t).n10
    ·by_cases q9:s.part=9
     ·intro q9'
      have g:=(h9 q9).2 hsf
      unfold bitP at q9' he ⊢
      rw[if_neg (by omega),if_neg (by omega),if_neg (by omega)] at q9' he ⊢
      by_cases qw:s.got+1<s.wanted
      ·rw[if_pos qw]
       refine ⟨fun q => ?_,fun _ => ?_⟩
       ·replace q:s.skip=true:=q
        exact absurd q hs
       ·show (s.got+1) % 8=(i+1) % 8
        omega
      ·exfalso
       rw[if_neg qw] at q9' he
       unfold numP at q9' he
       have e9:(s.oneBit t).part=9:=q9
       rw[if_neg (by omega),if_neg (by omega),if_neg (by omega),if_neg (by omega),if_neg (by omega),if_neg (by omega),if_neg (by omega),if_neg (by omega),if_neg (by omega)] at q9' he
       unfold St.takeSum at q9' he
       by_cases qs:bswap (s.number+t*2^s.got)=(s.oneBit t).sum
       ·rw[if_pos qs] at q9'
        exact absurd q9' (by show ¬ 10=9;omega)
       ·rw[if_neg qs] at he
        exact absurd he (by show ¬ 19=0;omega)
     ·intro q9'
      obtain ⟨a,b⟩:=(bitP_pn q9 n10 h.p.part r t).n9 q9'
      exact ⟨fun _=>b,fun q=>by rw[a] at q;cases q⟩
   refine ⟨?_,?_⟩
   ·refine Or.inr ?_
    rw[ht']
    exact ⟨ok,fun he=>(key he).1⟩
   ·unfold bitsGo
    rw[if_neg hs,ht']
    by_cases he:(bitP s r t).2.2=0
    ·rw[if_pos he];exact (key he).2
    ·rw[if_neg he];exact fun q=>absurd q he
structure StB (s:St):Prop where
 j:StJ s
 al:s.part=9->s.got % 8=0
theorem StB.start:StB St.start:=⟨StJ.start,fun q=>absurd q (by show ¬ 0=9;omega)⟩
theorem takeB_j {s:St} {r:Rw} {x:Nat} (h:StB s) (j:RwJ r):(s.part≠10->BitsOk 8 0 { s with skip:=false } r x)/\((takeB s r x).2.2=0->StB (takeB s r x).1/\RwJ (takeB s r x).2.1):=by
 have key:s.part≠10->_:=fun h10=>bitsGo_j x 8 0 { s with skip:=false } r rfl (h.j.skip false) j (fun q=>absurd q h10) (fun q=>⟨fun e=>(by cases e),fun _=>h.al q⟩)
 refine ⟨fun h10=>(key h10).1,fun he => ?_⟩
 unfold takeB at he ⊢
 by_cases h10:s.part=10
 ·rw[if_pos h10] at he;exact absurd he (by show ¬ 20=0;omega)
 ·rw[if_neg h10] at he ⊢
  obtain ⟨a,b,c⟩:=(key h10).2 he
  exact ⟨⟨a,c⟩,b⟩
