import Derived.Test.YtgooinallljbpaaGreatDoorTd01
import Derived.Deep.MidRow
import Derived.Deep.CutBlock
import Derived.Deep.CutRange
import Derived.Test.YtgooinallljbpaaGreatDoorTd00
set_option maxRecDepth 100000
set_option maxHeartbeats 6400000
namespace Go.Proofs.YtgooinallljbpaaGreatDoor
open Go.RowKit
set_option linter.unusedSimpArgs false
set_option linter.unusedVariables false
theorem Ie {k:IntKind} {m:Int} {cs:List Value} {n:Nat} (hl:cs.length=n) (h:∀ j,j<n->∃ z:Int,0<=z/\z<m/\cs[j]? = some (.int k z)):∀ v ∈ cs,v.oneCell'=true:=by
 intro v hv;obtain ⟨j,hj,e⟩:=List.getElem_of_mem hv;obtain ⟨z,_,_,hz⟩:=h j (by omega);rw[List.getElem?_eq_getElem hj] at hz
 injection hz with hz
 rw[<- e,hz];rfl
theorem fO {w:World} {b o n:Nat} (h:w.there b o n) {c k:Nat} (u:Value) (hne:c≠b):(w.setCell ⟨c,k,none⟩ u).there b o n:=by
 intro j hj;obtain ⟨h1,h2⟩:=h j hj;exact ⟨by rw[World.cell?_setCell_other _ _ _ _ (by intro e;injection e;omega)];exact h1,by rw[World.frozen?_setCell];exact h2⟩
theorem bm {P:Program} {fn:Func} {p:Tmp} {ty:TypeId} (h:fn.results=#[.cell p ty]) (tmps:Array Value) (w:World) (b o:Nat) (v:Value)
  (hp:tmps.getD p undef = .pointer (some ⟨b,o,none⟩)) (hl:(loadVar ty ⟨b,o,none⟩).run P w = .ok v w):(results fn tmps).run P w = .ok v w:=by
 have hp':tmps[p]?.getD undef = .pointer (some ⟨b,o,none⟩):=by simpa using hp
 simp [results,h,hp',asAddr,Sem.run_bind,Result.andThen,hl]
theorem Kept.setCells {x:World} {b:Nat} (hb:x.heap.size<=b):∀ (vs:List Value) (o:Nat) {y:World},Kept x y->Kept x (y.setCells b o vs)
 | [],_,_,h=>h
 | v::r,o,_,h=>Kept.setCells hb r (o+1) (h.setCell hb _)
end Go.Proofs.YtgooinallljbpaaGreatDoor
namespace Px
def grd:List Nat:=[0,0,8,8,8,8,4,0,8,8,4,8,0,4,4,8,4,4,2,0,4,4,2,4,0,2,2,4,2,2,1,0,2,2,1,2,0,1,1,2,1,1]
def fE (j:Nat):Nat:=grd.getD j 0
structure Ps where
 cf:Nat
 cs:Nat
 cb:Nat
 rf:Nat
 rs:Nat
 rb:Nat
def aK (L k:Nat):Ps:=if L=1/\k<7 then ⟨fE (6*k),fE (6*k+2),fE (6*k+4),fE (6*k+1),fE (6*k+3),fE (6*k+5)⟩ else ⟨0,1,1,0,1,1⟩
theorem fj (L k:Nat):(aK L k).cf<=4/\1<=(aK L k).cs/\(aK L k).cs<=8/\(aK L k).cb<=8/\(aK L k).rf<=4/\1<=(aK L k).rs/\(aK L k).rs<=8/\(aK L k).rb<=8:=by
 unfold aK;split
 ·rename_i h
  obtain ⟨_,h⟩:=h
  have:∀ k,k<7->(fE (6*k)<=4/\1<=fE (6*k+2)/\fE (6*k+2)<=8/\fE (6*k+4)<=8/\fE (6*k+1)<=4/\1<=fE (6*k+3)/\fE (6*k+3)<=8/\fE (6*k+5)<=8):=by decide
  exact this k h
 ·simp
end Px
namespace Go.Proofs.YtgooinallljbpaaGreatDoor
open Go.RowKit Px
set_option linter.unusedSimpArgs false
set_option linter.unusedVariables false
def cJ (w:World):Prop:=∀ j,j<42->w.cell? ⟨0,j,none⟩=some (.int .i64 (fE j:Int))
theorem cJ.kept {w w':World} (h:cJ w) (k:Kept w w'):cJ w':=fun j hj=>(k.cell (p:=⟨0,j,none⟩) (World.block_lt_of_cell? _ _ (h j hj))).trans (h j hj)
theorem cJ.fr {S:Nat->Prop} {w w':World} (h:cJ w) (k:Fr S w w') (h0:¬ S 0):cJ w':=fun j hj=>(k.cell (World.block_lt_of_cell? _ _ (h j hj)) h0).trans (h j hj)
def psV (p:Ps):Value := .agg #[.int .i64 (p.cf:Int),.int .i64 (p.cs:Int),.int .i64 (p.cb:Int),.int .i64 (p.rf:Int),.int .i64 (p.rs:Int),.int .i64 (p.rb:Int)]
theorem GK (L k:Nat) (w:World) (hL:L<=1) (hk:k<=1000) (hG:cJ w) :
  Calls Tryz.prog 117 #[.int .i64 (L:Int),.int .i64 (k:Int)] w fun e w'=>e = .returned (psV (aK L k))/\Kept w w':=by
 have hi:(Tryz.prog.info? 180).map (·.size)=some 6:=by kernel_rfl
 by_cases h:L=1/\k<7
 ·have hc:∀ (j:Nat),j<6->(∀ o,(w.alloc o).cell? ⟨0,k*6+j,none⟩=some (.int .i64 (fE (6*k+j):Int)))/\(∀ o o',((w.alloc o).alloc o').cell? ⟨0,k*6+j,none⟩=some (.int .i64 (fE (6*k+j):Int))):=fun j hj=>by
   have h0:w.cell? ⟨0,k*6+j,none⟩=some (.int .i64 (fE (6*k+j):Int)):=by
    have:=hG (6*k+j) (by omega)
    rw[show k*6+j=6*k+j from by omega];exact this
   have h1:∀ o,(w.alloc o).cell? ⟨0,k*6+j,none⟩=some (.int .i64 (fE (6*k+j):Int)):=fun o=>by rw[World.cell?_alloc_lt _ _ _ (World.block_lt_of_cell? _ _ h0)];exact h0
   exact ⟨h1,fun o o'=>by rw[World.cell?_alloc_lt _ _ _ (World.block_lt_of_cell? _ _ (h1 o))];exact h1 o⟩
  obtain ⟨c0,d0⟩:=hc 0 (by omega);obtain ⟨c1,d1⟩:=hc 1 (by omega);obtain ⟨c2,d2⟩:=hc 2 (by omega);obtain ⟨c3,d3⟩:=hc 3 (by omega);obtain ⟨c4,d4⟩:=hc 4 (by omega);obtain ⟨c5,d5⟩:=hc 5 (by omega);have HP:Hid (aK L k=⟨fE (6*k),fE (6*k+2),fE (6*k+4),fE (6*k+1),fE (6*k+3),fE (6*k+5)⟩):=by unfold aK;exact if_pos h
  rw[HP.out];clear HP;simp only [Nat.add_zero] at c0 d0;generalize fE (6*k)=X0 at *;generalize fE (6*k+1)=X1 at *;generalize fE (6*k+2)=X2 at *;generalize fE (6*k+3)=X3 at *;generalize fE (6*k+4)=X4 at *;generalize fE (6*k+5)=X5 at *;obtain ⟨rfl,hk7⟩:=h;have g1:¬ (k:Int)<0:=by omega
  have g2:¬ (7:Int)<=(k:Int):=by omega
  have g3:(0:Int)<=(k:Int):=by omega
  have g4:(k:Int)<7:=by omega
  clear hc hG;go_enter Tryz.func117,Tryz.ntmps117;go_wp2;refine bodyPost_ret (v := .agg #[.int .i64 (X0:Int),.int .i64 (X2:Int),.int .i64 (X4:Int),.int .i64 (X1:Int),.int .i64 (X3:Int),.int .i64 (X5:Int)]) (bm rfl _ _ w.heap.size 0 _ rfl ?_) rfl ?_
  ·refine run_loadVar_row _ _ 180 180 _ (0,0) _ ?_ Tryz.underlying180 rfl hi
   rw[heap_alloc_old _ _ (by simp)];exact heap_alloc_new _ _
  ·exact ⟨rfl,Below.alloc (Below.alloc (Below.refl _ _) (Nat.le_refl _) _) (by simp) _⟩
 ·have HP:Hid (aK L k=⟨0,1,1,0,1,1⟩):=by unfold aK;exact if_neg h
  rw[HP.out];clear HP hG;by_cases h1:L=1
  ·subst h1
   have g2:(7:Int)<=(k:Int):=by omega
   have g1:¬ (k:Int)<0:=by omega
   go_enter Tryz.func117,Tryz.ntmps117;go_wp2;refine bodyPost_ret (v := .agg #[.int .i64 0,.int .i64 1,.int .i64 1,.int .i64 0,.int .i64 1,.int .i64 1]) (bm rfl _ _ w.heap.size 0 _ rfl ?_) rfl ?_
   ·refine run_loadVar_row _ _ 180 180 _ (0,0) _ ?_ Tryz.underlying180 rfl hi
    exact heap_alloc_new _ _
   ·exact ⟨rfl,Below.alloc (Below.refl _ _) (Nat.le_refl _) _⟩
  ·have g0:((L:Int) != 1)=true:=by rw[bne_iff_ne];omega
   go_enter Tryz.func117,Tryz.ntmps117;go_wp2;refine bodyPost_ret (v := .agg #[.int .i64 0,.int .i64 1,.int .i64 1,.int .i64 0,.int .i64 1,.int .i64 1]) (bm rfl _ _ w.heap.size 0 _ rfl ?_) rfl ?_
   ·refine run_loadVar_row _ _ 180 180 _ (0,0) _ ?_ Tryz.underlying180 rfl hi
    exact heap_alloc_new _ _
   ·exact ⟨rfl,Below.alloc (Below.refl _ _) (Nat.le_refl _) _⟩
def bz (f s n:Nat):Nat:=if n<=f then 0 else (n - f - 1) / s+1
theorem fT {f s n:Nat} (hs:1<=s) (hn:n<=16):bz f s n<=16:=by
 unfold bz;split
 ·omega
 ·have:(n - f - 1) / s<=n - f - 1:=Nat.div_le_self _ _
  omega
theorem F7 (f s q n:Nat) (w:World) (hf:f<=8) (hs1:1<=s) (hs2:s<=8) (hn:n<=16) :
  Calls Tryz.prog 144 #[.agg #[.int .i64 (f:Int),.int .i64 (s:Int),.int .i64 (q:Int)],.int .i64 (n:Int)] w fun e w'=>e = .returned (.int .i64 (bz f s n:Int))/\Kept w w':=by
 have hs:(1:Int)<=(s:Int):=by omega
 have hs0:¬ ((s:Int)=0):=by omega
 have hs3:(s:Int)<=8:=by omega
 by_cases h:n<=f
 ·have h':(n:Int)<=(f:Int):=by omega
  unfold bz;rw[if_pos h];go_enter Tryz.func144,Tryz.ntmps144;go_wp2;go_ret;exact ⟨rfl,Below.alloc (Below.refl _ _) (Nat.le_refl _) _⟩
 ·have h':¬ (n:Int)<=(f:Int):=by omega
  unfold bz;rw[if_neg h];have hsN:¬ (s=0):=by omega
  have e:((n:Int) - (f:Int) - 1).tdiv (s:Int)=(((n - f - 1) / s:Nat):Int):=by
   rw[show (n:Int) - (f:Int) - 1=((n - f - 1:Nat):Int) from by omega,Int.tdiv_eq_ediv_of_nonneg (by omega)];exact (Int.natCast_ediv _ _).symm
  have e2:((n:Int) - (f:Int) - 1) / (s:Int)=(((n - f - 1) / s:Nat):Int):=by
   rw[show (n:Int) - (f:Int) - 1=((n - f - 1:Nat):Int) from by omega];exact (Int.natCast_ediv _ _).symm
  have hq:(n - f - 1) / s<=16:=Nat.le_trans (Nat.div_le_self _ _) (by omega);generalize (n - f - 1) / s=Q at *;go_enter Tryz.func144,Tryz.ntmps144;go_wp2;go_ret;exact ⟨ah (by omega),Below.alloc (Below.refl _ _) (Nat.le_refl _) _⟩
theorem Di (f s q i:Nat) (w:World) (hf:f<=8) (hs2:s<=8) (hi:i<=1000) :
  Calls Tryz.prog 192 #[.agg #[.int .i64 (f:Int),.int .i64 (s:Int),.int .i64 (q:Int)],.int .i64 (i:Int)] w fun e w'=>e = .returned (.int .i64 ((f+i*s:Nat):Int))/\Kept w w':=by
 have hT1:i*s<=8000:=Nat.mul_le_mul hi hs2;obtain ⟨T,hT⟩:∃ T,T=i*s:=⟨_,rfl⟩;have eT:(i:Int)*(s:Int)=(T:Int):=by rw[hT];simp
 rw[<- hT] at hT1 ⊢;clear hT;go_enter Tryz.func192,Tryz.ntmps192;go_wp2;go_ret;exact ⟨ah (by omega),Below.alloc (Below.refl _ _) (Nat.le_refl _) _⟩
def uN (r:Rw):Bool:=(List.range r.columns).all (fun i=>decide (dh r i<r.colours))
theorem Ex {r:Rw} (h:∀ i,i<r.columns->dh r i<r.colours):uN r=true:=by
 unfold uN;rw[List.all_eq_true];intro i hi;exact decide_eq_true (h i (List.mem_range.1 hi))
theorem Cg {r:Rw} {i:Nat} (hi:i<r.columns) (h:¬ dh r i<r.colours):uN r=false:=by
 unfold uN;rw[<- Bool.not_eq_true,List.all_eq_true];intro q;exact h (of_decide_eq_true (q i (List.mem_range.2 hi)))
theorem Db {r:Rw} (hk:lq r) (i:Nat):dh r i<65536:=by
 unfold dh;split
 ·have:=IT (r.row (i*r.hd.D / 8)) (i*r.hd.D % 8) r.hd.D
  have h2:2^r.hd.D<=2^16:=Nat.pow_le_pow_right (by omega) hk.D;omega
 ·have:=hk.row (i*r.hd.D / 8)
  have:=hk.row (i*r.hd.D / 8+1)
  omega
structure uy (r:Rw):Prop where
 ok:lq r
 dd:okD r.hd.D
 col:r.columns<=16
 lns:r.lines<=16
 line:r.line<=16
 fit:r.columns*bG r.hd<=1024
 size:r.size<=128
 taken:r.taken<=129
 pass0:0<=r.pass
 pass7:r.pass<=7
 colours:r.colours<=256
theorem L9 (b o n:Nat) (c:Nat->Value) (r:Rw) (w:World) (hB:Blk w b n c) (hV:RwV c o r) (hn:o+1549<=n) (hk:uy r) :
  Calls Tryz.prog 188 #[.pointer (some ⟨b,o,none⟩)] w fun e w'=>e = .returned (.bool (uN r))/\Kept w w':=by
 have hc16:=hk.col;have Fd:Hid (∀ (W':World) (i:Nat),Kept w W'->i<r.columns->Calls Tryz.prog 191 #[.pointer (some ⟨b,o,none⟩),.int .i64 (i:Int)] W' fun e w'=>e = .returned (.int .u16 (dh r i:Int))/\∃ q,w'=W'.drewN q):=fun W' i k hi=>by
  have h1:(i+1)*r.hd.D<=16*16:=Nat.mul_le_mul (by omega) hk.ok.D;rw[Nat.add_mul] at h1;exact zV b o n i c r W' (hB.kept k) hV hn hk.ok hk.dd (by omega) (by omega)
 have K9:Hid (∀ W',Kept w W'->W'.cell? ⟨b,o+8,none⟩=some (.int .i64 (r.columns:Int))/\W'.cell? ⟨b,o+5,none⟩=some (.int .i64 (r.colours:Int))):=fun W' k=>⟨(hB.kept k).at (by omega) hV.columns,(hB.kept k).at (by omega) hV.colours⟩
 have HT:Hid (∀ i,dh r i<65536):=Db hk.ok;have hcol:=hk.colours;clear hB hV hk;go_enter Tryz.func188,Tryz.ntmps188;go_wp2_with fail;go_loopg [3] r.columns (fun k v W=>∃ i:Nat,v = .int .i64 (i:Int)/\i<=r.columns/\k=r.columns - i/\(∀ j,j<i->dh r j<r.colours)/\Kept w W)
 case atStart=>exact ⟨0,rfl,by omega,by omega,fun j hj=>by omega,Kept.refl _⟩
 case round=>
  obtain ⟨i,rfl,hi1,hgk,hall,hkw⟩:=hrel;obtain ⟨k8,k5⟩:=K9.out wr hkw;have HKW:Hid (Kept w wr):=hkw;replace hall:Hid _:=hall;replace hgk:Hid _:=hgk;clear hkw;by_cases hlt:i<r.columns
  ·have l1:(i:Int)<(r.columns:Int):=by omega
   have FSi:Hid (∀ q,Calls Tryz.prog 191 #[.pointer (some ⟨b,o,none⟩),.int .i64 (i:Int)] (wr.drewN q) fun e w'=>e = .returned (.int .u16 (dh r i:Int))/\∃ m,w'=(wr.drewN q).drewN m):=fun q=>Fd.out _ i (HKW.out.drewN q) hlt
   have hsi:=HT.out i;by_cases hs:dh r i<r.colours
   ·have hs':¬ (r.colours:Int)<=(dh r i:Int):=by omega
    have HA:Hid (∀ j,j<i+1->dh r j<r.colours):=fun j hj=>by
     rcases Nat.lt_succ_iff_lt_or_eq.1 hj with q | q
     ·exact hall.out j q
     ·rw[q];exact hs
    generalize dh r i=X at *;go_wp2_with fail;go_quiet ((go_at_call 191;exact Calls.quiet_of (FSi.out _)))
    go_wp2_with fail;go_roundg (r.columns - (i+1))
    case measure=>rw[hgk.out];omega
    case rel=>exact ⟨i+1,by go_num,by omega,rfl,HA.out,HKW.out.drewN _⟩
   ·have hs':(r.colours:Int)<=(dh r i:Int):=by omega
    have HF:Hid (uN r=false):=Cg hlt hs;generalize dh r i=X at *;go_wp2_with fail;go_quiet ((go_at_call 191;exact Calls.quiet_of (FSi.out _)))
    go_wp2_with fail;go_ret;exact ⟨bj (by rw[HF.out]),HKW.out.drewN _⟩
  ·have l1:¬ (i:Int)<(r.columns:Int):=by omega
   have HF:Hid (uN r=true):=Ex (fun j hj=>hall.out j (by omega));go_wp2_with fail;go_ret;exact ⟨bj (by rw[HF.out]),HKW.out⟩
def bY (h:Hd) (p:Nat):Nat:=bz (aK h.L p).cf (aK h.L p).cs h.W
def fL (h:Hd) (p:Nat):Nat:=bz (aK h.L p).rf (aK h.L p).rs h.H
def aL (h:Hd) (p:Nat):Nat:=(bY h p*bG h+7) / 8
def fC (h:Hd) (p k:Nat):List (Nat × Nat):=(List.range' k (fL h p - k)).map fun j=>(p,j)
def az (h:Hd):Nat->Nat->List (Nat × Nat)
 | 0,_=>[]
 | n+1,p=>(if 0<bY h p then fC h p 0 else [])++az h n (p+1)
def fV (st t:Nat) (up:Nat->Nat) (o:Nat->Nat):Nat->Nat->Nat
 | 0=>fun _=>0
 | m+1=>upd (fV st t up o m) m ((o m+gss t (if st<=m then fV st t up o m (m - st) else 0) (up m) (if st<=m then up (m - st) else 0)) % 256)
def qE (D:Nat) (x:Nat->Nat) (i:Nat):Nat:=if D<16 then rh (x (i*D / 8)) (i*D % 8) D else 256*x (i*D / 8)+x (i*D / 8+1)
def ly (h:Hd) (C p:Nat) (x:Nat->Nat):Bool:=decide (h.K=3) && (List.range (bY h p)).any (fun i=>decide (C<=qE h.D x i))
abbrev ImR:Type:=(List (Nat->Nat) × Nat × Nat) ⊕ (List (Nat->Nat)) ⊕ (List (Nat->Nat))
abbrev ImR.bad (x0:List (Nat->Nat)) (x1:Nat) (x2:Nat):ImR := .inl (x0,x1,x2)
abbrev ImR.part (x0:List (Nat->Nat)):ImR := .inr (.inl x0)
abbrev ImR.full (x0:List (Nat->Nat)):ImR := .inr (.inr x0)
theorem ImR.cs {motive:ImR->Prop} (bad:∀ (x0:List (Nat->Nat)) (x1:Nat) (x2:Nat),motive (ImR.bad x0 x1 x2)) (part:∀ (x0:List (Nat->Nat)),motive (ImR.part x0)) (full:∀ (x0:List (Nat->Nat)),motive (ImR.full x0)) (x:ImR):motive x:=
 match x with
 | .inl (x0,x1,x2)=>bad x0 x1 x2
 | .inr (.inl x0)=>part x0
 | .inr (.inr x0)=>full x0
def ImR.cons (x:Nat->Nat):ImR->ImR
 | .inl (ls,e,p) => .bad (x::ls) e p
 | .inr (.inl ls) => .part (x::ls)
 | .inr (.inr ls) => .full (x::ls)
def oAt (o:List One) (i:Nat):Nat:=(o.getD i (0,0)).1
def cy (h:Hd) (p k t:Nat) (up:Nat->Nat) (o:List One):Nat->Nat:=fV (cE h) t (if k=0 then fun _=>0 else up) (oAt o) (aL h p)
def aN (h:Hd) (C:Nat):List (Nat × Nat)->(Nat->Nat)->List One->ImR
 | [],_,[] => .full []
 | [],_,x::_ => .bad [] 17 x.2
 | _::_,_,[] => .part []
 | (p,k)::rs,up,x::o=>
  if 4<x.1 then .bad [] 15 x.2
  else if o.length<aL h p then .part []
  else if ly h C p (cy h p k x.1 up o) then .bad [] 16 (o.getD (aL h p - 1) (0,0)).2
  else (aN h C rs (cy h p k x.1 up o) (o.drop (aL h p))).cons (cy h p k x.1 up o)
def aH (h:Hd):List (Nat × Nat)->Nat
 | []=>0
 | x::l=>1+aL h x.1+aH h l
theorem pN (h:Hd) (l m:List (Nat × Nat)):aH h (l++m)=aH h l+aH h m:=by
 induction l with
 | nil=>simp [aH]
 | cons x l ih=>rw[List.cons_append,aH,aH,ih];omega
theorem Ar (h:Hd) (C:Nat):∀ (rs:List (Nat × Nat)) (up:Nat->Nat) (out:List One),(∃ ls,aN h C rs up out = .part ls/\out.length<aH h rs)\/(∃ ls,aN h C rs up out = .full ls/\out.length=aH h rs)\/(∃ ls e p,aN h C rs up out = .bad ls e p)
 | [],up,[]=>Or.inr (Or.inl ⟨[],by rw[aN],rfl⟩)
 | [],up,x::o=>Or.inr (Or.inr ⟨[],17,x.2,by rw[aN]⟩)
 | (p,k)::rs,up,[]=>Or.inl ⟨[],by rw[aN],by rw[aH];simp;omega⟩
 | (p,k)::rs,up,x::o=>by
  rw[aN];by_cases c4:4<x.1
  ·rw[if_pos c4];exact Or.inr (Or.inr ⟨_,_,_,rfl⟩)
  rw[if_neg c4];by_cases c5:o.length<aL h p
  ·rw[if_pos c5];exact Or.inl ⟨_,rfl,by rw[aH];simp;omega⟩
  rw[if_neg c5];by_cases c6:ly h C p (cy h p k x.1 up o)=true
  ·rw[if_pos c6];exact Or.inr (Or.inr ⟨_,_,_,rfl⟩)
  rw[if_neg c6];have hl:(o.drop (aL h p)).length=o.length - aL h p:=by simp
  rcases Ar h C rs (cy h p k x.1 up o) (o.drop (aL h p)) with ⟨ls,e1,e2⟩ | ⟨ls,e1,e2⟩ | ⟨ls,e,q,e1⟩
  ·rw[e1];exact Or.inl ⟨_,rfl,by rw[aH];simp at e2 ⊢;omega⟩
  ·rw[e1];exact Or.inr (Or.inl ⟨_,rfl,by rw[aH];simp at e2 ⊢;omega⟩)
  ·rw[e1];exact Or.inr (Or.inr ⟨_,_,_,rfl⟩)
def pv (L p j:Nat):Nat:=[(aK L p).cf,(aK L p).rf,(aK L p).cs,(aK L p).rs,(aK L p).cb,(aK L p).rb].getD j 0
structure qe (w:World) (g:Nat) (L:Nat):Prop where
 cell:∀ p j,p<aF L->j<6->w.cell? ⟨g,p*6+j,none⟩=some (.int .i64 (pv L p j:Int))
theorem wD (L:Nat):1<=aF L/\aF L<=7:=by unfold aF;split<;>omega
theorem qe.lt {w:World} {g L:Nat} (h:qe w g L):g<w.heap.size:=World.block_lt_of_cell? _ _ (h.cell 0 0 (wD L).1 (by omega))
theorem qe.kept {w w':World} {g L:Nat} (h:qe w g L) (k:Kept w w'):qe w' g L:=⟨fun p j hp hj=>by rw[k.cell (p:=⟨g,p*6+j,none⟩) h.lt];exact h.cell p j hp hj⟩
theorem AO (w:World) (l:List Nat) (k:Nat) (hk:k<l.length) (t:TypeId):(w.alloc (.cells ((l.map fun (n:Nat)=>Value.int .i64 (n:Int)).toArray) t)).cell? ⟨w.heap.size,k,none⟩=some (.int .i64 (l.getD k 0:Int)):=by
 rw[World.cell?_alloc_at _ _ _ _ rfl];simp [List.getElem?_map,List.getElem?_eq_getElem hk,List.getD_eq_getElem?_getD]
theorem pv0:∀ j,j<6->([0,0,1,1,1,1]:List Nat).getD (0*6+j) 0=pv 0 0 j:=by decide
theorem pv1:∀ p,p<7->∀ j,j<6->grd.getD (p*6+j) 0=pv 1 p j:=by decide
theorem vT (L:Nat) (w:World) (hL:L<=1) :
  Calls Tryz.prog 69 #[.int .i64 (L:Int)] w fun r w'=>r = .returned (.slice (some ⟨w.heap.size,0,none⟩) (aF L) (aF L))/\qe w' w.heap.size L/\Kept w w':=by
 have hh:L=0\/L=1:=by omega
 rcases hh with rfl | rfl
 ·go_enter Tryz.func69,Tryz.ntmps69
  go_wp2;go_ret;refine ⟨rfl,⟨fun p j hp hj => ?_⟩,(Below.refl _ _).alloc (Nat.le_refl _) _⟩
  have:p=0:=by
   have:aF 0=1:=rfl
   omega
  subst this;rw[<- pv0 j hj];exact AO w [0,0,1,1,1,1] (0*6+j) (by show _<6;omega) _
 ·go_enter Tryz.func69,Tryz.ntmps69
  go_wp2;go_ret;refine ⟨rfl,⟨fun p j hp hj => ?_⟩,(Below.refl _ _).alloc (Nat.le_refl _) _⟩;have hp7:p<7:=hp;rw[<- pv1 p hp7 j hj];exact AO w grd (p*6+j) (by show _<42;omega) _
def two (d:Nat):Prop:=d=1\/d=2\/d=4\/d=8
theorem LK (L p:Nat) (hp:p<aF L):two (aK L p).cs/\two (aK L p).rs/\(aK L p).cf<=8/\(aK L p).rf<=8:=by
 by_cases h:L=1
 ·subst h
  have h7:p<7:=hp
  have:∀ p,p<7->((aK 1 p).cs=1\/(aK 1 p).cs=2\/(aK 1 p).cs=4\/(aK 1 p).cs=8)/\((aK 1 p).rs=1\/(aK 1 p).rs=2\/(aK 1 p).rs=4\/(aK 1 p).rs=8)/\(aK 1 p).cf<=8/\(aK 1 p).rf<=8:=by decide
  exact this p h7
 ·unfold aK
  rw[if_neg (fun q=>h q.1)];exact ⟨Or.inl rfl,Or.inl rfl,by decide,by decide⟩
theorem Aj (n a d:Nat) (w:World) (hn:n<=16) (ha:a<=8) (hd:two d) :
  Calls Tryz.prog 111 #[.int .i64 (n:Int),.int .i64 (a:Int),.int .i64 (d:Int)] w fun r w'=>r = .returned (.int .i64 (bz a d n:Int))/\w'=w:=by
 obtain ⟨Q,hQ⟩:∃ Q,Q=bz a d n:=⟨_,rfl⟩;rw[<- hQ];have HQ:Hid (Q=bz a d n):=hQ;clear hQ;rcases hd with rfl | rfl | rfl | rfl
 ·have h0:Hid (Q=n - a):=by
   show Q=n - a
   rw[HQ.out];unfold bz;split<;>omega
  go_enter Tryz.func111,Tryz.ntmps111;go_wp2;go_loop [7,8] (fun v j=>∃ c i:Nat,v = .int .i64 (c:Int)/\j = .int .i64 (i:Int)/\i=a+1*c/\c<=16/\c<=n - a) (fun _ j=>40 - (intOf j).toNat)
  case atStart=>exact ⟨0,a,rfl,rfl,by omega,by omega,by omega⟩
  case round=>
   obtain ⟨c,i,rfl,rfl,h1',h2,h3⟩:=hrel;have HI:Hid (i=a+1*c):=h1';by_cases hlt:i<n
   ·clear h1'
    go_wp2;have h1:=HI.out;exact ⟨⟨c+1,i+1,by go_num,by go_num,by omega,by omega,by omega⟩,by simp [intOf];omega⟩
   ·clear h1'
    go_wp2;go_ret;have h1:=HI.out;have h0':=h0.out;exact ⟨ah (by omega),rfl⟩
 ·have h0:Hid (Q=(n - a+1) / 2):=by
   show Q=(n - a+1) / 2
   rw[HQ.out];unfold bz;split<;>omega
  go_enter Tryz.func111,Tryz.ntmps111;go_wp2;go_loop [7,8] (fun v j=>∃ c i:Nat,v = .int .i64 (c:Int)/\j = .int .i64 (i:Int)/\i=a+2*c/\c<=16/\c<=(n - a+1) / 2) (fun _ j=>40 - (intOf j).toNat)
  case atStart=>exact ⟨0,a,rfl,rfl,by omega,by omega,by omega⟩
  case round=>
   obtain ⟨c,i,rfl,rfl,h1',h2,h3⟩:=hrel;have HI:Hid (i=a+2*c):=h1';by_cases hlt:i<n
   ·clear h1'
    go_wp2;have h1:=HI.out;exact ⟨⟨c+1,i+2,by go_num,by go_num,by omega,by omega,by omega⟩,by simp [intOf];omega⟩
   ·clear h1'
    go_wp2;go_ret;have h1:=HI.out;have h0':=h0.out;exact ⟨ah (by omega),rfl⟩
 ·have h0:Hid (Q=(n - a+3) / 4):=by
   show Q=(n - a+3) / 4
   rw[HQ.out];unfold bz;split<;>omega
  go_enter Tryz.func111,Tryz.ntmps111;go_wp2;go_loop [7,8] (fun v j=>∃ c i:Nat,v = .int .i64 (c:Int)/\j = .int .i64 (i:Int)/\i=a+4*c/\c<=16/\c<=(n - a+3) / 4) (fun _ j=>40 - (intOf j).toNat)
  case atStart=>exact ⟨0,a,rfl,rfl,by omega,by omega,by omega⟩
  case round=>
   obtain ⟨c,i,rfl,rfl,h1',h2,h3⟩:=hrel;have HI:Hid (i=a+4*c):=h1';by_cases hlt:i<n
   ·clear h1'
    go_wp2;have h1:=HI.out;exact ⟨⟨c+1,i+4,by go_num,by go_num,by omega,by omega,by omega⟩,by simp [intOf];omega⟩
   ·clear h1'
    go_wp2;go_ret;have h1:=HI.out;have h0':=h0.out;exact ⟨ah (by omega),rfl⟩
 ·have h0:Hid (Q=(n - a+7) / 8):=by
   show Q=(n - a+7) / 8
   rw[HQ.out];unfold bz;split<;>omega
  go_enter Tryz.func111,Tryz.ntmps111;go_wp2;go_loop [7,8] (fun v j=>∃ c i:Nat,v = .int .i64 (c:Int)/\j = .int .i64 (i:Int)/\i=a+8*c/\c<=16/\c<=(n - a+7) / 8) (fun _ j=>40 - (intOf j).toNat)
  case atStart=>exact ⟨0,a,rfl,rfl,by omega,by omega,by omega⟩
  case round=>
   obtain ⟨c,i,rfl,rfl,h1',h2,h3⟩:=hrel;have HI:Hid (i=a+8*c):=h1';by_cases hlt:i<n
   ·clear h1'
    go_wp2;have h1:=HI.out;exact ⟨⟨c+1,i+8,by go_num,by go_num,by omega,by omega,by omega⟩,by simp [intOf];omega⟩
   ·clear h1'
    go_wp2;go_ret;have h1:=HI.out;have h0':=h0.out;exact ⟨ah (by omega),rfl⟩
def uH (k:Nat):Nat:=if k=2 then 3 else if k=4 then 2 else if k=6 then 4 else 1
theorem lG (k:Nat) (w:World) :
  Calls Tryz.prog 80 #[.int .i64 (k:Int)] w fun e w'=>e = .returned (.int .i64 (uH k:Int))/\w'=w:=by
 have H0:Hid (uH k=if k=2 then 3 else if k=4 then 2 else if k=6 then 4 else 1):=rfl;generalize uH k=Q at *;go_enter Tryz.func80,Tryz.ntmps80;go_wp2
 all_goals (go_ret;refine ⟨ah ?_,rfl⟩;rw[H0.out];simp only [beq_iff_eq,beq_eq_false_iff_ne] at *;(repeat' split)<;>omega)
def kindOk (k:Nat):Prop:=k=0\/k=2\/k=3\/k=4\/k=6
theorem zQ {k:Nat} (h:kindOk k):uH k=chn k:=by rcases h with rfl | rfl | rfl | rfl | rfl<;>rfl
theorem Da (k:Nat):uH k<=4:=by unfold uH;(repeat' split)<;>omega
theorem Gr (K D:Nat) (w:World) (hD:D<=16):Calls Tryz.prog 71 #[.int .i64 (K:Int),.int .i64 (D:Int)] w fun r w'=>r = .returned (.int .i64 (((uH K*D+7) / 8:Nat):Int))/\w'=w:=by
 have hS:=Da K;have Fd:Hid (∀ Wd,Calls Tryz.prog 80 #[.int .i64 (K:Int)] Wd fun r w'=>r = .returned (.int .i64 (uH K:Int))/\w'=Wd):=fun Wd=>lG K Wd
 generalize uH K=S at *;have hm:S*D<=64:=by have:=Nat.mul_le_mul hS hD;omega
 obtain ⟨M,hM⟩:∃ M,M=S*D:=⟨_,rfl⟩;rw[<- hM] at hm ⊢;have m3:(S:Int)*(D:Int)=(M:Int):=by rw[hM,Int.natCast_mul]
 replace hM:Hid _:=hM;go_enter Tryz.func71,Tryz.ntmps71;go_wp2_with (go_at_call 80;refine (Fd.out _).mono ?_;rintro r w' ⟨rfl,rfl⟩)
 go_ret;exact ⟨ah (by omega),rfl⟩
theorem BA {h:Hd} (hk:kindOk h.K) (hD:okD h.D) (hl:(h.K=0\/h.K=3)\/(h.D=8\/h.D=16)):(uH h.K*h.D+7) / 8=cE h:=by
 unfold cE bG;rw[zQ hk];unfold okD at hD;rcases hk with e | e | e | e | e<;>rw[e] at hl ⊢<;>rcases hD with d | d | d | d | d<;>rw[d] at hl ⊢<;>first | rfl | (exfalso;omega)
def Rw.ps (r:Rw):Ps:=aK r.hd.L r.pass.toNat
def Rw.px (r:Rw) (i:Nat):Nat:=r.ps.cf+i*r.ps.cs
def Rw.py (r:Rw):Nat:=r.ps.rf+r.line*r.ps.rs
def Rw.pt (r:Rw) (i:Nat):Nat:=r.py*16+r.px i
def qv (q:Rw) (a:Nat) (f:Nat->Nat):Nat->Rw
 | 0=>q
 | k+1=>{ qv q a f k with smp:=upd (qv q a f k).smp (4*a+k) (f k) }
def ch (r:Rw):Nat->Rw
 | 0=>r
 | m+1=>{ qv (ch r m) (r.pt m) (fun k=>dh r (m*chn r.hd.K+k)) (chn r.hd.K) with known:=upd (qv (ch r m) (r.pt m) (fun k=>dh r (m*chn r.hd.K+k)) (chn r.hd.K)).known (r.pt m) true }
def qH (q r:Rw):Prop:=q.hd=r.hd/\q.colours=r.colours/\q.pass=r.pass/\q.line=r.line/\q.columns=r.columns/\q.lines=r.lines/\q.size=r.size/\q.taken=r.taken/\q.filter=r.filter/\q.row=r.row/\q.above=r.above
theorem qH.refl (r:Rw):qH r r:=⟨rfl,rfl,rfl,rfl,rfl,rfl,rfl,rfl,rfl,rfl,rfl⟩
theorem wj {q r:Rw} (h:qH q r) (a:Nat) (f:Nat->Nat) (k:Nat):qH (qv q a f k) r:=by
 induction k with
 | zero=>exact h
 | succ k ih=>exact ih
theorem iG (r:Rw) (m:Nat):qH (ch r m) r:=by
 induction m with
 | zero=>exact qH.refl r
 | succ m ih=>exact wj ih _ _ _
theorem qH.smp {q r:Rw} (h:qH q r) (i:Nat):dh q i=dh r i:=by
 obtain ⟨h1,_,_,_,_,_,_,_,_,h2,_⟩:=h;unfold dh;rw[h1,h2]
theorem qH.ok {q r:Rw} (h:qH q r) (k:lq r):lq q:=by
 obtain ⟨h1,_,_,_,_,_,_,_,h3,h2,h4⟩:=h;exact ⟨by rw[h1];exact k.W,by rw[h1];exact k.H,by rw[h1];exact k.D,by rw[h1];exact k.K,by rw[h1];exact k.L,by rw[h3];exact k.filter,by rw[h2];exact k.row,by rw[h4];exact k.above⟩
structure uz (r:Rw):Prop where
 px:∀ i,i<r.columns->r.px i<16
 py:r.py<16
def Jj (w W:World) (p:Ps) (G:Nat):Prop:=w.heap.size<=G/\G<W.heap.size/\W.cell? ⟨G,0,none⟩=some (.int .i64 (p.cf:Int))/\W.cell? ⟨G,1,none⟩=some (.int .i64 (p.cs:Int))/\W.cell? ⟨G,2,none⟩=some (.int .i64 (p.cb:Int))/\W.cell? ⟨G,3,none⟩=some (.int .i64 (p.rf:Int))/\W.cell? ⟨G,4,none⟩=some (.int .i64 (p.rs:Int))/\W.cell? ⟨G,5,none⟩=some (.int .i64 (p.rb:Int))
theorem Aa {w w1:World} {ps:Ps} (h:Kept w w1):∃ G:Nat,Value.pointer (some ⟨w1.heap.size,0,none⟩) = .pointer (some ⟨G,0,none⟩)/\Kept w (w1.alloc (Obj.cells #[.int .i64 (ps.cf:Int),.int .i64 (ps.cs:Int),.int .i64 (ps.cb:Int),.int .i64 (ps.rf:Int),.int .i64 (ps.rs:Int),.int .i64 (ps.rb:Int)] 180))/\Jj w (w1.alloc (Obj.cells #[.int .i64 (ps.cf:Int),.int .i64 (ps.cs:Int),.int .i64 (ps.cb:Int),.int .i64 (ps.rf:Int),.int .i64 (ps.rs:Int),.int .i64 (ps.rb:Int)] 180)) ps G:=by
 refine ⟨w1.heap.size,rfl,Below.alloc h h.size _,h.size,by simp,?_,?_,?_,?_,?_,?_⟩
 all_goals exact (World.cell?_alloc_at _ _ _ _ rfl).trans rfl
theorem z9 {w w1:World} {ps:Ps} (h:Kept w w1) (y0:w1.cell? ⟨w.heap.size,0,none⟩=some (.int .i64 0)) (y1:w1.cell? ⟨w.heap.size,1,none⟩=some (.int .i64 0)) (y2:w1.cell? ⟨w.heap.size,2,none⟩=some (.int .i64 0)) (y3:w1.cell? ⟨w.heap.size,3,none⟩=some (.int .i64 0)) (y4:w1.cell? ⟨w.heap.size,4,none⟩=some (.int .i64 0)) (y5:w1.cell? ⟨w.heap.size,5,none⟩=some (.int .i64 0)):∃ G:Nat,Value.pointer (some ⟨w.heap.size,0,none⟩) = .pointer (some ⟨G,0,none⟩)/\Kept w ((((((w1.setCell ⟨w.heap.size,0,none⟩ (.int .i64 (ps.cf:Int))).setCell ⟨w.heap.size,1,none⟩ (.int .i64 (ps.cs:Int))).setCell ⟨w.heap.size,2,none⟩ (.int .i64 (ps.cb:Int))).setCell ⟨w.heap.size,3,none⟩ (.int .i64 (ps.rf:Int))).setCell ⟨w.heap.size,4,none⟩ (.int .i64 (ps.rs:Int))).setCell ⟨w.heap.size,5,none⟩ (.int .i64 (ps.rb:Int)))/\Jj w ((((((w1.setCell ⟨w.heap.size,0,none⟩ (.int .i64 (ps.cf:Int))).setCell ⟨w.heap.size,1,none⟩ (.int .i64 (ps.cs:Int))).setCell ⟨w.heap.size,2,none⟩ (.int .i64 (ps.cb:Int))).setCell ⟨w.heap.size,3,none⟩ (.int .i64 (ps.rf:Int))).setCell ⟨w.heap.size,4,none⟩ (.int .i64 (ps.rs:Int))).setCell ⟨w.heap.size,5,none⟩ (.int .i64 (ps.rb:Int))) ps G:=by
 have oth:∀ (W':World) (a b:Nat) (u:Value),a≠b->(W'.setCell ⟨w.heap.size,a,none⟩ u).cell? ⟨w.heap.size,b,none⟩=W'.cell? ⟨w.heap.size,b,none⟩:=fun W' a b u h=>aa _ _ _ _ _ h
 have hlt:w.heap.size<w1.heap.size:=World.block_lt_of_cell? _ _ y0;refine ⟨w.heap.size,rfl,Below.setCell (Below.setCell (Below.setCell (Below.setCell (Below.setCell (Below.setCell h (Nat.le_refl _) _) (Nat.le_refl _) _) (Nat.le_refl _) _) (Nat.le_refl _) _) (Nat.le_refl _) _) (Nat.le_refl _) _,Nat.le_refl _,by simpa [World.setCell] using hlt,?_,?_,?_,?_,?_,?_⟩
 ·rw[oth _ 5 0 _ (by omega),oth _ 4 0 _ (by omega),oth _ 3 0 _ (by omega),oth _ 2 0 _ (by omega),oth _ 1 0 _ (by omega)];exact aj y0 _
 ·rw[oth _ 5 1 _ (by omega),oth _ 4 1 _ (by omega),oth _ 3 1 _ (by omega),oth _ 2 1 _ (by omega)];exact aj (by rw[oth _ 0 1 _ (by omega)];exact y1) _
 ·rw[oth _ 5 2 _ (by omega),oth _ 4 2 _ (by omega),oth _ 3 2 _ (by omega)];exact aj (by rw[oth _ 1 2 _ (by omega),oth _ 0 2 _ (by omega)];exact y2) _
 ·rw[oth _ 5 3 _ (by omega),oth _ 4 3 _ (by omega)];exact aj (by rw[oth _ 2 3 _ (by omega),oth _ 1 3 _ (by omega),oth _ 0 3 _ (by omega)];exact y3) _
 ·rw[oth _ 5 4 _ (by omega)];exact aj (by rw[oth _ 3 4 _ (by omega),oth _ 2 4 _ (by omega),oth _ 1 4 _ (by omega),oth _ 0 4 _ (by omega)];exact y4) _
 ·exact aj (by rw[oth _ 4 5 _ (by omega),oth _ 3 5 _ (by omega),oth _ 2 5 _ (by omega),oth _ 1 5 _ (by omega),oth _ 0 5 _ (by omega)];exact y5) _
theorem Lp (T j:Nat) (h:T+j<=1000):IntKind.i64.wrap (IntKind.i64.wrap (T:Int)+(j:Int))=((T+j:Nat):Int):=by
 have e:∀ a:Nat,a<=1000->IntKind.i64.wrap (a:Int)=(a:Int):=fun a ha=>by rw[IntKind.wrap_i64];omega
 rw[e T (by omega),show (T:Int)+(j:Int)=((T+j:Nat):Int) from by omega,e _ h]
theorem zeroAt {w w1:World} (h:Kept (w.alloc (Obj.cells #[.int .i64 0,.int .i64 0,.int .i64 0,.int .i64 0,.int .i64 0,.int .i64 0] 180)).drew w1):w1.cell? ⟨w.heap.size,0,none⟩=some (.int .i64 0)/\w1.cell? ⟨w.heap.size,1,none⟩=some (.int .i64 0)/\w1.cell? ⟨w.heap.size,2,none⟩=some (.int .i64 0)/\w1.cell? ⟨w.heap.size,3,none⟩=some (.int .i64 0)/\w1.cell? ⟨w.heap.size,4,none⟩=some (.int .i64 0)/\w1.cell? ⟨w.heap.size,5,none⟩=some (.int .i64 0)/\∀ j,w1.frozen? ⟨w.heap.size,j,none⟩=false:=by
 have hs:w.heap.size<(w.alloc (Obj.cells #[.int .i64 0,.int .i64 0,.int .i64 0,.int .i64 0,.int .i64 0,.int .i64 0] 180)).drew.heap.size:=by show _<(w.alloc _).heap.size;simp
 have e:∀ j,w1.cell? ⟨w.heap.size,j,none⟩=(#[.int .i64 0,.int .i64 0,.int .i64 0,.int .i64 0,.int .i64 0,.int .i64 0]:Array Value)[j]? := fun j=>(h.cell (p:=⟨w.heap.size,j,none⟩) hs).trans (World.cell?_alloc_at _ _ _ _ rfl)
 exact ⟨e 0,e 1,e 2,e 3,e 4,e 5,fun j=>(h.frozen (p:=⟨w.heap.size,j,none⟩) hs).trans (World.frozen?_alloc_at _ _ _ _ rfl)⟩
theorem Ao (b o n:Nat) (c:Nat->Value) (r:Rw) (w:World) (hB:Blk w b n c) (hV:RwV c o r) (hn:o+1549<=n) (hk:uy r) (hg:uz r) (hG:cJ w) (hb:b≠0) :
  Calls Tryz.prog 189 #[.pointer (some ⟨b,o,none⟩)] w fun e w'=>e = .returned (.tuple #[])/\gd b o n c (ch r r.columns) w w':=by
 have k4:=hB.at (i:=o+4) (by omega) hV.hd.L;have k6:=hB.at (i:=o+6) (by omega) hV.pass;have hp0:=hk.pass0;have hp7:=hk.pass7;have eP:r.pass=((r.pass.toNat:Nat):Int):=by omega
 rw[eP] at k6;have FO:Hid (∀ W':World,Kept w W'->Calls Tryz.prog 117 #[.int .i64 (r.hd.L:Int),.int .i64 (r.pass.toNat:Int)] W' fun e w'=>e = .returned (psV r.ps)/\Kept W' w'):=fun W' k=>GK _ _ W' hk.ok.L (by omega) (hG.kept k)
 have HPok:Hid _:=fj r.hd.L r.pass.toNat;have HB:Hid (Blk w b n c):=hB;have HV:Hid (RwV c o r):=hV;have HK:Hid (uy r):=hk;have HGeo:Hid (uz r):=hg;have hbw:=hB.lt;replace eP:Hid _:=eP;generalize hPP:r.pass.toNat=PP at *;replace hPP:Hid _:=hPP;generalize hLL:r.hd.L=LL at *;replace hLL:Hid _:=hLL;obtain ⟨ps,hps⟩:∃ p,p=r.ps:=⟨_,rfl⟩;rw[<- hps] at FO;replace hps:Hid _:=hps;clear hB hV hk hg hG;unfold psV at FO;go_enter Tryz.func189,Tryz.ntmps189;go_wp2_with fail;have HA:Hid (Kept w (w.alloc (Obj.cells #[.int .i64 0,.int .i64 0,.int .i64 0,.int .i64 0,.int .i64 0,.int .i64 0] 180))):=Below.alloc (Below.refl _ _) (Nat.le_refl _) _;have k4':∀ o',(w.alloc o').cell? ⟨b,o+4,none⟩=some (.int .i64 (LL:Int)):=fun o'=>(World.cell?_alloc_lt _ _ _ hbw).trans k4
 have k6':∀ o',(w.alloc o').cell? ⟨b,o+6,none⟩=some (.int .i64 (PP:Int)):=fun o'=>(World.cell?_alloc_lt _ _ _ hbw).trans k6
 go_cut [2] from 9 (fun v W=>∃ G:Nat,v = .pointer (some ⟨G,0,none⟩)/\Kept w W/\Jj w W ps G)
 case first=>
  go_region_with (go_at_call 117;refine (FO.out _ (by first | exact (Kept.refl _).drewN 1 | exact HA.out.drewN 1)).mono ?_;rintro e w1 ⟨rfl,hk1⟩;first | (have yy:=zeroAt hk1;obtain ⟨y0,y1,y2,y3,y4,y5,yf⟩:=yy;have hk2:=Kept.trans (HA.out.drewN 1) hk1) | (have hk2:=Kept.trans ((Kept.refl w).drewN 1) hk1))
  all_goals
   clear k4' k6';go_wp2_with fail;go_meet
   case rel=>
    first
     | exact z9 hk2 y0 y1 y2 y3 y4 y5
     | exact Aa hk2
 case rest=>
  obtain ⟨G,rfl,hkc,hPs⟩:=hcut;clear k4 k6 k4' k6' FO HA;have B1:Hid (Blk wc b n c):=HB.out.kept hkc;have HK1:Hid (Kept w wc):=hkc;have HPs:Hid (Jj w wc ps G):=hPs;obtain ⟨g0,g1,c0,c1,c2,c3,c4,c5⟩:=hPs;have k7:=B1.out.at (i:=o+7) (by omega) HV.out.line;have hGb:G≠b:=by omega
  obtain ⟨q1,q2,q3,q4,q5,q6,q7,q8⟩:=HPok.out;have hln:=HK.out.line;have hpsE:ps=aK LL PP:=by rw[hps.out];unfold Rw.ps;rw[hLL.out,hPP.out]
  rw[<- hpsE] at q1 q2 q3 q4 q5 q6 q7 q8;replace hpsE:Hid _:=hpsE;have FPr:Hid (∀ (W':World),Calls Tryz.prog 192 #[.agg #[.int .i64 (ps.rf:Int),.int .i64 (ps.rs:Int),.int .i64 (ps.rb:Int)],.int .i64 (r.line:Int)] W' fun e w'=>e = .returned (.int .i64 (r.py:Int))/\Kept W' w'):=fun W'=>by
   have:=Di ps.rf ps.rs ps.rb r.line W' (by omega) (by omega) (by omega)
   rw[show r.py=ps.rf+r.line*ps.rs from by rw[hps.out];rfl];exact this
  have FPc:Hid (∀ (W':World) (i:Nat),i<=1000->Calls Tryz.prog 192 #[.agg #[.int .i64 (ps.cf:Int),.int .i64 (ps.cs:Int),.int .i64 (ps.cb:Int)],.int .i64 (i:Int)] W' fun e w'=>e = .returned (.int .i64 (r.px i:Int))/\Kept W' w'):=fun W' i hi=>by
   have:=Di ps.cf ps.cs ps.cb i W' (by omega) (by omega) hi
   rw[show r.px i=ps.cf+i*ps.cs from by rw[hps.out];rfl];exact this
  clear hkc;go_wp2_with fail;go_region_held3 (fun W=>W.cell? ⟨G,3,none⟩=some (.int .i64 (ps.rf:Int))/\W.cell? ⟨G,4,none⟩=some (.int .i64 (ps.rs:Int))/\W.cell? ⟨G,5,none⟩=some (.int .i64 (ps.rb:Int))/\W.cell? ⟨b,o+7,none⟩=some (.int .i64 (r.line:Int))) (first | exact ⟨c3,c4,c5,k7⟩ | exact hS2.out | go_keep) ((go_at_call 192;refine (FPr.out _).mono ?_;rintro e w2 ⟨rfl,hk2⟩;have hk2':Kept wc w2:=((Kept.refl _).drewN 1).trans hk2;have hS2:Hid (w2.cell? ⟨G,3,none⟩=some (.int .i64 (ps.rf:Int))/\w2.cell? ⟨G,4,none⟩=some (.int .i64 (ps.rs:Int))/\w2.cell? ⟨G,5,none⟩=some (.int .i64 (ps.rb:Int))/\w2.cell? ⟨b,o+7,none⟩=some (.int .i64 (r.line:Int))):=⟨(hk2'.cell (p:=⟨G,3,none⟩) g1).trans c3,(hk2'.cell (p:=⟨G,4,none⟩) g1).trans c4,(hk2'.cell (p:=⟨G,5,none⟩) g1).trans c5,(hk2'.cell (p:=⟨b,o+7,none⟩) B1.out.lt).trans k7⟩))
  have B2:Hid (Blk w2 b n c):=B1.out.kept hk2';have HK2:Hid (Kept w w2):=HK1.out.trans hk2';have HC2:Hid (w2.cell? ⟨G,0,none⟩=some (.int .i64 (ps.cf:Int))/\w2.cell? ⟨G,1,none⟩=some (.int .i64 (ps.cs:Int))/\w2.cell? ⟨G,2,none⟩=some (.int .i64 (ps.cb:Int))):=⟨(hk2'.cell (p:=⟨G,0,none⟩) g1).trans c0,(hk2'.cell (p:=⟨G,1,none⟩) g1).trans c1,(hk2'.cell (p:=⟨G,2,none⟩) g1).trans c2⟩;have hG2:G<w2.heap.size:=Nat.lt_of_lt_of_le g1 hk2'.size;clear hS2 hk2 hk2' c0 c1 c2 c3 c4 c5 k7 HPs B1 HK1 HB;have hY16:r.py<16:=HGeo.out.py;clear FPr;have k3:=B2.out.at (i:=o+3) (by omega) HV.out.hd.K;have hK6:=HK.out.ok.K;go_wp2_with fail;refine (rP r.hd.K _ (by omega)).mono ?_;rintro e w3 ⟨rfl,hw3⟩;subst w3;have hch:=ob r.hd.K;obtain ⟨C,hC⟩:∃ C,C=chn r.hd.K:=⟨_,rfl⟩;rw[<- hC] at hch ⊢;replace hC:Hid _:=hC;have FI:Hid (∀ (W':World) (x:Nat),x<16->Calls Tryz.prog 113 #[.int .i64 (x:Int),.int .i64 (r.py:Int)] W' fun e w'=>e = .returned (.tuple #[.int .i64 ((r.py*16+x:Nat):Int),.bool true])/\w'=W'):=fun W' x hx=>by
   have:=Kg x r.py W' (by omega) (by omega)
   rw[if_pos ⟨hx,hY16⟩,decide_eq_true (⟨hx,hY16⟩:x<16/\r.py<16)] at this;exact this
  have hcol:=HK.out.col;go_wp2_with fail;go_loopg [5] r.columns (fun k v W=>∃ i:Nat,∃ d:Nat->Value,v = .int .i64 (i:Int)/\i<=r.columns/\k=r.columns - i/\Blk W b n d/\RwV d o (ch r i)/\FrC b o (o+1549) c d/\Fr1 b w2 W)
  case atStart=>exact ⟨0,c,rfl,by omega,by omega,B2.out,HV.out,FrC.refl _ _ _ _,Fr.refl _ _⟩
  case round=>
   obtain ⟨i,d,rfl,hi1,hgk,hBr,hVr,hFr,hfr⟩:=hrel;clear k3;obtain ⟨e1,e2,e3,e4,e5,e6⟩:=iG r i;have k8:=hBr.at (i:=o+8) (by omega) hVr.columns;rw[e5] at k8;have G0:=(hfr.cell (k:=0) hG2 hGb).trans HC2.out.1;have G1:=(hfr.cell (k:=1) hG2 hGb).trans HC2.out.2.1;have G2:=(hfr.cell (k:=2) hG2 hGb).trans HC2.out.2.2;have HBr:Hid (Blk wr b n d):=hBr;have HVr:Hid (RwV d o (ch r i)):=hVr;have HFr:Hid (FrC b o (o+1549) c d):=hFr;have Hfr:Hid (Fr1 b w2 wr):=hfr;clear hBr hVr hFr hfr e1 e2 e3 e4 e5 e6;replace hgk:Hid _:=hgk;by_cases hlt:i<r.columns
   ·have l1:(i:Int)<(r.columns:Int):=by omega
    have hx16:=HGeo.out.px i hlt;go_wp2_with fail;refine (FPc.out _ i (by omega)).mono ?_;rintro e w4 ⟨rfl,hk4⟩;have B4:Hid (Blk w4 b n d):=HBr.out.kept hk4;have H4:Hid (Fr1 b w2 w4):=Hfr.out.kept hk4;clear hk4 HBr Hfr G0 G1 G2 k8;go_wp2_with fail;refine (FI.out _ (r.px i) hx16).mono ?_;rintro e w5 ⟨rfl,hw5⟩;subst w5;obtain ⟨A,hA⟩:∃ A,A=r.py*16+r.px i:=⟨_,rfl⟩;rw[<- hA];have HA1:Hid (A=r.pt i):=hA;have hA16:A<256:=by omega
    clear hA;have hfit:(i+1)*C*r.hd.D<=1024:=by
     have h1:=HK.out.fit;unfold bG at h1;rw[<- hC.out,<- Nat.mul_assoc] at h1;exact Nat.le_trans (Nat.mul_le_mul_right _ (Nat.mul_le_mul_right _ hlt)) h1
    obtain ⟨T,hT⟩:∃ T,T=i*C:=⟨_,rfl⟩;have eT:(i:Int)*(C:Int)=(T:Int):=by rw[hT];simp
    have hT64:T<=64:=by rw[hT];exact Nat.mul_le_mul (show i<=16 by omega) hch
    have HT:Hid (T=i*C):=hT;have FSm:Hid (∀ (W':World) (d':Nat->Value) (j:Nat),j<C->Blk W' b n d'->RwV d' o (qv (ch r i) A (fun k=>dh r (T+k)) j)->Calls Tryz.prog 191 #[.pointer (some ⟨b,o,none⟩),.int .i64 ((T+j:Nat):Int)] W' fun e w'=>e = .returned (.int .u16 (dh r (T+j):Int))/\∃ q,w'=W'.drewN q):=fun W' d' j hj hB' hV'=>by
     have hs:=wj (iG r i) A (fun k=>dh r (T+k)) j;have hd:(qv (ch r i) A (fun k=>dh r (T+k)) j).hd.D=r.hd.D:=by rw[hs.1]
     have hfj:(T+j+1)*r.hd.D<=1024:=Nat.le_trans (Nat.mul_le_mul_right _ (by rw[hT,Nat.add_mul,Nat.one_mul];omega)) hfit;rw[Nat.add_mul,Nat.one_mul] at hfj
     have:=zV b o n (T+j) d' _ W' hB' hV' hn (hs.ok HK.out.ok) (by rw[hd];exact HK.out.dd) (by rw[hd];exact hfj) (by omega)
     rw[hs.smp] at this;exact this
    have HLT:Hid (∀ j,dh r j<65536):=Db HK.out.ok;clear hfit hT;go_wp2_with fail;go_loopg [8] C (fun k v W=>∃ j:Nat,∃ d':Nat->Value,v = .int .i64 (j:Int)/\j<=C/\k=C - j/\Blk W b n d'/\RwV d' o (qv (ch r i) A (fun k=>dh r (T+k)) j)/\FrC b o (o+1549) c d'/\Fr1 b w2 W)
    case atStart=>exact ⟨0,d,rfl,by omega,by omega,B4.out,HVr.out,HFr.out,H4.out⟩
    case round=>
     obtain ⟨j,d',rfl,hj1,hgk2,hBr,hVr,hFr,hfr⟩:=hrel;have B5:Hid (Blk wr b n d'):=hBr;have V5:Hid (RwV d' o (qv (ch r i) A (fun k=>dh r (T+k)) j)):=hVr;have F5:Hid (FrC b o (o+1549) c d'):=hFr;have H5:Hid (Fr1 b w2 wr):=hfr;clear hBr hVr hFr hfr B4 HVr HFr H4;replace hgk2:Hid _:=hgk2;by_cases hlt2:j<C
     ·have l2:(j:Int)<(C:Int):=by omega
      have l3:(j:Int)<4:=by omega
      have j0:(0:Int)<=(j:Int):=by omega
      have a0:(0:Int)<=(A:Int):=by omega
      have a1:(A:Int)<256:=by omega
      have FS1:Hid (∀ W',(∃ q,W'=wr.drewN q)->Calls Tryz.prog 191 #[.pointer (some ⟨b,o,none⟩),.int .i64 ((T+j:Nat):Int)] W' fun e w'=>e = .returned (.int .u16 (dh r (T+j):Int))/\∃ q',w'=wr.drewN q'):=fun W' ⟨q,hq⟩=>(FSm.out W' d' j hlt2 (by rw[hq];exact B5.out.kept ((Kept.refl _).drewN q)) V5.out).mono (fun e w' ⟨h1,m,h2⟩=>⟨h1,q+m,by rw[h2,hq,World.drewN_drewN]⟩)
      have eTj:IntKind.i64.wrap (IntKind.i64.wrap (T:Int)+(j:Int))=((T+j:Nat):Int):=Lp T j (by omega);replace eTj:Hid _:=eTj;have ks:=B5.out.at (i:=o+525+(4*A+j)) (by omega) (V5.out.smp (4*A+j) (by omega));have zs:=B5.out.fz (o+525+(4*A+j));have eAd:o+525+(4*A+j)=o+525+A*4+j:=by omega
      rw[eAd] at ks zs;obtain ⟨OV,ks⟩:∃ OV,wr.cell? ⟨b,o+525+A*4+j,none⟩=some OV:=⟨_,ks⟩;have hsl:=HLT.out (T+j);generalize hSS:dh r (T+j)=SS at *;replace hSS:Hid _:=hSS;go_upto_block 3 with fail
      go_cut [] from 51 to 73 (fun W=>∃ q,W=(wr.drewN q).setCell ⟨b,o+525+A*4+j,none⟩ (.int .u16 (SS:Int)))
      case first=>
       go_wp2_with fail;go_region_with (go_at_call 191;rw[eTj.out];refine (FS1.out _ ⟨1,rfl⟩).mono ?_;rintro e w6 ⟨rfl,q',hq⟩;have ks6:w6.cell? ⟨b,o+525+A*4+j,none⟩=some OV:=(by rw[hq];exact ks);have zs6:w6.frozen? ⟨b,o+525+A*4+j,none⟩=false:=(by rw[hq];exact zs);replace hq:Hid _:=hq)
       all_goals
        go_wp2_with fail;go_meet
        case rel=>exact ⟨q',by rw[<- hq.out]⟩
      case rest=>
       obtain ⟨q,hq⟩:=hcut;have B6:Blk wc b n (upd d' (o+525+(4*A+j)) (.int .u16 (SS:Int))):=by
        rw[hq,<- eAd];exact (B5.out.kept ((Kept.refl _).drewN q)).set (by omega) _
       have V6:RwV (upd d' (o+525+(4*A+j)) (.int .u16 (SS:Int))) o (qv (ch r i) A (fun k=>dh r (T+k)) (j+1)):=by
        have:=V5.out.set_smp (4*A+j) SS (by omega)
        rw[<- hSS.out] at this ⊢;exact this
       have F6:FrC b o (o+1549) c (upd d' (o+525+(4*A+j)) (.int .u16 (SS:Int))):=F5.out.trans (FrC.upd _ (by omega) (by omega));have H6:Fr1 b w2 wc:=by
        rw[hq];exact Fr1.set (Fr1.drewN H5.out q) _ _
       replace B6:Hid _:=B6;replace V6:Hid _:=V6;replace F6:Hid _:=F6;replace H6:Hid _:=H6;clear hq ks zs;go_wp2_with fail;go_roundg (C - (j+1))
       case measure=>rw[hgk2.out];omega
       case rel=>exact ⟨j+1,_,by go_num,by omega,rfl,B6.out,V6.out,F6.out,H6.out⟩
     ·have l2:¬ (j:Int)<(C:Int):=by omega
      have hj:Hid (j=C):=by show j=C;omega
      have kn:=B5.out.at (i:=o+269+A) (by omega) (V5.out.known A (by omega));have zn:=B5.out.fz (o+269+A);have a0:(0:Int)<=(A:Int):=by omega
      have a1:(A:Int)<256:=by omega
      go_wp2_with fail;go_roundg (r.columns - (i+1))
      case measure=>rw[hgk.out];omega
      case rel=>
       refine ⟨i+1,upd d' (o+269+A) (.bool true),by go_num,by omega,rfl,B5.out.set (by omega) _,?_,F5.out.trans (FrC.upd _ (by omega) (by omega)),Fr1.set H5.out _ _⟩
       have:=V5.out.set_known A true (by omega)
       rw[hj.out] at this;have e:ch r (i+1)={ qv (ch r i) A (fun k=>dh r (T+k)) C with known:=upd (qv (ch r i) A (fun k=>dh r (T+k)) C).known A true }:=by
        rw[HA1.out,HT.out,hC.out];rfl
       rw[e];exact this
   ·have l1:¬ (i:Int)<(r.columns:Int):=by omega
    have hi:i=r.columns:=by omega
    go_wp2_with fail;go_end0
    exact ⟨rfl,d,HBr.out,by rw[<- hi];exact HVr.out,HFr.out,Fr.trans' (Fr.of_kept HK2.out) Hfr.out (fun k _ q=>q)⟩
def Rw.takeF (r:Rw) (x:Nat):Rw × Nat:=if 4<x then (r,15) else ({ r with filter:=x },0)
theorem gd.refl {b o n:Nat} {c:Nat->Value} {r:Rw} {w:World} (hB:Blk w b n c) (hV:RwV c o r):gd b o n c r w w:=⟨c,hB,hV,FrC.refl _ _ _ _,Fr.refl _ _⟩
theorem xQ (b o n x:Nat) (c:Nat->Value) (r:Rw) (w:World) (hB:Blk w b n c) (hV:RwV c o r) (hn:o+1549<=n) (hx:x<256) :
  Calls Tryz.prog 180 #[.pointer (some ⟨b,o,none⟩),.int .u8 (x:Int)] w fun e w'=>e = .returned (.int .i64 ((r.takeF x).2:Int))/\gd b o n c (r.takeF x).1 w w':=by
 have k:=hB.at (i:=o+12) (by omega) hV.filter;have z:=hB.fz (o+12);have HB:Hid (Blk w b n c):=hB;have HV:Hid (RwV c o r):=hV;clear hB hV;by_cases h:4<x
 ·have h':(4:Int)<(x:Int):=by omega
  have e:r.takeF x=(r,15):=by unfold Rw.takeF;rw[if_pos h]
  rw[e];clear e;go_enter Tryz.func180,Tryz.ntmps180;go_wp2;go_ret;exact ⟨rfl,gd.refl HB.out HV.out⟩
 ·have h':¬ (4:Int)<(x:Int):=by omega
  have e:r.takeF x=({ r with filter:=x },0):=by unfold Rw.takeF;rw[if_neg h]
  rw[e];clear e;go_enter Tryz.func180,Tryz.ntmps180;go_wp2;go_ret;exact ⟨rfl,_,HB.out.set (by omega) _,HV.out.set_filter x,FrC.upd _ (by omega) (by omega),Fr1.set (Fr.refl _ _) _ _⟩
def ai (b o n:Nat) (c:Nat->Value) (s':St) (w w':World):Prop:=∃ d,Blk w' b n d/\StV d o s'/\FrC b o (o+3351) c d/\Fr1 b w w'
def St.enter (s:St) (p k:Nat):St:={ s with part:=p,wanted:=k,got:=0,number:=0,path:=⟨0,0,0⟩ }
theorem aX (b o n p k:Nat) (c:Nat->Value) (s:St) (w:World) (hB:Blk w b n c) (hV:StV c o s) (hn:o+3351<=n) :
  Calls Tryz.prog 138 #[.pointer (some ⟨b,o,none⟩),.int .i64 (p:Int),.int .u64 (k:Int)] w fun e w'=>e = .returned (.tuple #[])/\ai b o n c (s.enter p k) w w':=by
 have k0:=hB.at (i:=o) (by omega) hV.part;have k1:=hB.at (i:=o+1) (by omega) hV.number;have k2:=hB.at (i:=o+2) (by omega) hV.got;have k3:=hB.at (i:=o+3) (by omega) hV.wanted;have k4:=hB.at (i:=o+4) (by omega) hV.path.bits;have k5:=hB.at (i:=o+4+1) (by omega) hV.path.offset;have k6:=hB.at (i:=o+4+2) (by omega) hV.path.ahead;have z:=hB.fz;have HB:Hid (Blk w b n c):=hB;have HV:Hid (StV c o s):=hV;clear hB hV;go_enter Tryz.func138,Tryz.ntmps138;go_wp2;go_end0
 have B:=((((((HB.out.set (k:=o) (by omega) (.int .i64 (p:Int))).set (k:=o+3) (by omega) (.int .u64 (k:Int))).set (k:=o+2) (by omega) (.int .u64 0)).set (k:=o+1) (by omega) (.int .u32 0)).set (k:=o+4) (by omega) (.int .i64 0)).set (k:=o+4+1) (by omega) (.int .i64 0)).set (k:=o+4+2) (by omega) (.int .i64 0);have V1:=(((HV.out.set_part p).set_wanted k).set_got 0).set_number 0;have P1:PtV _ (o+4) ⟨0,0,0⟩:=((V1.path.set_bits 0).set_offset 0).set_ahead 0;refine ⟨rfl,_,B,V1.set_path ⟨0,0,0⟩ P1 (fun i hi => ?_),?_,?_⟩
 ·rw[upd_ne _ _ _ (by omega),upd_ne _ _ _ (by omega),upd_ne _ _ _ (by omega)]
  rfl
 ·exact ⟨fun i hi=>by rw[upd_ne _ _ _ (by omega),upd_ne _ _ _ (by omega),upd_ne _ _ _ (by omega),upd_ne _ _ _ (by omega),upd_ne _ _ _ (by omega),upd_ne _ _ _ (by omega),upd_ne _ _ _ (by omega)]⟩
 ·exact Fr1.set (Fr1.set (Fr1.set (Fr1.set (Fr1.set (Fr1.set (Fr1.set (Fr.refl _ _) _ _) _ _) _ _) _ _) _ _) _ _) _ _
theorem ub (b o n:Nat) (c:Nat->Value) (s:St) (w:World) (hB:Blk w b n c) (hV:StV c o s) (hn:o+3351<=n) :
  Calls Tryz.prog 84 #[.pointer (some ⟨b,o,none⟩)] w fun e w'=>e = .returned (.bool (decide (s.part=10)))/\w'=w:=by
 have k0:=hB.at (i:=o) (by omega) hV.part;clear hB hV;go_enter Tryz.func84,Tryz.ntmps84;go_wp2;go_ret;exact ⟨bj (by rw[Bool.eq_iff_iff,beq_iff_eq,decide_eq_true_iff];omega),rfl⟩
def sj (n:Nat):Bool:=decide (n % 256 % 16=8/\n % 256 / 16<=7/\(256*(n % 256)+n / 256) % 31=0/\n / 256 / 32 % 2=0)
def St.takeHead (s:St) (n:Nat):St × Nat:=if sj n then (({ s with window:=256*2^(n % 256 / 16) }:St).enter 1 3,0) else (s,10)
theorem pX (n k:Nat) (h:n<4294967296) (hk:k<=31):bits .and .u32 (n:Int) ((2^k - 1:Nat):Int)=((n % 2^k:Nat):Int):=by
 have hp:2^k<=2^31:=Nat.pow_le_pow_right (n:=2) (by omega) hk;show IntKind.u32.wrap ((BitVec.ofInt 32 (n:Int) &&& BitVec.ofInt 32 ((2^k - 1:Nat):Int)).toNat:Int)=_
 have e1:(BitVec.ofInt 32 (n:Int)).toNat=n:=by rw[BitVec.ofInt_natCast,BitVec.toNat_ofNat];exact Nat.mod_eq_of_lt (by omega)
 have e2:(BitVec.ofInt 32 ((2^k - 1:Nat):Int)).toNat=2^k - 1:=by rw[BitVec.ofInt_natCast,BitVec.toNat_ofNat];exact Nat.mod_eq_of_lt (by omega)
 have:n % 2^k<=n:=Nat.mod_le _ _
 rw[BitVec.toNat_and,e1,e2,Nat.and_two_pow_sub_one_eq_mod,IntKind.wrap_u32];omega
theorem zH (n:Nat) (h:n<4294967296):bits .and .u32 (n:Int) 255=((n % 256:Nat):Int):=pX n 8 h (by omega)
theorem rL (n:Nat) (h:n<4294967296):bits .and .u32 (n:Int) 1=((n % 2:Nat):Int):=pX n 1 h (by omega)
theorem so (n:Nat) (h:n<4294967296):bits .and .u32 (n:Int) 65535=((n % 65536:Nat):Int):=pX n 16 h (by omega)
theorem BW (n:Nat) (h:n<256):n &&& 32=n / 32 % 2*32:=by
 have h1:(n &&& 32) % 32=0:=by
  have:(n &&& 32) % 2^5=(n % 2^5) &&& (32 % 2^5):=Nat.and_mod_two_pow
  rw[show (2^5:Nat)=32 from rfl] at this;rw[this];simp
 have h2:(n &&& 32) / 32=n / 32 % 2:=by
  have:(n &&& 32) / 2^5=(n / 2^5) &&& (32 / 2^5):=Nat.and_div_two_pow
  rw[show (2^5:Nat)=32 from rfl] at this;rw[this];exact nat_mask1 _
 omega
theorem Bb (n:Nat) (h:n<256):bits .and .u32 (n:Int) 32=((n / 32 % 2*32:Nat):Int):=by
 show IntKind.u32.wrap ((BitVec.ofInt 32 (n:Int) &&& BitVec.ofInt 32 32).toNat:Int)=_
 have e1:(BitVec.ofInt 32 (n:Int)).toNat=n:=by rw[BitVec.ofInt_natCast,BitVec.toNat_ofNat];exact Nat.mod_eq_of_lt (by omega)
 have e2:(BitVec.ofInt 32 32).toNat=32:=rfl;rw[BitVec.toNat_and,e1,e2,BW n h,IntKind.wrap_u32];omega
theorem Bp (b o n v:Nat) (c:Nat->Value) (s:St) (w:World) (hB:Blk w b n c) (hV:StV c o s) (hn:o+3351<=n) (hv:v<65536) :
  Calls Tryz.prog 159 #[.pointer (some ⟨b,o,none⟩),.int .u32 (v:Int)] w fun e w'=>e = .returned (.int .i64 ((s.takeHead v).2:Int))/\ai b o n c (s.takeHead v).1 w w':=by
 have ea:=zH v (by omega);have k8:=hB.at (i:=o+8) (by omega) hV.window;have z8:=hB.fz (o+8);have HB:Hid (Blk w b n c):=hB;have HV:Hid (StV c o s):=hV;clear hB hV;obtain ⟨C,hC⟩:∃ C,C=v % 256:=⟨_,rfl⟩;obtain ⟨F,hF⟩:∃ F,F=v / 256:=⟨_,rfl⟩;have hC2:C<256:=by omega
 have hF2:F<256:=by omega
 have eF:(v:Int) / 256=(F:Int):=by omega
 have ef:=Bb F hF2;rw[<- hC] at ea;have HZ:Hid (sj v=decide (C % 16=8/\C / 16<=7/\(256*C+F) % 31=0/\F / 32 % 2=0)):=by
  show sj v=decide (C % 16=8/\C / 16<=7/\(256*C+F) % 31=0/\F / 32 % 2=0)
  unfold sj;rw[hC,hF]
 obtain ⟨E,hE⟩:∃ E,E=F / 32 % 2*32:=⟨_,rfl⟩;rw[<- hE] at ef;have hE1:E=0\/E=32:=by omega
 have HE:Hid (E=0 ↔ F / 32 % 2=0):=by show E=0 ↔ F / 32 % 2=0;omega
 have HS:Hid (s.takeHead v=if sj v then (({ s with window:=256*2^(C / 16) }:St).enter 1 3,0) else (s,10)):=by
  show s.takeHead v=_
  unfold St.takeHead;rw[hC]
 replace hC:Hid _:=hC;replace hF:Hid _:=hF;replace hE:Hid _:=hE;by_cases h:C % 16=8/\C / 16<=7/\(256*C+F) % 31=0/\E=0
 ·obtain ⟨h1,h2,h3,h4⟩:=h
  have h1':((C:Int) % 16 != 8)=false:=by rw[bne_eq_false_iff_eq];omega
  have h2':¬ (7:Int)<(C:Int) / 16:=by omega
  have h3':((256*(C:Int)+(F:Int)) % 31 != 0)=false:=by rw[bne_eq_false_iff_eq];omega
  subst h4;have e0:s.takeHead v=(({ s with window:=256*2^(C / 16) }:St).enter 1 3,0):=by rw[HS.out,HZ.out,decide_eq_true ⟨h1,h2,h3,HE.out.1 rfl⟩];rfl
  rw[e0];clear e0 HE HS HZ hE1;have hp:2^(C / 16)<=2^7:=Nat.pow_le_pow_right (by omega) h2;obtain ⟨M,hM⟩:∃ M,M=C / 16:=⟨_,rfl⟩;have eM:(C:Int) / 16=(M:Int):=by omega
  rw[<- hM] at hp h2 ⊢;clear hM;go_enter Tryz.func159,Tryz.ntmps159;go_wp2_with fail;have eW:wrap64 (256*2^M)=((256*2^M:Nat):Int):=by
   have e0:(256*2^M:Int)=((256*2^M:Nat):Int):=by simp
   rw[e0];unfold wrap64;omega
  rw[eW];refine (aX b o n 1 3 _ { s with window:=256*2^M } _ (HB.out.set (by omega) _) (HV.out.set_window _) hn).mono ?_;rintro e w1 ⟨rfl,d,h1,h2,h3,h4⟩;go_wp2_with fail;go_ret;exact ⟨rfl,d,h1,h2,(FrC.upd _ (by omega) (by omega)).trans h3,(Fr1.set (Fr.refl _ _) _ _).trans h4⟩
 ·have e0:s.takeHead v=(s,10):=by
   rw[HS.out,HZ.out,decide_eq_false (fun q=>h ⟨q.1,q.2.1,q.2.2.1,HE.out.2 q.2.2.2⟩)];rfl
  rw[e0];clear e0 HE HS HZ;by_cases h1:C % 16=8
  ·have h1':((C:Int) % 16 != 8)=false:=by rw[bne_eq_false_iff_eq];omega
   by_cases h2:C / 16<=7
   ·have h2':¬ (7:Int)<(C:Int) / 16:=by omega
    by_cases h3:(256*C+F) % 31=0
    ·have h3':((256*(C:Int)+(F:Int)) % 31 != 0)=false:=by rw[bne_eq_false_iff_eq];omega
     have hE2:E=32:=by
      rcases hE1 with q | q
      ·exact absurd ⟨h1,h2,h3,q⟩ h
      ·exact q
     subst hE2;clear h hE1;go_enter Tryz.func159,Tryz.ntmps159;go_wp2;go_ret;exact ⟨rfl,c,HB.out,HV.out,FrC.refl _ _ _ _,Fr.refl _ _⟩
    ·have h3':((256*(C:Int)+(F:Int)) % 31 != 0)=true:=by rw[bne_iff_ne];omega
     clear h hE1;go_enter Tryz.func159,Tryz.ntmps159;go_wp2
     all_goals
      go_ret;exact ⟨rfl,c,HB.out,HV.out,FrC.refl _ _ _ _,Fr.refl _ _⟩
   ·have h2':(7:Int)<(C:Int) / 16:=by omega
    clear h hE1;go_enter Tryz.func159,Tryz.ntmps159;go_wp2
    all_goals
     go_ret;exact ⟨rfl,c,HB.out,HV.out,FrC.refl _ _ _ _,Fr.refl _ _⟩
  ·have h1':((C:Int) % 16 != 8)=true:=by rw[bne_iff_ne];omega
   clear h hE1;go_enter Tryz.func159,Tryz.ntmps159;go_wp2
   all_goals
    go_ret;exact ⟨rfl,c,HB.out,HV.out,FrC.refl _ _ _ _,Fr.refl _ _⟩
def updL (c:Nat->Value) (k m:Nat) (f:Nat->Value):Nat->Value:=fun i=>if k<=i/\i<k+m then f (i - k) else c i
theorem ff {c:Nat->Value} {k m:Nat} {f:Nat->Value} {j:Nat} (h:j<m):updL c k m f (k+j)=f j:=by
 unfold updL;rw[if_pos ⟨by omega,by omega⟩,show k+j - k=j from by omega]
theorem dw {c:Nat->Value} {k m:Nat} {f:Nat->Value} {i:Nat} (h:¬ (k<=i/\i<k+m)):updL c k m f i=c i:=if_neg h
theorem aU {P:Program} {W:World} {b o:Nat} {cs:List Value} (h:W.there b o cs.length) (h1:∀ v ∈ cs,v.oneCell'=true):(storeCells ⟨b,o,none⟩ cs).run P W = .ok () (W.setCells b o cs):=by
 have:=run_storeCells_cells (P:=P) b o cs 0 W (fun j hj=>by rw[Nat.add_zero];exact (h j hj).1) (fun j hj=>by rw[Nat.add_zero];exact (h j hj).2) h1
 rw[Nat.add_zero] at this;exact this
theorem Blk.there {w:World} {b n:Nat} {c:Nat->Value} (h:Blk w b n c) {k m:Nat} (hk:k+m<=n):w.there b k m:=fun j hj=>⟨by rw[h.cell (k+j) (by omega)];rfl,h.fz _⟩
theorem Blk.range {w:World} {b n:Nat} {c:Nat->Value} (h:Blk w b n c) {k m:Nat} (hk:k+m<=n):w.rangeAt b k ((List.range m).map (fun j=>c (k+j))):=fun j v hv=>by
 rw[List.getElem?_map] at hv;by_cases hj:j<m
 ·rw[List.getElem?_range hj] at hv
  injection hv with hv
  rw[h.cell (k+j) (by omega),<- hv]
 ·rw[List.getElem?_eq_none (by rw[List.length_range];omega)] at hv
  exact absurd hv (by simp)
theorem size_setCells (w:World) (b:Nat):∀ (cs:List Value) (k:Nat) (w:World),(w.setCells b k cs).heap.size=w.heap.size
 | [],_,_=>rfl
 | v::r,k,w=>(size_setCells w b r (k+1) _).trans (by simp [World.setCell])
theorem Blk.sets {w:World} {b n:Nat} {c:Nat->Value} (h:Blk w b n c) {k m:Nat} (hk:k+m<=n) {cs:List Value} (f:Nat->Value) (hl:cs.length=m) (hf:∀ j,j<m->cs[j]? = some (f j)):Blk (w.setCells b k cs) b n (updL c k m f):=by
 refine ⟨fun i hi => ?_,fun i=>by rw[World.frozen?_setCells];exact h.fz i,by rw[size_setCells w];exact h.lt⟩;by_cases q:k<=i/\i<k+m
 ·obtain ⟨j,rfl⟩:∃ j,i=k+j:=⟨i - k,by omega⟩
  rw[ff (by omega)];exact World.rangeAt_setCells_same w b k cs (h.there (by omega)) j _ (hf j (by omega))
 ·rw[dw q,<- h.cell i hi]
  exact World.cell?_setCells_out b cs k w ⟨b,i,none⟩ (fun _ _=>by show i<k\/k+cs.length<=i;omega)
theorem Fr1.sets {b:Nat} {x:World}:∀ (cs:List Value) (k:Nat) {y:World},Fr1 b x y->Fr1 b x (y.setCells b k cs)
 | [],_,_,h=>h
 | v::r,k,_,h=>Fr1.sets r (k+1) (Fr1.set h k v)
theorem FrC.updL {b lo hi k m:Nat} {c:Nat->Value} {f:Nat->Value} (h1:lo<=k) (h2:k+m<=hi):FrC b lo hi c (updL c k m f):=⟨fun i q=>dw (fun e=>q ⟨by omega,by omega⟩)⟩
theorem RwV.lay_above {c:Nat->Value} {o:Nat} {r:Rw} (h:RwV c o r) (f:Nat->Nat):RwV (updL c (o+141) 128 (fun j => .int .u8 (f j:Int))) o { r with above:=f } :=
 h.all_above f (fun i hi=>ff hi) (fun i hi=>dw (fun q=>hi ⟨q.1,by omega⟩))
