import Derived.Test.YtmbmecfodigciaaGreatDoorMo24
import Derived.Test.YtmbmecfodigciaaGreatDoorMo30
import Derived.Test.YtmbmecfodigciaaGreatDoorMo23
import Derived.Test.YtmbmecfodigciaaGreatDoorMo22
import Derived.Deep.RegionHeld3
set_option maxRecDepth 100000
set_option maxHeartbeats 6400000
namespace Go.Proofs.YtmbmecfodigciaaGreatDoor
open Go.RowKit Px
set_option linter.unusedSimpArgs false
set_option linter.unusedVariables false
theorem getD_or {l:List Int} {P:Int→Prop} (h:∀ y ∈ l,P y) (h0:P 0) (i:Nat):P (l.getD i 0):=by
 by_cases hi:i<l.length
 ·exact h _ (getD_mem hi)
 ·rw[List.getD_eq_getElem?_getD,List.getElem?_eq_none (by omega)];exact h0
theorem per_of {D:Nat} (hd:D=1∨D=2∨D=4∨D=8):∃ per,D=1∧per=8∨D=2∧per=4∨D=4∧per=2∨D=8∧per=1:=by
 rcases hd with rfl | rfl | rfl | rfl
 ·exact ⟨8,by omega⟩
 ·exact ⟨4,by omega⟩
 ·exact ⟨2,by omega⟩
 ·exact ⟨1,by omega⟩
def glL (pl:List Int) (pos:Nat→Nat) (C n:Nat):List Int:=(List.range n).map (fun j=>pl.getD (pos (j / C)+j % C) 0)
theorem glL_get (pl:List Int) (pos:Nat→Nat) (C n j:Nat) (h:j<n):(glL pl pos C n).getD j 0=pl.getD (pos (j / C)+j % C) 0:=by
 unfold glL
 rw[List.getD_eq_getElem?_getD,List.getElem?_map,List.getElem?_range h];rfl
theorem layK_congr (D:Nat) (pl ql:List Int) (A A' B:Nat) (row:Nat→Nat):∀ k,(∀ j,j<k→pl.getD (A+j) 0=ql.getD (A'+j) 0)→layKB D pl A B row k=layKB D ql A' B row k
 | 0,_=>rfl
 | k+1,h=>by
  show laySB D (layKB D pl A B row k) (B+k) (pl.getD (A+k) 0).toNat=laySB D (layKB D ql A' B row k) (B+k) (ql.getD (A'+k) 0).toNat
  rw[layK_congr D pl ql A A' B row k (fun j hj=>h j (by omega)),h k (by omega)]
theorem layC_gather (D C n:Nat) (pl:List Int) (pos:Nat→Nat) (hC:1≤C):∀ c,c*C≤n→layCB D C pl pos c=layKB D (glL pl pos C n) 0 0 (fun _=>0) (c*C)
 | 0,_=>by rw[Nat.zero_mul];rfl
 | c+1,h=>by
  rw[Nat.add_mul,Nat.one_mul] at h ⊢
  show layKB D pl (pos c) (c*C) (layCB D C pl pos c) C=_
  rw[layC_gather D C n pl pos hC c (by omega),layK_congr D pl (glL pl pos C n) (pos c) (0+c*C) (c*C) _ C,layK_flat]
  intro j hj
  rw[Nat.zero_add,glL_get pl pos C n _ (by omega),Nat.mul_comm c C,Nat.mul_add_div (by omega),Nat.div_eq_of_lt hj,Nat.mul_add_mod,Nat.mod_eq_of_lt hj,Nat.add_zero]
theorem chan_pos {K D:Nat} (h:legal K D):1≤chan K:=by rcases h.k with rfl | rfl | rfl | rfl | rfl<;>decide
theorem glL_all {P:Int→Prop} {pl:List Int} (h:∀ y ∈ pl,P y) (h0:P 0) (pos:Nat→Nat) (C n:Nat):∀ y ∈ glL pl pos C n,P y:=by
 intro y hy
 obtain ⟨j,_,rfl⟩:=List.mem_map.1 hy
 exact getD_or h h0 _
theorem layK_lt {D:Nat} (hd:D=1∨D=2∨D=4∨D=8∨D=16) (pl:List Int) (hb:∀ y ∈ pl,0≤y∧y<((2^D:Nat):Int)) (A n i:Nat):layKB D pl A 0 (fun _=>0) n i<256:=by
 by_cases hD:D=16
 ·subst hD
  rw[layK_16]
  have hg:=getD_or (P:=fun y=>0≤y∧y<((2^16:Nat):Int)) hb (by omega) (A+i / 2)
  split
  ·split<;>omega
  ·omega
 ·obtain ⟨per,hp⟩:=per_of (D:=D) (by omega)
  rw[layK_8 D per hp pl _ hb]
  have:=rowSm_lt D n A (per*i) pl hb per
  have e:D*per=8:=by rcases hp with ⟨rfl,rfl⟩ | ⟨rfl,rfl⟩ | ⟨rfl,rfl⟩ | ⟨rfl,rfl⟩<;>rfl
  rw[e] at this
  exact this
theorem rowSm_dig (D n T j0:Nat) (pix:List Int) (h:∀ y ∈ pix,0≤y∧y<((2^D:Nat):Int)):∀ (m q:Nat),q<m→rowSm D n T j0 pix m / 2^(D*(m - 1 - q)) % 2^D=(if j0+q<n then (pix.getD (T+(j0+q)) 0).toNat else 0)
 | 0,q,hq=>by omega
 | m+1,q,hq=>by
  have h2:0<2^D:=Nat.two_pow_pos D
  have dl:(if j0+m<n then (pix.getD (T+(j0+m)) 0).toNat else 0)<2^D:=by
   split
   ·have:=getD_or (P:=fun y=>0≤y∧y<((2^D:Nat):Int)) h (by omega) (T+(j0+m));omega
   ·exact h2
  show (rowSm D n T j0 pix m*2^D+(if j0+m<n then (pix.getD (T+(j0+m)) 0).toNat else 0)) / 2^(D*(m+1 - 1 - q)) % 2^D=_
  by_cases e:q=m
  ·subst e
   rw[show q+1 - 1 - q=0 from by omega,Nat.mul_zero,Nat.pow_zero,Nat.div_one,Nat.mul_comm,Nat.mul_add_mod,Nat.mod_eq_of_lt dl]
  ·rw[show m+1 - 1 - q=(m - 1 - q)+1 from by omega,Nat.mul_add,Nat.mul_one,Nat.add_comm (D*(m - 1 - q)) D,Nat.pow_add,← Nat.div_div_eq_div_mul,Nat.mul_comm (rowSm D n T j0 pix m),Nat.mul_add_div h2,Nat.div_eq_of_lt dl,Nat.add_zero]
   exact rowSm_dig D n T j0 pix h m q (by omega)
theorem lay_bits {D:Nat} (hd:D=1∨D=2∨D=4∨D=8) (pl:List Int) (hb:∀ y ∈ pl,0≤y∧y<((2^D:Nat):Int)) (A n i:Nat) (hi:i<n):bitsO (layKB D pl A 0 (fun _=>0) n (i*D / 8)) (i*D % 8) D=(pl.getD (A+i) 0).toNat:=by
 obtain ⟨per,hp⟩:=per_of hd
 obtain ⟨e1,e2,e3,_⟩:=lay_at D per i hp
 have p1:1≤per:=by omega
 have hq:i % per<per:=Nat.mod_lt _ p1
 rw[layK_8 D per hp pl _ hb]
 unfold bitsO
 rw[e2,e1,rowSm_dig D n A (per*(i / per)) pl hb per (i % per) hq,← e3,if_pos hi]
theorem pix_lt {W H K D:Nat} {pal clr pix:List Int} (ok:OkIm W H K D pal clr pix):∀ y ∈ pix,0≤y∧y<((2^D:Nat):Int):=by
 intro y hy
 have:=ok.pixB y hy
 by_cases h3:K=3
 ·rw[if_pos h3] at this
  obtain ⟨n,a,b,c⟩:=ok.pal3 h3
  omega
 ·rw[if_neg h3] at this;exact this
def rvX (h:Hd) (pl:List Int) (p k:Nat):Nat→Nat:=rowAtB h.W h.K h.D (psOf h.L p).cf (psOf h.L p).cs (psOf h.L p).rf (psOf h.L p).rs pl k
def ffX (h:Hd) (fl:List Int) (p k:Nat):Nat:=(fl.getD ((befP h p+k) % fl.length) 0).toNat
def posX (h:Hd) (p k:Nat):Nat→Nat:=fun c=>(((psOf h.L p).rf+k*(psOf h.L p).rs)*h.W+((psOf h.L p).cf+c*(psOf h.L p).cs))*chan h.K
theorem rv_gather (h:Hd) (pl:List Int) (p k:Nat) (hk:legal h.K h.D):rvX h pl p k=layKB h.D (glL pl (posX h p k) (chan h.K) (colsP h p*chan h.K)) 0 0 (fun _=>0) (colsP h p*chan h.K) :=
 layC_gather h.D (chan h.K) (colsP h p*chan h.K) pl (posX h p k) (chan_pos hk) (colsP h p) (Nat.le_refl _)
theorem env_x {W H K D L:Nat} {pal clr pix fl:List Int} (ok:OkIm W H K D pal clr pix) (hL:L≤1) (hf:∀ y ∈ fl,0≤y∧y≤4):QEnv ⟨W,H,D,K,L⟩ (colN K pal) (rvX ⟨W,H,D,K,L⟩ pix) (ffX ⟨W,H,D,K,L⟩ fl):=by
 have hp:=pix_lt ok
 refine ⟨ok.w1,ok.w2,ok.h1,ok.h2,ok.lg,hL,colN_le ok,fun p k i => ?_,fun p k => ?_,fun h3 p k i hk hi => ?_⟩
 ·rw[rv_gather _ pix p k ok.lg]
  exact layK_lt ok.lg.d _ (glL_all (P:=fun y=>0≤y∧y<((2^D:Nat):Int)) hp (by have:=Nat.two_pow_pos D;omega) _ _ _) _ _ _
 ·have:=getD_or (P:=fun y=>0≤y∧y≤4) hf (by omega) ((befP ⟨W,H,D,K,L⟩ p+k) % fl.length)
  unfold ffX;omega
 ·replace h3:K=3:=h3
  have hd:D=1∨D=2∨D=4∨D=8:=by have:=ok.lg;unfold legal at this;omega
  have c1:chan K=1:=by rw[h3];rfl
  rw[rv_gather _ pix p k ok.lg]
  show bitsO (layKB D (glL pix (posX ⟨W,H,D,K,L⟩ p k) (chan K) (colsP ⟨W,H,D,K,L⟩ p*chan K)) 0 0 (fun _=>0) (colsP ⟨W,H,D,K,L⟩ p*chan K) (i*D / 8)) (i*D % 8) D<colN K pal
  have hi':i<colsP ⟨W,H,D,K,L⟩ p*chan K:=by rw[c1,Nat.mul_one];exact hi
  rw[lay_bits hd _ (glL_all (P:=fun y=>0≤y∧y<((2^D:Nat):Int)) hp (by have:=Nat.two_pow_pos D;omega) _ _ _) 0 _ i hi',Nat.zero_add,glL_get _ _ _ _ _ hi']
  have hin:=in_pass ⟨W,H,D,K,L⟩ p k i 0 (chan K) hk hi (by omega)
  have e:posX ⟨W,H,D,K,L⟩ p k (i / chan K)+i % chan K=(((psOf L p).rf+k*(psOf L p).rs)*W+((psOf L p).cf+i*(psOf L p).cs))*chan K+0:=by
   rw[c1,Nat.div_one,Nat.mod_one]
   show (((psOf L p).rf+k*(psOf L p).rs)*W+((psOf L p).cf+i*(psOf L p).cs))*chan K+0=_
   rw[c1]
  rw[e]
  have:=ok.pixB _ (getD_mem (show (((psOf L p).rf+k*(psOf L p).rs)*W+((psOf L p).cf+i*(psOf L p).cs))*chan K+0<pix.length by rw[ok.pixL];exact hin))
  rw[if_pos h3] at this
  unfold colN;rw[if_pos h3];omega
theorem upw_abv (h:Hd) (pix:List Int) (p k:Nat):upw (rvX h pix p) k=abvAtB h.W h.K h.D (psOf h.L p).cf (psOf h.L p).cs (psOf h.L p).rf (psOf h.L p).rs pix k:=by
 cases k with
 | zero=>rfl
 | succ k=>rfl
theorem rowX_nl (h:Hd) (pix fl:List Int) (p k b:Nat):nl (rowB h.K h.D (ffX h fl p k) b (rvX h pix p k) (abvAtB h.W h.K h.D (psOf h.L p).cf (psOf h.L p).cs (psOf h.L p).rf (psOf h.L p).rs pix k))=rowN h (rvX h pix) (ffX h fl) p k (b+1):=by
 unfold rowN
 rw[List.range_succ_eq_map,List.map_cons,List.map_map]
 show ((ffX h fl p k:Nat):Int).toNat::nl ((List.range b).map _)=_
 unfold nl
 rw[List.map_map]
 refine congr (congrArg List.cons rfl) (List.map_congr_left (fun i _ => ?_))
 show (((rvX h pix p k i+256 - gssB h.K h.D (ffX h fl p k) (rvX h pix p k) (abvAtB h.W h.K h.D (psOf h.L p).cf (psOf h.L p).cs (psOf h.L p).rf (psOf h.L p).rs pix k) i) % 256:Nat):Int).toNat=bytP h _ _ p k (i+1)
 unfold bytP
 rw[if_neg (by omega),upw_abv]
 rfl
theorem passX_nl (h:Hd) (pix fl:List Int) (p:Nat) (hk:legal h.K h.D):∀ n,nl (passB h.W h.K h.D (psOf h.L p).cf (psOf h.L p).cs (psOf h.L p).rf (psOf h.L p).rs pix fl (befP h p) n)=passN h (rvX h pix) (ffX h fl) p n
 | 0=>rfl
 | n+1=>by
  have e:passB h.W h.K h.D (psOf h.L p).cf (psOf h.L p).cs (psOf h.L p).rf (psOf h.L p).rs pix fl (befP h p) (n+1)=passB h.W h.K h.D (psOf h.L p).cf (psOf h.L p).cs (psOf h.L p).rf (psOf h.L p).rs pix fl (befP h p) n++rowB h.K h.D (ffX h fl p n) (sizeP h p) (rvX h pix p n) (abvAtB h.W h.K h.D (psOf h.L p).cf (psOf h.L p).cs (psOf h.L p).rf (psOf h.L p).rs pix n):=by
   have es:sizeP h p=(within (psOf h.L p).cf (psOf h.L p).cs h.W*(chan h.K*h.D)+7) / 8:=by
    unfold sizeP
    have:bitsP h=chan h.K*h.D:=by show chn h.K*h.D=_;rw[chn_ch hk]
    rw[this];rfl
   rw[es];rfl
  rw[e,nl_app,passX_nl h pix fl p hk n,rowX_nl]
  unfold passN
  rw[List.range_succ,List.flatMap_append,List.flatMap_cons,List.flatMap_nil,List.append_nil]
theorem allX_nl (h:Hd) (pix fl:List Int) (hk:legal h.K h.D):∀ n,nl (allB h pix fl n)=(List.range' 0 n).flatMap (fpN h (rvX h pix) (ffX h fl))
 | 0=>rfl
 | n+1=>by
  show nl (allB h pix fl n++fpB h pix fl n)=_
  rw[nl_app,allX_nl h pix fl hk n,← List.range_eq_range',← List.range_eq_range',List.range_succ,List.flatMap_append,List.flatMap_cons,List.flatMap_nil,List.append_nil]
  congr 1
  unfold fpB fpN
  split
  ·rfl
  ·exact passX_nl h pix fl n hk (linesP h n)
theorem all_pos {h:Hd} (pl fl:List Int) (hW:1≤h.W) (hH:1≤h.H):∀ n,0<(allB h pl fl (n+1)).length
 | 0=>by
  show 0<([]++fpB h pl fl 0).length
  rw[List.nil_append]
  have c0:(psOf h.L 0).cf=0∧(psOf h.L 0).rf=0:=by
   unfold psOf
   split
   ·exact ⟨by decide,by decide⟩
   ·exact ⟨rfl,rfl⟩
  have c1:colsP h 0≠0:=by unfold colsP wthn;rw[c0.1,if_neg (by omega)];exact Nat.succ_ne_zero _
  have c2:0<linesP h 0:=by unfold linesP wthn;rw[c0.2,if_neg (by omega)];exact Nat.succ_pos _
  unfold fpB
  rw[if_neg c1,passB_len]
  exact Nat.mul_pos c2 (by omega)
 | n+1=>by
  show 0<(allB h pl fl (n+1)++fpB h pl fl (n+1)).length
  rw[List.length_append]
  have:=all_pos (h:=h) pl fl hW hH n
  omega
theorem chL_nl:∀ PL:List (List Int),nl (chL PL)=idatsN (PL.map nl)
 | []=>rfl
 | d::t=>by
  have e:chL (d::t)=chB idat d++chL t:=rfl
  have e2:idatsN ((d::t).map nl)=chN idat (nl d)++idatsN (t.map nl):=rfl
  rw[e,nl_app,nl_ch,chL_nl t,e2]
theorem fileX_nl (W H D K L:Nat) (pal clr:List Int) (PL:List (List Int)):nl (fileX W H D K L pal clr PL)=fileN W H D K L pal clr (PL.map nl):=by
 unfold fileX fileN headN
 rw[nl_app,nl_app,nl_app,nl_app,nl_app,nl_ch,nl_ch iend,nl_hd,chL_nl]
 simp only [List.append_assoc]
 rfl
end Go.Proofs.YtmbmecfodigciaaGreatDoor
namespace Go.Proofs.YtmbmecfodigciaaGreatDoor
open Go.RowKit
set_option linter.unusedSimpArgs false
set_option linter.unusedVariables false
theorem isClr_any (W H K D:Nat) (pp qp xp:Option Addr) (pc qc xc:Nat) (pal clr pix:List Int) (w:World) (h:OkIm W H K D pal clr pix) (hp:LAt w .i64 (.slice pp pal.length pc) pal) (hq:LAt w .i64 (.slice qp clr.length qc) clr) (hx:LAt w .i64 (.slice xp pix.length xc) pix) :
  Calls Tryz.prog 62 #[.agg #[.int .i64 (W:Int),.int .i64 (H:Int),.int .i64 (K:Int),.int .i64 (D:Int),.slice pp pal.length pc,.slice qp clr.length qc,.slice xp pix.length xc]] w fun r w'=>r = .returned (.bool true)∧Kept w w':=by
 have hk0:Kept w (w.alloc (Obj.cells #[.int .i64 (W:Int),.int .i64 (H:Int),.int .i64 (K:Int),.int .i64 (D:Int),.slice pp pal.length pc,.slice qp clr.length qc,.slice xp pix.length xc] 33)):=Below.alloc (Below.refl _ _) (Nat.le_refl _) _
 have hch:∀ k u,#[Value.int .i64 (W:Int),.int .i64 (H:Int),.int .i64 (K:Int),.int .i64 (D:Int),.slice pp pal.length pc,.slice qp clr.length qc,.slice xp pix.length xc][k]? = some u→(w.alloc (Obj.cells #[.int .i64 (W:Int),.int .i64 (H:Int),.int .i64 (K:Int),.int .i64 (D:Int),.slice pp pal.length pc,.slice qp clr.length qc,.slice xp pix.length xc] 33)).cell? ⟨w.heap.size,k,none⟩=some u:=by
  intro k u hu
  rw[World.cell?_alloc_at _ _ _ _ rfl];exact hu
 have hs0:w.heap.size<(w.alloc (Obj.cells #[.int .i64 (W:Int),.int .i64 (H:Int),.int .i64 (K:Int),.int .i64 (D:Int),.slice pp pal.length pc,.slice qp clr.length qc,.slice xp pix.length xc] 33)).heap.size:=by simp
 have FL:Hid (∀ W':World,Calls Tryz.prog 92 #[.agg #[.int .i64 (W:Int),.int .i64 (H:Int),.int .i64 (K:Int),.int .i64 (D:Int),.slice pp pal.length pc,.slice qp clr.length qc,.slice xp pix.length xc]] W' fun r w'=>r = .returned (.int .i64 ((2^D:Nat):Int))∧Kept W' w'):=fun W'=>levels_any _ _ _ D _ _ _ W' h.lg.d
 have FJ:Hid (∀ W':World,Calls Tryz.prog 93 #[.int .i64 (K:Int)] W' fun r w'=>r = .returned (.int .i64 (chan K:Int))∧w'=W'):=fun W'=>samples_any K W' h.lg.k
 have HC:Hid (∀ W',Kept (w.alloc (Obj.cells #[.int .i64 (W:Int),.int .i64 (H:Int),.int .i64 (K:Int),.int .i64 (D:Int),.slice pp pal.length pc,.slice qp clr.length qc,.slice xp pix.length xc] 33)) W'→(W'.cell? ⟨w.heap.size,0,none⟩=some (.int .i64 (W:Int))∧W'.cell? ⟨w.heap.size,1,none⟩=some (.int .i64 (H:Int))∧W'.cell? ⟨w.heap.size,2,none⟩=some (.int .i64 (K:Int))∧W'.cell? ⟨w.heap.size,3,none⟩=some (.int .i64 (D:Int))∧W'.cell? ⟨w.heap.size,4,none⟩=some (.slice pp pal.length pc)∧W'.cell? ⟨w.heap.size,5,none⟩=some (.slice qp clr.length qc)∧W'.cell? ⟨w.heap.size,6,none⟩=some (.slice xp pix.length xc))):=fun W' k=>⟨(k.cell (p:=⟨w.heap.size,0,none⟩) hs0).trans (hch 0 _ rfl),(k.cell (p:=⟨w.heap.size,1,none⟩) hs0).trans (hch 1 _ rfl),(k.cell (p:=⟨w.heap.size,2,none⟩) hs0).trans (hch 2 _ rfl),(k.cell (p:=⟨w.heap.size,3,none⟩) hs0).trans (hch 3 _ rfl),(k.cell (p:=⟨w.heap.size,4,none⟩) hs0).trans (hch 4 _ rfl),(k.cell (p:=⟨w.heap.size,5,none⟩) hs0).trans (hch 5 _ rfl),(k.cell (p:=⟨w.heap.size,6,none⟩) hs0).trans (hch 6 _ rfl)⟩
 rcases h.clr with e | ⟨e1,e2,e3⟩ | ⟨e1,e2,e3,e4⟩
 ·have hz:((clr.length:Int) == 0)=true:=by rw[e];rfl
  have hz2:(clr.length:Int)=0:=by rw[e];rfl
  clear h hp hq hx e
  replace hk0:Hid _:=hk0
  go_enter Tryz.func62,Tryz.ntmps62
  go_wp2
  go_ret
  exact ⟨rfl,hk0.out⟩
 ·have hcl:=@chan_le K
  have hz:((clr.length:Int) == 0)=false:=by rw[beq_eq_false_iff_ne];omega
  have hPb:=pow_le h.lg.d
  have FA:Hid (∀ W',Kept (w.alloc (Obj.cells #[.int .i64 (W:Int),.int .i64 (H:Int),.int .i64 (K:Int),.int .i64 (D:Int),.slice pp pal.length pc,.slice qp clr.length qc,.slice xp pix.length xc] 33)) W'→Calls Tryz.prog 66 #[.slice qp clr.length qc,.int .i64 ((2^D:Nat):Int)] W' fun r w'=>r = .returned (.bool true)∧Kept W' w'):=fun W' k=>allBelow_any _ clr _ _ ((hq.kept hk0).kept k) (by omega) e3
  have he2:(clr.length:Int)=(chan K:Int):=by omega
  clear h hp hq hx e3
  replace hk0:Hid _:=hk0
  have hb:((clr.length:Int) == (chan K:Int))=true:=by rw[he2];exact beq_self_eq_true _
  replace he2:Hid _:=he2
  replace e2:Hid _:=e2
  replace hch:Hid _:=hch
  generalize (2^D:Nat)=P at *
  generalize chan K=C at *
  rcases e1 with rfl | rfl
  ·go_enter Tryz.func62,Tryz.ntmps62
   go_wp2_with fail
   generalize (w.alloc (Obj.cells #[.int .i64 (W:Int),.int .i64 (H:Int),.int .i64 0,.int .i64 (D:Int),.slice pp pal.length pc,.slice qp clr.length qc,.slice xp pix.length xc] 33))=w0 at *
   have hS0:=HC.out w0 (Kept.refl _)
   replace hS0:Hid _:=hS0
   go_region_held3 (fun W'=>W'.cell? ⟨w.heap.size,0,none⟩=some (.int .i64 (W:Int))∧W'.cell? ⟨w.heap.size,1,none⟩=some (.int .i64 (H:Int))∧W'.cell? ⟨w.heap.size,2,none⟩=some (.int .i64 0)∧W'.cell? ⟨w.heap.size,3,none⟩=some (.int .i64 (D:Int))∧W'.cell? ⟨w.heap.size,4,none⟩=some (.slice pp pal.length pc)∧W'.cell? ⟨w.heap.size,5,none⟩=some (.slice qp clr.length qc)∧W'.cell? ⟨w.heap.size,6,none⟩=some (.slice xp pix.length xc)) (first | exact hS0.out | exact hS1.out | exact hS2.out | go_keep) ((first | (go_at_call 93;refine (FJ.out _).mono ?_;rintro r w1 ⟨rfl,rfl⟩) | (go_at_call 92;refine (FL.out _).mono ?_;rintro r w2 ⟨rfl,hk2⟩;have hk2':Kept w0 w2:=Kept.trans ((Kept.refl _).drewN 1) hk2;have hS1:Hid _:=HC.out w2 hk2') | (go_at_call 66;refine (FA.out _ (by exact hk2')).mono ?_;rintro r w3 ⟨rfl,hk3⟩;have hk3':Kept w0 w3:=Kept.trans hk2' hk3;have hS2:Hid _:=HC.out w3 hk3')))
   go_wp2
   go_ret
   exact ⟨rfl,Kept.trans hk0.out hk3'⟩
  ·go_enter Tryz.func62,Tryz.ntmps62
   go_wp2_with fail
   generalize (w.alloc (Obj.cells #[.int .i64 (W:Int),.int .i64 (H:Int),.int .i64 2,.int .i64 (D:Int),.slice pp pal.length pc,.slice qp clr.length qc,.slice xp pix.length xc] 33))=w0 at *
   have hS0:=HC.out w0 (Kept.refl _)
   replace hS0:Hid _:=hS0
   go_region_held3 (fun W'=>W'.cell? ⟨w.heap.size,0,none⟩=some (.int .i64 (W:Int))∧W'.cell? ⟨w.heap.size,1,none⟩=some (.int .i64 (H:Int))∧W'.cell? ⟨w.heap.size,2,none⟩=some (.int .i64 2)∧W'.cell? ⟨w.heap.size,3,none⟩=some (.int .i64 (D:Int))∧W'.cell? ⟨w.heap.size,4,none⟩=some (.slice pp pal.length pc)∧W'.cell? ⟨w.heap.size,5,none⟩=some (.slice qp clr.length qc)∧W'.cell? ⟨w.heap.size,6,none⟩=some (.slice xp pix.length xc)) (first | exact hS0.out | exact hS1.out | exact hS2.out | go_keep) ((first | (go_at_call 93;refine (FJ.out _).mono ?_;rintro r w1 ⟨rfl,rfl⟩) | (go_at_call 92;refine (FL.out _).mono ?_;rintro r w2 ⟨rfl,hk2⟩;have hk2':Kept w0 w2:=Kept.trans ((Kept.refl _).drewN 1) hk2;have hS1:Hid _:=HC.out w2 hk2') | (go_at_call 66;refine (FA.out _ (by exact hk2')).mono ?_;rintro r w3 ⟨rfl,hk3⟩;have hk3':Kept w0 w3:=Kept.trans hk2' hk3;have hS2:Hid _:=HC.out w3 hk3')))
   go_wp2
   go_ret
   exact ⟨rfl,Kept.trans hk0.out hk3'⟩
 ·have hz:((clr.length:Int) == 0)=false:=by rw[beq_eq_false_iff_ne];omega
  have FA:Hid (∀ W',Kept (w.alloc (Obj.cells #[.int .i64 (W:Int),.int .i64 (H:Int),.int .i64 (K:Int),.int .i64 (D:Int),.slice pp pal.length pc,.slice qp clr.length qc,.slice xp pix.length xc] 33)) W'→Calls Tryz.prog 66 #[.slice qp clr.length qc,.int .i64 256] W' fun r w'=>r = .returned (.bool true)∧Kept W' w'):=fun W' k=>allBelow_any _ clr _ _ ((hq.kept hk0).kept k) (by
   obtain ⟨n,a,b,c⟩:=h.pal3 e1
   have:=pow_le h.lg.d
   omega) e4
  obtain ⟨Q,hQ⟩:∃ Q,Q=pal.length / 3:=⟨_,rfl⟩
  have eQ:(pal.length:Int) / 3=(Q:Int):=by omega
  have hQb:Q≤65536:=by
   obtain ⟨n,a,b,c⟩:=h.pal3 e1
   have:=pow_le h.lg.d
   omega
  have hle:(clr.length:Int)≤(Q:Int):=by omega
  subst e1
  clear hQ
  clear h hp hq hx e4 e2 e3
  replace hk0:Hid _:=hk0
  replace hch:Hid _:=hch
  go_enter Tryz.func62,Tryz.ntmps62
  go_wp2_with fail
  refine (FA.out _ (Kept.refl _)).mono ?_
  rintro r w3 ⟨rfl,hk3⟩
  go_wp2
  go_ret
  exact ⟨rfl,Kept.trans hk0.out hk3⟩
end Go.Proofs.YtmbmecfodigciaaGreatDoor
