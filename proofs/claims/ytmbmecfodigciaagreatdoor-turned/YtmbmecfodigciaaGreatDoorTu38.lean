import Derived.Test.YtmbmecfodigciaaGreatDoorTu31
import Derived.Test.YtmbmecfodigciaaGreatDoorTu37
import Derived.Test.YtmbmecfodigciaaGreatDoorTu30
import Derived.Test.YtmbmecfodigciaaGreatDoorTu19
import Derived.Test.YtmbmecfodigciaaGreatDoorTu22
set_option maxRecDepth 100000
set_option maxHeartbeats 6400000
namespace Go.Proofs.YtmbmecfodigciaaGreatDoor
open Go.RowKit Px
set_option linter.unusedSimpArgs false
set_option linter.unusedVariables false
theorem getD_or {l:List Int} {P:Int->Prop} (h:∀ y ∈ l,P y) (h0:P 0) (i:Nat):P (l.getD i 0):=by
 by_cases hi:i<l.length
 ·exact h _ (getD_mem hi)
 ·rw[List.getD_eq_getElem?_getD,List.getElem?_eq_none (by omega)];exact h0
theorem per_of {D:Nat} (hd:D=1\/D=2\/D=4\/D=8):∃ per,D=1/\per=8\/D=2/\per=4\/D=4/\per=2\/D=8/\per=1:=by
 rcases hd with rfl | rfl | rfl | rfl
 ·exact ⟨8,by omega⟩
 ·exact ⟨4,by omega⟩
 ·exact ⟨2,by omega⟩
 ·exact ⟨1,by omega⟩
def glL (pl:List Int) (pos:Nat->Nat) (C n:Nat):List Int:=(List.range n).map (fun j=>pl.getD (pos (j / C)+j % C) 0)
theorem glL_get (pl:List Int) (pos:Nat->Nat) (C n j:Nat) (h:j<n):(glL pl pos C n).getD j 0=pl.getD (pos (j / C)+j % C) 0:=by
 unfold glL
 rw[List.getD_eq_getElem?_getD,List.getElem?_map,List.getElem?_range h];rfl
theorem layK_congr (D:Nat) (pl ql:List Int) (A A' B:Nat) (row:Nat->Nat):∀ k,(∀ j,j<k->pl.getD (A+j) 0=ql.getD (A'+j) 0)->layKB D pl A B row k=layKB D ql A' B row k
 | 0,_=>rfl
 | k+1,h=>by
  show laySB D (layKB D pl A B row k) (B+k) (pl.getD (A+k) 0).toNat=laySB D (layKB D ql A' B row k) (B+k) (ql.getD (A'+k) 0).toNat
  rw[layK_congr D pl ql A A' B row k (fun j hj=>h j (by omega)),h k (by omega)]
theorem layC_gather (D C n:Nat) (pl:List Int) (pos:Nat->Nat) (hC:1<=C):∀ c,c*C<=n->layCB D C pl pos c=layKB D (glL pl pos C n) 0 0 (fun _=>0) (c*C)
 | 0,_=>by rw[Nat.zero_mul];rfl
 | c+1,h=>by
  rw[Nat.add_mul,Nat.one_mul] at h ⊢
  show layKB D pl (pos c) (c*C) (layCB D C pl pos c) C=_
  rw[layC_gather D C n pl pos hC c (by omega),layK_congr D pl (glL pl pos C n) (pos c) (0+c*C) (c*C) _ C,layK_flat]
  intro j hj
  rw[Nat.zero_add,glL_get pl pos C n _ (by omega),Nat.mul_comm c C,Nat.mul_add_div (by omega),Nat.div_eq_of_lt hj,Nat.mul_add_mod,Nat.mod_eq_of_lt hj,Nat.add_zero]
theorem chan_pos {K D:Nat} (h:legal K D):1<=chan K:=by rcases h.k with rfl | rfl | rfl | rfl | rfl<;>decide
theorem glL_all {P:Int->Prop} {pl:List Int} (h:∀ y ∈ pl,P y) (h0:P 0) (pos:Nat->Nat) (C n:Nat):∀ y ∈ glL pl pos C n,P y:=by
 intro y hy
 obtain ⟨j,_,rfl⟩:=List.mem_map.1 hy
 exact getD_or h h0 _
theorem layK_lt {D:Nat} (hd:D=1\/D=2\/D=4\/D=8\/D=16) (pl:List Int) (hb:∀ y ∈ pl,0<=y/\y<((2^D:Nat):Int)) (A n i:Nat):layKB D pl A 0 (fun _=>0) n i<256:=by
 by_cases hD:D=16
 ·subst hD
  rw[layK_16]
  have hg:=getD_or (P:=fun y=>0<=y/\y<((2^16:Nat):Int)) hb (by omega) (A+i / 2)
  split
  ·split<;>omega
  ·omega
 ·obtain ⟨per,hp⟩:=per_of (D:=D) (by omega)
  rw[layK_8 D per hp pl _ hb]
  have:=rowSm_lt D n A (per*i) pl hb per
  have e:D*per=8:=by rcases hp with ⟨rfl,rfl⟩ | ⟨rfl,rfl⟩ | ⟨rfl,rfl⟩ | ⟨rfl,rfl⟩<;>rfl
  rw[e] at this
  exact this
theorem rowSm_dig (D n T j0:Nat) (pix:List Int) (h:∀ y ∈ pix,0<=y/\y<((2^D:Nat):Int)):∀ (m q:Nat),q<m->rowSm D n T j0 pix m / 2^(D*(m - 1 - q)) % 2^D=(if j0+q<n then (pix.getD (T+(j0+q)) 0).toNat else 0)
 | 0,q,hq=>by omega
 | m+1,q,hq=>by
  have h2:0<2^D:=Nat.two_pow_pos D
  have dl:(if j0+m<n then (pix.getD (T+(j0+m)) 0).toNat else 0)<2^D:=by
   split
   ·have:=getD_or (P:=fun y=>0<=y/\y<((2^D:Nat):Int)) h (by omega) (T+(j0+m));omega
   ·exact h2
  show (rowSm D n T j0 pix m*2^D+(if j0+m<n then (pix.getD (T+(j0+m)) 0).toNat else 0)) / 2^(D*(m+1 - 1 - q)) % 2^D=_
  by_cases e:q=m
  ·subst e
   rw[show q+1 - 1 - q=0 from by omega,Nat.mul_zero,Nat.pow_zero,Nat.div_one,Nat.mul_comm,Nat.mul_add_mod,Nat.mod_eq_of_lt dl]
  ·rw[show m+1 - 1 - q=(m - 1 - q)+1 from by omega,Nat.mul_add,Nat.mul_one,Nat.add_comm (D*(m - 1 - q)) D,Nat.pow_add,<- Nat.div_div_eq_div_mul,Nat.mul_comm (rowSm D n T j0 pix m),Nat.mul_add_div h2,Nat.div_eq_of_lt dl,Nat.add_zero]
   exact rowSm_dig D n T j0 pix h m q (by omega)
theorem lay_bits {D:Nat} (hd:D=1\/D=2\/D=4\/D=8) (pl:List Int) (hb:∀ y ∈ pl,0<=y/\y<((2^D:Nat):Int)) (A n i:Nat) (hi:i<n):bitsO (layKB D pl A 0 (fun _=>0) n (i*D / 8)) (i*D % 8) D=(pl.getD (A+i) 0).toNat:=by
 obtain ⟨per,hp⟩:=per_of hd
 obtain ⟨e1,e2,e3,_⟩:=lay_at D per i hp
 have p1:1<=per:=by omega
 have hq:i % per<per:=Nat.mod_lt _ p1
 rw[layK_8 D per hp pl _ hb]
 unfold bitsO
 rw[e2,e1,rowSm_dig D n A (per*(i / per)) pl hb per (i % per) hq,<- e3,if_pos hi]
theorem pix_lt {W H K D:Nat} {pal clr pix:List Int} (ok:OkIm W H K D pal clr pix):∀ y ∈ pix,0<=y/\y<((2^D:Nat):Int):=by
 intro y hy
 have:=ok.pixB y hy
 by_cases h3:K=3
 ·rw[if_pos h3] at this
  obtain ⟨n,a,b,c⟩:=ok.pal3 h3
  omega
 ·rw[if_neg h3] at this;exact this
def rvX (h:Hd) (pl:List Int) (p k:Nat):Nat->Nat:=rowAtB h.W h.K h.D (psOf h.L p).cf (psOf h.L p).cs (psOf h.L p).rf (psOf h.L p).rs pl k
def ffX (h:Hd) (fl:List Int) (p k:Nat):Nat:=(fl.getD ((befP h p+k) % fl.length) 0).toNat
def posX (h:Hd) (p k:Nat):Nat->Nat:=fun c=>(((psOf h.L p).rf+k*(psOf h.L p).rs)*h.W+((psOf h.L p).cf+c*(psOf h.L p).cs))*chan h.K
theorem rv_gather (h:Hd) (pl:List Int) (p k:Nat) (hk:legal h.K h.D):rvX h pl p k=layKB h.D (glL pl (posX h p k) (chan h.K) (colsP h p*chan h.K)) 0 0 (fun _=>0) (colsP h p*chan h.K) :=
 layC_gather h.D (chan h.K) (colsP h p*chan h.K) pl (posX h p k) (chan_pos hk) (colsP h p) (Nat.le_refl _)
theorem env_x {W H K D L:Nat} {pal clr pix fl:List Int} (ok:OkIm W H K D pal clr pix) (hL:L<=1) (hf:∀ y ∈ fl,0<=y/\y<=4):QEnv ⟨W,H,D,K,L⟩ (colN K pal) (rvX ⟨W,H,D,K,L⟩ pix) (ffX ⟨W,H,D,K,L⟩ fl):=by
 have hp:=pix_lt ok
 refine ⟨ok.w1,ok.w2,ok.h1,ok.h2,ok.lg,hL,colN_le ok,fun p k i => ?_,fun p k => ?_,fun h3 p k i hk hi => ?_⟩
 ·rw[rv_gather _ pix p k ok.lg]
  exact layK_lt ok.lg.d _ (glL_all (P:=fun y=>0<=y/\y<((2^D:Nat):Int)) hp (by have:=Nat.two_pow_pos D;omega) _ _ _) _ _ _
 ·have:=getD_or (P:=fun y=>0<=y/\y<=4) hf (by omega) ((befP ⟨W,H,D,K,L⟩ p+k) % fl.length)
  unfold ffX;omega
 ·replace h3:K=3:=h3
  have hd:D=1\/D=2\/D=4\/D=8:=by have:=ok.lg;unfold legal at this;omega
  have c1:chan K=1:=by rw[h3];rfl
  rw[rv_gather _ pix p k ok.lg]
  show bitsO (layKB D (glL pix (posX ⟨W,H,D,K,L⟩ p k) (chan K) (colsP ⟨W,H,D,K,L⟩ p*chan K)) 0 0 (fun _=>0) (colsP ⟨W,H,D,K,L⟩ p*chan K) (i*D / 8)) (i*D % 8) D<colN K pal
  have hi':i<colsP ⟨W,H,D,K,L⟩ p*chan K:=by rw[c1,Nat.mul_one];exact hi
  rw[lay_bits hd _ (glL_all (P:=fun y=>0<=y/\y<((2^D:Nat):Int)) hp (by have:=Nat.two_pow_pos D;omega) _ _ _) 0 _ i hi',Nat.zero_add,glL_get _ _ _ _ _ hi']
  have hin:=in_pass ⟨W,H,D,K,L⟩ p k i 0 (chan K) hk hi (by omega)
  have e:posX ⟨W,H,D,K,L⟩ p k (i / chan K)+i % chan K=(((psOf L p).rf+k*(psOf L p).rs)*W+((psOf L p).cf+i*(psOf L p).cs))*chan K+0:=by
   rw[c1,Nat.div_one,Nat.mod_one]
   show (((psOf L p).rf+k*(psOf L p).rs)*W+((psOf L p).cf+i*(psOf L p).cs))*chan K+0=_
   rw[c1]
  rw[e]
  have:=ok.pixB _ (getD_mem (show (((psOf L p).rf+k*(psOf L p).rs)*W+((psOf L p).cf+i*(psOf L p).cs))*chan K+0<pix.length by rw[ok.pixL];exact hin))
  rw[if_pos h3] at this
  unfold colN;rw[if_pos h3];omega
theorem upw_abv (h:Hd) (pix:List Int) (p k:Nat):upw (rvX h pix p) k=abvAtB h.W h.K h.D (psOf h.L p).cf (psOf h.L p).cs (psOf h.L p).rf (psOf h.L p).rs pix k:=by
 cases k with
 | zero=>rfl
 | succ k=>rfl
theorem rowX_nl (h:Hd) (pix fl:List Int) (p k b:Nat):nl (rowB h.K h.D (ffX h fl p k) b (rvX h pix p k) (abvAtB h.W h.K h.D (psOf h.L p).cf (psOf h.L p).cs (psOf h.L p).rf (psOf h.L p).rs pix k))=rowN h (rvX h pix) (ffX h fl) p k (b+1):=by
 unfold rowN
 rw[List.range_succ_eq_map,List.map_cons,List.map_map]
 show ((ffX h fl p k:Nat):Int).toNat::nl ((List.range b).map _)=_
 unfold nl
 rw[List.map_map]
 refine congr (congrArg List.cons rfl) (List.map_congr_left (fun i _ => ?_))
 show (((rvX h pix p k i+256 - gssB h.K h.D (ffX h fl p k) (rvX h pix p k) (abvAtB h.W h.K h.D (psOf h.L p).cf (psOf h.L p).cs (psOf h.L p).rf (psOf h.L p).rs pix k) i) % 256:Nat):Int).toNat=bytP h _ _ p k (i+1)
 unfold bytP
 rw[if_neg (by omega),upw_abv]
 rfl
theorem passX_nl (h:Hd) (pix fl:List Int) (p:Nat) (hk:legal h.K h.D):∀ n,nl (passB h.W h.K h.D (psOf h.L p).cf (psOf h.L p).cs (psOf h.L p).rf (psOf h.L p).rs pix fl (befP h p) n)=passN h (rvX h pix) (ffX h fl) p n
 | 0=>rfl
 | n+1=>by
  have e:passB h.W h.K h.D (psOf h.L p).cf (psOf h.L p).cs (psOf h.L p).rf (psOf h.L p).rs pix fl (befP h p) (n+1)=passB h.W h.K h.D (psOf h.L p).cf (psOf h.L p).cs (psOf h.L p).rf (psOf h.L p).rs pix fl (befP h p) n++rowB h.K h.D (ffX h fl p n) (sizeP h p) (rvX h pix p n) (abvAtB h.W h.K h.D (psOf h.L p).cf (psOf h.L p).cs (psOf h.L p).rf (psOf h.L p).rs pix n):=by
   have es:sizeP h p=(within (psOf h.L p).cf (psOf h.L p).cs h.W*(chan h.K*h.D)+7) / 8:=by
    unfold sizeP
    have:bitsP h=chan h.K*h.D:=by show chn h.K*h.D=_;rw[chn_ch hk]
    rw[this];rfl
   rw[es];rfl
  rw[e,nl_app,passX_nl h pix fl p hk n,rowX_nl]
  unfold passN
  rw[List.range_succ,List.flatMap_append,List.flatMap_cons,List.flatMap_nil,List.append_nil]
theorem allX_nl (h:Hd) (pix fl:List Int) (hk:legal h.K h.D):∀ n,nl (allB h pix fl n)=(List.range' 0 n).flatMap (fpN h (rvX h pix) (ffX h fl))
 | 0=>rfl
 | n+1=>by
  show nl (allB h pix fl n++fpB h pix fl n)=_
  rw[nl_app,allX_nl h pix fl hk n,<- List.range_eq_range',<- List.range_eq_range',List.range_succ,List.flatMap_append,List.flatMap_cons,List.flatMap_nil,List.append_nil]
  congr 1
  unfold fpB fpN
  split
  ·rfl
  ·exact passX_nl h pix fl n hk (linesP h n)
theorem all_pos {h:Hd} (pl fl:List Int) (hW:1<=h.W) (hH:1<=h.H):∀ n,0<(allB h pl fl (n+1)).length
 | 0=>by
  show 0<([]++fpB h pl fl 0).length
  rw[List.nil_append]
  have c0:(psOf h.L 0).cf=0/\(psOf h.L 0).rf=0:=by
   unfold psOf
   split
   ·exact ⟨by decide,by decide⟩
   ·exact ⟨rfl,rfl⟩
  have c1:colsP h 0≠0:=by unfold colsP wthn;rw[c0.1,if_neg (by omega)];exact Nat.succ_ne_zero _
  have c2:0<linesP h 0:=by unfold linesP wthn;rw[c0.2,if_neg (by omega)];exact Nat.succ_pos _
  unfold fpB
  rw[if_neg c1,passB_len]
  exact Nat.mul_pos c2 (by omega)
 | n+1=>by
  show 0<(allB h pl fl (n+1)++fpB h pl fl (n+1)).length
  rw[List.length_append]
  have:=all_pos (h:=h) pl fl hW hH n
  omega
theorem chL_nl:∀ PL:List (List Int),nl (chL PL)=idatsN (PL.map nl)
 | []=>rfl
 | d::t=>by
  have e:chL (d::t)=chB idat d++chL t:=rfl
  have e2:idatsN ((d::t).map nl)=chN idat (nl d)++idatsN (t.map nl):=rfl
  rw[e,nl_app,nl_ch,chL_nl t,e2]
theorem fileX_nl (W H D K L:Nat) (pal clr:List Int) (PL:List (List Int)):nl (fileX W H D K L pal clr PL)=fileN W H D K L pal clr (PL.map nl):=by
 unfold fileX fileN headN
 rw[nl_app,nl_app,nl_app,nl_app,nl_app,nl_ch,nl_ch iend,nl_hd,chL_nl]
 simp only [List.append_assoc]
 rfl
theorem file_taken_t {W H K D L P V:Nat} {pal clr pix fl kl:List Int} {PL:List (List Int)} (ok:OkIm W H K D pal clr pix) (hL:L<=1) (hV:V<=7) (hP:1<=P) (hf:∀ y ∈ fl,0<=y/\y<=4) (hAb:isBytes (allB ⟨W,H,D,K,L⟩ pix fl (cntP L))) (hPL:PL≠[]) (hPb:isBytes PL.flatten) (hPl:PL.flatten.length<=65536) (hz:flat8 (nl PL.flatten)=strB V (blL P kl (allB ⟨W,H,D,K,L⟩ pix fl (cntP L)).length 0 (allB ⟨W,H,D,K,L⟩ pix fl (cntP L)))) :
  ∃ s',Rn rd0 (nl (fileX W H D K L pal clr PL)) s'/\s'.part=5/\s'.hd=⟨W,H,D,K,L⟩/\FinP s'.rw/\RdInv s'/\TabO K pal clr s'.tl/\RWL (Rw.start ⟨W,H,D,K,L⟩ (colN K pal)) ((List.range' 0 (cntP L)).flatMap (fpN ⟨W,H,D,K,L⟩ (rvX ⟨W,H,D,K,L⟩ pix) (ffX ⟨W,H,D,K,L⟩ fl))) s'.rw:=by
 have e:=env_x ok hL hf
 obtain ⟨r',g1,g2⟩:=rows_run e
 obtain ⟨A,hA⟩:∃ A,A=allB ⟨W,H,D,K,L⟩ pix fl (cntP L):=⟨_,rfl⟩
 have hnl:=allX_nl ⟨W,H,D,K,L⟩ pix fl ok.lg (cntP L)
 rw[<- hA] at hAb hz hnl
 have hsm:A.length<=2078:=by rw[hA];exact all_small (h:=⟨W,H,D,K,L⟩) ok.lg ok.w2 ok.h2 hL pix fl (cntP L) (Nat.le_refl _)
 have hc:=(cnt7 hL).1
 have hA0:A≠[]:=by
  intro q
  have:=all_pos (h:=⟨W,H,D,K,L⟩) pix fl ok.w1 ok.h1 (cntP L - 1)
  rw[show cntP L - 1+1=cntP L from by omega,<- hA,q] at this
  exact absurd this (by decide)
 have hd:=blL_data (P:=P) (kl:=kl) hP A.length 0 A (Nat.le_refl _)
 obtain ⟨l,T,rfl⟩:∃ l T,PL=l::T:=by
  cases PL with
  | nil=>exact absurd rfl hPL
  | cons a b=>exact ⟨a,b,rfl⟩
 have hflat:(nl l::T.map nl).flatten=nl (l::T).flatten:=by
  have:∀ T:List (List Int),(T.map nl).flatten=nl T.flatten:=fun T=>by
   induction T with
   | nil=>rfl
   | cons a b ih=>rw[List.map_cons,List.flatten_cons,ih,List.flatten_cons,nl_app]
  exact this (l::T)
 have hg:RwGood r':=g2.good
 obtain ⟨s',q1,q2,q3,q4,q5,q6⟩:=file_run (V:=V) (l:=nl l) (PL:=T.map nl) (BL:=blL P kl A.length 0 A) ok hL (by omega) (blL_ne _ _ _ hA0 (Nat.le_refl _)) (blL_ok hP _ _ _ hAb) (by rw[hd,nl_len];exact hsm) (r':=r') (by rw[hd,hnl];exact g1) hg g2.whole (fun m hm=>by
   have hm':m ∈ (l::T).map nl:=hm
   obtain ⟨y,hy,rfl⟩:=List.mem_map.1 hm'
   have hsub:∀ x ∈ y,x ∈ (l::T).flatten:=fun x hx=>List.mem_flatten.2 ⟨y,hy,hx⟩
   refine ⟨fun x hx => ?_,?_⟩
   ·obtain ⟨z,hz,rfl⟩:=List.mem_map.1 (show x ∈ y.map Int.toNat from hx)
    have:=hPb z (hsub z hz)
    omega
   ·rw[nl_len]
    have:=List.Sublist.length_le (List.sublist_flatten_of_mem hy)
    omega) (by rw[hflat];exact hz)
 refine ⟨s',?_,q2,q3,by rw[q4];exact g2,q5,q6,by rw[q4];exact g1⟩
 rw[fileX_nl]
 exact q1
theorem file_taken {W H K D L P V:Nat} {pal clr pix fl kl:List Int} {PL:List (List Int)} (ok:OkIm W H K D pal clr pix) (hL:L<=1) (hV:V<=7) (hP:1<=P) (hf:∀ y ∈ fl,0<=y/\y<=4) (hAb:isBytes (allB ⟨W,H,D,K,L⟩ pix fl (cntP L))) (hPL:PL≠[]) (hPb:isBytes PL.flatten) (hPl:PL.flatten.length<=65536) (hz:flat8 (nl PL.flatten)=strB V (blL P kl (allB ⟨W,H,D,K,L⟩ pix fl (cntP L)).length 0 (allB ⟨W,H,D,K,L⟩ pix fl (cntP L)))) :
  ∃ s',Rn rd0 (nl (fileX W H D K L pal clr PL)) s'/\s'.part=5/\s'.hd=⟨W,H,D,K,L⟩/\FinP s'.rw/\RdInv s':=by
 obtain ⟨s',a,b,c,d,e,_⟩:=file_taken_t (P:=P) (V:=V) (fl:=fl) (kl:=kl) ok hL hV hP hf hAb hPL hPb hPl hz
 exact ⟨s',a,b,c,d,e⟩
structure OkChB (L P V:Nat) (fl kl cl:List Int):Prop where
 l:L<=1
 p1:1<=P
 p2:P<=1048576
 v:V<=7
 f0:0<fl.length
 f1:fl.length<=64
 fb:∀ y ∈ fl,0<=y/\y<=4
 k0:0<kl.length
 k1:kl.length<=64
 kb:∀ y ∈ kl,0<=y/\y<=2
 c0:0<cl.length
 c1:cl.length<=64
 cb:∀ y ∈ cl,0<=y/\y<=65536
 cf:1<=cl.getD 0 0
theorem choice_b (L P V Z:Nat) (fp kp cp:Option Addr) (fc kc cc:Nat) (fl kl cl:List Int) (w:World) (h:OkChB L P V fl kl cl) (hZ:Z<=64) (hf:LAt w .i64 (.slice fp fl.length fc) fl) (hk:LAt w .i64 (.slice kp kl.length kc) kl) (hc:LAt w .i64 (.slice cp cl.length cc) cl) :
  Calls Tryz.prog 49 #[.agg #[.int .i64 (L:Int),.slice fp fl.length fc,.slice kp kl.length kc,.int .i64 (P:Int),.slice cp cl.length cc,.int .i64 (V:Int),.int .i64 (Z:Int)]] w fun r w'=>r = .returned (.int .i64 0)/\Kept w w':=by
 have hk0:Kept w (w.alloc (Obj.cells #[.int .i64 (L:Int),.slice fp fl.length fc,.slice kp kl.length kc,.int .i64 (P:Int),.slice cp cl.length cc,.int .i64 (V:Int),.int .i64 (Z:Int)] 35)):=Below.alloc (Below.refl _ _) (Nat.le_refl _) _
 have hch:∀ k u,#[Value.int .i64 (L:Int),.slice fp fl.length fc,.slice kp kl.length kc,.int .i64 (P:Int),.slice cp cl.length cc,.int .i64 (V:Int),.int .i64 (Z:Int)][k]? = some u->(w.alloc (Obj.cells #[.int .i64 (L:Int),.slice fp fl.length fc,.slice kp kl.length kc,.int .i64 (P:Int),.slice cp cl.length cc,.int .i64 (V:Int),.int .i64 (Z:Int)] 35)).cell? ⟨w.heap.size,k,none⟩=some u:=by
  intro k u hu
  rw[World.cell?_alloc_at _ _ _ _ rfl];exact hu
 have hs0:w.heap.size<(w.alloc (Obj.cells #[.int .i64 (L:Int),.slice fp fl.length fc,.slice kp kl.length kc,.int .i64 (P:Int),.slice cp cl.length cc,.int .i64 (V:Int),.int .i64 (Z:Int)] 35)).heap.size:=by simp
 have HC:Hid (∀ W':World,Kept (w.alloc (Obj.cells #[.int .i64 (L:Int),.slice fp fl.length fc,.slice kp kl.length kc,.int .i64 (P:Int),.slice cp cl.length cc,.int .i64 (V:Int),.int .i64 (Z:Int)] 35)) W'->(W'.cell? ⟨w.heap.size,0,none⟩=some (.int .i64 (L:Int))/\W'.cell? ⟨w.heap.size,1,none⟩=some (.slice fp fl.length fc)/\W'.cell? ⟨w.heap.size,2,none⟩=some (.slice kp kl.length kc)/\W'.cell? ⟨w.heap.size,3,none⟩=some (.int .i64 (P:Int))/\W'.cell? ⟨w.heap.size,4,none⟩=some (.slice cp cl.length cc)/\W'.cell? ⟨w.heap.size,5,none⟩=some (.int .i64 (V:Int))/\W'.cell? ⟨w.heap.size,6,none⟩=some (.int .i64 (Z:Int)))):=fun W' k=>⟨(k.cell (p:=⟨w.heap.size,0,none⟩) hs0).trans (hch 0 _ rfl),(k.cell (p:=⟨w.heap.size,1,none⟩) hs0).trans (hch 1 _ rfl),(k.cell (p:=⟨w.heap.size,2,none⟩) hs0).trans (hch 2 _ rfl),(k.cell (p:=⟨w.heap.size,3,none⟩) hs0).trans (hch 3 _ rfl),(k.cell (p:=⟨w.heap.size,4,none⟩) hs0).trans (hch 4 _ rfl),(k.cell (p:=⟨w.heap.size,5,none⟩) hs0).trans (hch 5 _ rfl),(k.cell (p:=⟨w.heap.size,6,none⟩) hs0).trans (hch 6 _ rfl)⟩
 have FB:Hid (∀ (W':World) (n e:Int),0<=n->n<e->Calls Tryz.prog 64 #[.int .i64 n,.int .i64 e] W' fun r w'=>r = .returned (.bool true)/\w'=W'):=fun W' n e h0 h1=>below_any n e W' h0 h1
 have FL:Hid (∀ (W':World) (p:Option Addr) (n c:Nat),1<=n->n<=64->Calls Tryz.prog 65 #[.slice p n c] W' fun r w'=>r = .returned (.bool true)/\w'=W'):=fun W' p n c h0 h1=>isList_any p n c W' h0 h1
 have FA1:Hid (∀ W',Kept (w.alloc (Obj.cells #[.int .i64 (L:Int),.slice fp fl.length fc,.slice kp kl.length kc,.int .i64 (P:Int),.slice cp cl.length cc,.int .i64 (V:Int),.int .i64 (Z:Int)] 35)) W'->Calls Tryz.prog 66 #[.slice fp fl.length fc,.int .i64 5] W' fun r w'=>r = .returned (.bool true)/\Kept W' w'):=fun W' k=>allBelow_any _ fl _ _ ((hf.kept hk0).kept k) (by have:=h.f1;omega) (fun y hy=>by have:=h.fb y hy;omega)
 have FA2:Hid (∀ W',Kept (w.alloc (Obj.cells #[.int .i64 (L:Int),.slice fp fl.length fc,.slice kp kl.length kc,.int .i64 (P:Int),.slice cp cl.length cc,.int .i64 (V:Int),.int .i64 (Z:Int)] 35)) W'->Calls Tryz.prog 66 #[.slice kp kl.length kc,.int .i64 3] W' fun r w'=>r = .returned (.bool true)/\Kept W' w'):=fun W' k=>allBelow_any _ kl _ _ ((hk.kept hk0).kept k) (by have:=h.k1;omega) (fun y hy=>by have:=h.kb y hy;omega)
 have FC:Hid (∀ W',Kept (w.alloc (Obj.cells #[.int .i64 (L:Int),.slice fp fl.length fc,.slice kp kl.length kc,.int .i64 (P:Int),.slice cp cl.length cc,.int .i64 (V:Int),.int .i64 (Z:Int)] 35)) W'->Calls Tryz.prog 67 #[.slice cp cl.length cc] W' fun r w'=>r = .returned (.bool true)/\Kept W' w'):=fun W' k=>isCuts_any _ cl _ ((hc.kept hk0).kept k) h.c0 (by have:=h.c1;omega) (fun y hy=>(h.cb y hy).1) h.cf
 obtain ⟨hL,hP1,hP2,hV,hf0,hf1,_,hk0',hk1',_,hc0,hc1,_,_⟩:=h
 clear hf hk hc
 have p1:(1:Int)<=(P:Int):=by omega
 replace hk0:Hid _:=hk0
 replace hch:Hid _:=hch
 go_enter Tryz.func49,Tryz.ntmps49
 go_wp2_with fail
 generalize (w.alloc (Obj.cells #[.int .i64 (L:Int),.slice fp fl.length fc,.slice kp kl.length kc,.int .i64 (P:Int),.slice cp cl.length cc,.int .i64 (V:Int),.int .i64 (Z:Int)] 35))=w0 at *
 obtain ⟨z0,z1,z2,z3,z4,z5,z6⟩:=HC.out w0 (Kept.refl _)
 refine (FB.out _ (L:Int) 2 (by omega) (by omega)).mono ?_
 rintro r w0 ⟨rfl,rfl⟩
 go_wp2_with fail
 refine (FL.out _ _ _ _ (by omega) (by omega)).mono ?_
 rintro r w0 ⟨rfl,rfl⟩
 go_wp2_with fail
 refine (FA1.out _ (Kept.refl _)).mono ?_
 rintro r w1 ⟨rfl,hk1⟩
 have HK1:Hid (Kept w0 w1):=hk1
 clear hk1
 clear z0 z1 z2 z3 z4 z5 z6
 obtain ⟨z0,z1,z2,z3,z4,z5,z6⟩:=HC.out w1 HK1.out
 go_wp2_with fail
 refine (FL.out _ _ _ _ (by omega) (by omega)).mono ?_
 rintro r w1 ⟨rfl,rfl⟩
 go_wp2_with fail
 refine (FA2.out _ HK1.out).mono ?_
 rintro r w2 ⟨rfl,hk2⟩
 have HK2:Hid (Kept w0 w2):=HK1.out.trans hk2
 clear hk2
 clear z0 z1 z2 z3 z4 z5 z6
 obtain ⟨z0,z1,z2,z3,z4,z5,z6⟩:=HC.out w2 HK2.out
 go_wp2_with fail
 refine (FL.out _ _ _ _ (by omega) (by omega)).mono ?_
 rintro r w2 ⟨rfl,rfl⟩
 go_wp2_with fail
 refine (FC.out _ HK2.out).mono ?_
 rintro r w3 ⟨rfl,hk3⟩
 have HK3:Hid (Kept w0 w3):=HK2.out.trans hk3
 clear hk3
 clear z0 z1 z2 z3 z4 z5 z6
 obtain ⟨z0,z1,z2,z3,z4,z5,z6⟩:=HC.out w3 HK3.out
 go_wp2_with fail
 refine (FB.out _ (V:Int) 8 (by omega) (by omega)).mono ?_
 rintro r w3 ⟨rfl,rfl⟩
 go_wp2_with fail
 refine (FB.out _ (Z:Int) 65 (by omega) (by omega)).mono ?_
 rintro r w3 ⟨rfl,rfl⟩
 go_wp2
 go_ret
 exact ⟨rfl,Kept.trans hk0.out HK3.out⟩
structure FileOk (W H D K L P V:Nat) (pal clr pix fl kl:List Int) (PL:List (List Int)):Prop where
 ne:PL≠[]
 byte:isBytes PL.flatten
 len:PL.flatten.length<=65536
 all:(fileX W H D K L pal clr PL).length<=90000000
 str:flat8 (nl PL.flatten)=strB V (blL P kl (allB ⟨W,H,D,K,L⟩ pix fl (cntP L)).length 0 (allB ⟨W,H,D,K,L⟩ pix fl (cntP L)))
theorem allB_bytes {h:Hd} {pl fl:List Int} (e:QEnv h 0 (rvX h pl) (ffX h fl)\/True) (hf:∀ y ∈ fl,0<=y/\y<=4):∀ n,isBytes (allB h pl fl n)
 | 0=>isBytes.nil
 | n+1=>by
  intro y hy
  rw[show allB h pl fl (n+1)=allB h pl fl n++fpB h pl fl n from rfl,List.mem_append] at hy
  rcases hy with hy | hy
  ·exact allB_bytes e hf n y hy
  ·unfold fpB at hy
   split at hy
   ·cases hy
   ·revert hy
    generalize linesP h n=m
    induction m with
    | zero=>intro hy;cases hy
    | succ m ih=>
     intro hy
     rw[passB,List.mem_append] at hy
     rcases hy with hy | hy
     ·exact ih hy
     ·unfold rowB at hy
      rw[List.mem_cons] at hy
      rcases hy with rfl | hy
      ·have:=getD_or (P:=fun y=>0<=y/\y<=4) hf (by omega) ((befP h n+m) % fl.length)
       omega
      ·obtain ⟨i,_,rfl⟩:=List.mem_map.1 hy
       unfold outB
       omega
theorem encode_x (a:Option Addr) (W H K D L P V Z:Nat) (pp qp xp fp kp cp:Option Addr) (pc qc xc fc kc cc:Nat) (pal clr pix fl kl cl:List Int) (w:World) (hI:OkIm W H K D pal clr pix) (hC:OkChB L P V fl kl cl) (hZ:Z<=64) (hG:GrdAt w)
  (hp:LAt w .i64 (.slice pp pal.length pc) pal) (hq:LAt w .i64 (.slice qp clr.length qc) clr) (hx:LAt w .i64 (.slice xp pix.length xc) pix) (hf:LAt w .i64 (.slice fp fl.length fc) fl) (hkk:LAt w .i64 (.slice kp kl.length kc) kl) (hcc:LAt w .i64 (.slice cp cl.length cc) cl)
  (hxb:∀ g,sliceBlock (.slice xp pix.length xc)=some g->g<w.heap.size) (hfb:∀ g,sliceBlock (.slice fp fl.length fc)=some g->g<w.heap.size) (hcb:∀ g,sliceBlock (.slice cp cl.length cc)=some g->g<w.heap.size) :
  Calls Tryz.prog 38 #[.pointer a,.agg #[.int .i64 (W:Int),.int .i64 (H:Int),.int .i64 (K:Int),.int .i64 (D:Int),.slice pp pal.length pc,.slice qp clr.length qc,.slice xp pix.length xc],.agg #[.int .i64 (L:Int),.slice fp fl.length fc,.slice kp kl.length kc,.int .i64 (P:Int),.slice cp cl.length cc,.int .i64 (V:Int),.int .i64 (Z:Int)]] w fun r w'=>∃ PL,r = .returned (.tuple #[.string (strOfNums (fileX W H D K L pal clr PL)),.int .i64 0])/\FileOk W H D K L P V pal clr pix fl kl PL/\Kept w w':=by
 have hRlb:(allB ⟨W,H,D,K,L⟩ pix fl (cntP L)).length<=2078:=all_small (h:=⟨W,H,D,K,L⟩) hI.lg hI.w2 hI.h2 hC.l pix fl (cntP L) (Nat.le_refl _)
 have hRl0:0<(allB ⟨W,H,D,K,L⟩ pix fl (cntP L)).length:=by
  have:=all_pos (h:=⟨W,H,D,K,L⟩) pix fl hI.w1 hI.h1 (cntP L - 1)
  rw[show cntP L - 1+1=cntP L from by have:=(cnt7 hC.l).1;omega] at this
  exact this
 have hk0:Kept w ((w.alloc (Obj.cells #[.int .i64 (W:Int),.int .i64 (H:Int),.int .i64 (K:Int),.int .i64 (D:Int),.slice pp pal.length pc,.slice qp clr.length qc,.slice xp pix.length xc] 33)).alloc (Obj.cells #[.int .i64 (L:Int),.slice fp fl.length fc,.slice kp kl.length kc,.int .i64 (P:Int),.slice cp cl.length cc,.int .i64 (V:Int),.int .i64 (Z:Int)] 35)):=Below.alloc (Below.alloc (Below.refl _ _) (Nat.le_refl _) _) (by simp) _
 have hs0:((w.alloc (Obj.cells #[.int .i64 (W:Int),.int .i64 (H:Int),.int .i64 (K:Int),.int .i64 (D:Int),.slice pp pal.length pc,.slice qp clr.length qc,.slice xp pix.length xc] 33)).alloc (Obj.cells #[.int .i64 (L:Int),.slice fp fl.length fc,.slice kp kl.length kc,.int .i64 (P:Int),.slice cp cl.length cc,.int .i64 (V:Int),.int .i64 (Z:Int)] 35)).heap.size=w.heap.size+2:=by simp
 have hA0:∀ W':World,Kept ((w.alloc (Obj.cells #[.int .i64 (W:Int),.int .i64 (H:Int),.int .i64 (K:Int),.int .i64 (D:Int),.slice pp pal.length pc,.slice qp clr.length qc,.slice xp pix.length xc] 33)).alloc (Obj.cells #[.int .i64 (L:Int),.slice fp fl.length fc,.slice kp kl.length kc,.int .i64 (P:Int),.slice cp cl.length cc,.int .i64 (V:Int),.int .i64 (Z:Int)] 35)) W'->W'.cell? ⟨w.heap.size,0,none⟩=some (.int .i64 (W:Int))/\W'.cell? ⟨w.heap.size,1,none⟩=some (.int .i64 (H:Int))/\W'.cell? ⟨w.heap.size,2,none⟩=some (.int .i64 (K:Int))/\W'.cell? ⟨w.heap.size,3,none⟩=some (.int .i64 (D:Int))/\W'.cell? ⟨w.heap.size,4,none⟩=some (.slice pp pal.length pc)/\W'.cell? ⟨w.heap.size,5,none⟩=some (.slice qp clr.length qc)/\W'.cell? ⟨w.heap.size,6,none⟩=some (.slice xp pix.length xc)/\W'.cell? ⟨w.heap.size+1,0,none⟩=some (.int .i64 (L:Int))/\W'.cell? ⟨w.heap.size+1,1,none⟩=some (.slice fp fl.length fc)/\W'.cell? ⟨w.heap.size+1,2,none⟩=some (.slice kp kl.length kc)/\W'.cell? ⟨w.heap.size+1,3,none⟩=some (.int .i64 (P:Int))/\W'.cell? ⟨w.heap.size+1,4,none⟩=some (.slice cp cl.length cc)/\W'.cell? ⟨w.heap.size+1,5,none⟩=some (.int .i64 (V:Int))/\W'.cell? ⟨w.heap.size+1,6,none⟩=some (.int .i64 (Z:Int)):=by
  intro W' k
  have i1:∀ j,W'.cell? ⟨w.heap.size,j,none⟩=#[Value.int .i64 (W:Int),.int .i64 (H:Int),.int .i64 (K:Int),.int .i64 (D:Int),.slice pp pal.length pc,.slice qp clr.length qc,.slice xp pix.length xc][j]? := fun j=>by
   rw[k.cell (p:=⟨w.heap.size,j,none⟩) (by show w.heap.size<_;omega),World.cell?_alloc_lt _ _ _ (by simp),World.cell?_alloc_at _ _ _ _ rfl]
  have i2:∀ j,W'.cell? ⟨w.heap.size+1,j,none⟩=#[Value.int .i64 (L:Int),.slice fp fl.length fc,.slice kp kl.length kc,.int .i64 (P:Int),.slice cp cl.length cc,.int .i64 (V:Int),.int .i64 (Z:Int)][j]? := fun j=>by
   rw[k.cell (p:=⟨w.heap.size+1,j,none⟩) (by show w.heap.size+1<_;omega),World.cell?_alloc_at _ _ _ _ (by simp)]
  exact ⟨i1 0,i1 1,i1 2,i1 3,i1 4,i1 5,i1 6,i2 0,i2 1,i2 2,i2 3,i2 4,i2 5,i2 6⟩
 have F1:Hid (∀ W':World,Kept ((w.alloc (Obj.cells #[.int .i64 (W:Int),.int .i64 (H:Int),.int .i64 (K:Int),.int .i64 (D:Int),.slice pp pal.length pc,.slice qp clr.length qc,.slice xp pix.length xc] 33)).alloc (Obj.cells #[.int .i64 (L:Int),.slice fp fl.length fc,.slice kp kl.length kc,.int .i64 (P:Int),.slice cp cl.length cc,.int .i64 (V:Int),.int .i64 (Z:Int)] 35)) W'->Calls Tryz.prog 48 #[.agg #[.int .i64 (W:Int),.int .i64 (H:Int),.int .i64 (K:Int),.int .i64 (D:Int),.slice pp pal.length pc,.slice qp clr.length qc,.slice xp pix.length xc]] W' fun r w'=>r = .returned (.int .i64 0)/\Kept W' w'):=fun W' k=>image_any W H K D pp qp xp pc qc xc pal clr pix W' hI ((hp.kept hk0).kept k) ((hq.kept hk0).kept k) ((hx.kept hk0).kept k)
 have F2:Hid (∀ W':World,Kept ((w.alloc (Obj.cells #[.int .i64 (W:Int),.int .i64 (H:Int),.int .i64 (K:Int),.int .i64 (D:Int),.slice pp pal.length pc,.slice qp clr.length qc,.slice xp pix.length xc] 33)).alloc (Obj.cells #[.int .i64 (L:Int),.slice fp fl.length fc,.slice kp kl.length kc,.int .i64 (P:Int),.slice cp cl.length cc,.int .i64 (V:Int),.int .i64 (Z:Int)] 35)) W'->Calls Tryz.prog 49 #[.agg #[.int .i64 (L:Int),.slice fp fl.length fc,.slice kp kl.length kc,.int .i64 (P:Int),.slice cp cl.length cc,.int .i64 (V:Int),.int .i64 (Z:Int)]] W' fun r w'=>r = .returned (.int .i64 0)/\Kept W' w'):=fun W' k=>choice_b L P V Z fp kp cp fc kc cc fl kl cl W' hC hZ ((hf.kept hk0).kept k) ((hkk.kept hk0).kept k) ((hcc.kept hk0).kept k)
 have F3:Hid (∀ W':World,Kept ((w.alloc (Obj.cells #[.int .i64 (W:Int),.int .i64 (H:Int),.int .i64 (K:Int),.int .i64 (D:Int),.slice pp pal.length pc,.slice qp clr.length qc,.slice xp pix.length xc] 33)).alloc (Obj.cells #[.int .i64 (L:Int),.slice fp fl.length fc,.slice kp kl.length kc,.int .i64 (P:Int),.slice cp cl.length cc,.int .i64 (V:Int),.int .i64 (Z:Int)] 35)) W'->Calls Tryz.prog 50 #[.agg #[.int .i64 (W:Int),.int .i64 (H:Int),.int .i64 (K:Int),.int .i64 (D:Int),.slice pp pal.length pc,.slice qp clr.length qc,.slice xp pix.length xc],.agg #[.int .i64 (L:Int),.slice fp fl.length fc,.slice kp kl.length kc,.int .i64 (P:Int),.slice cp cl.length cc,.int .i64 (V:Int),.int .i64 (Z:Int)]] W' fun r w'=>∃ PL,r = .returned (.string (strOfNums (fileX W H D K L pal clr PL)))/\FileOk W H D K L P V pal clr pix fl kl PL/\Kept W' w'):=by
  intro W' k
  have kk:=Kept.trans hk0 k
  refine (write_x W H K D L P V (Z:Int) pp qp xp fp kp cp pc qc xc fc kc cc pal clr pix fl kl cl (allB ⟨W,H,D,K,L⟩ pix fl (cntP L)) W' hI hC.l hC.k0 hC.k1 hC.kb hC.c0 hC.c1 hC.cb hC.cf hC.p1 hC.p2 hRl0 (by omega) hC.v (hp.kept kk) (hq.kept kk) (hkk.kept kk) (hcc.kept kk) (fun g hg=>Nat.lt_of_lt_of_le (hcb g hg) kk.size) ?_).mono (fun r w' ⟨PL,h1,h2,h3,h4,h5,h6,h7⟩=>⟨PL,h1,⟨h2,h3,h4,h5,h6⟩,h7⟩)
  intro W0 k0
  have k2:=Kept.trans kk k0
  exact bytes_x W H D K L (.slice xp pix.length xc) (.slice fp fl.length fc) pix fl W0 hI.lg hI.w1 hI.h1 hI.w2 hI.h2 hC.l (hG.kept k2) (hx.kept k2) (fun g hg=>Nat.lt_of_lt_of_le (hxb g hg) k2.size) hI.pixL (fun y hy=>by
   have h1:=hI.pixB y hy
   have h2:(if K=3 then pal.length / 3 else 2^D:Nat)<=65536:=by
    split
    ·rename_i e
     obtain ⟨n,n1,n2,n3⟩:=hI.pal3 e
     have:=pow_le hI.lg.d
     omega
    ·exact pow_le hI.lg.d
   omega) (hf.kept k2) (fun g hg=>Nat.lt_of_lt_of_le (hfb g hg) k2.size) hC.f0 hC.f1 hC.fb
 clear hp hq hx hf hkk hcc hxb hfb hcb hG hI hC hRlb hRl0
 replace hk0:Hid _:=hk0
 replace hA0:Hid _:=hA0
 go_enter Tryz.func38,Tryz.ntmps38
 go_wp2_with fail
 generalize ((w.alloc (Obj.cells #[.int .i64 (W:Int),.int .i64 (H:Int),.int .i64 (K:Int),.int .i64 (D:Int),.slice pp pal.length pc,.slice qp clr.length qc,.slice xp pix.length xc] 33)).alloc (Obj.cells #[.int .i64 (L:Int),.slice fp fl.length fc,.slice kp kl.length kc,.int .i64 (P:Int),.slice cp cl.length cc,.int .i64 (V:Int),.int .i64 (Z:Int)] 35))=w0 at *
 refine (F1.out _ (Kept.refl _)).mono ?_
 rintro r w1 ⟨rfl,hk1⟩
 obtain ⟨z0,z1,z2,z3,z4,z5,z6,z7,z8,z9,z10,z11,z12,z13⟩:=hA0.out w1 hk1
 have HK1:Hid (Kept w0 w1):=hk1
 clear hk1
 go_wp2_with fail
 refine (F2.out _ HK1.out).mono ?_
 rintro r w2 ⟨rfl,hk2⟩
 have HK2:Hid (Kept w0 w2):=HK1.out.trans hk2
 clear hk2 z0 z1 z2 z3 z4 z5 z6 z7 z8 z9 z10 z11 z12 z13
 obtain ⟨z0,z1,z2,z3,z4,z5,z6,z7,z8,z9,z10,z11,z12,z13⟩:=hA0.out w2 HK2.out
 go_wp2_with fail
 refine (F3.out _ HK2.out).mono ?_
 rintro r w3 ⟨PL,rfl,hfo,hk3⟩
 have HFO:Hid (FileOk W H D K L P V pal clr pix fl kl PL):=hfo
 clear hfo
 obtain ⟨str,hstr⟩:∃ str,str=strOfNums (fileX W H D K L pal clr PL):=⟨_,rfl⟩
 rw[<- hstr]
 replace hstr:Hid _:=hstr
 have HK3:Hid (Kept w w3):=Kept.trans hk0.out (HK2.out.trans hk3)
 clear hk3
 go_wp2
 go_ret2
 exact ⟨PL,by rw[<- hstr.out];rfl,HFO.out,HK3.out⟩
