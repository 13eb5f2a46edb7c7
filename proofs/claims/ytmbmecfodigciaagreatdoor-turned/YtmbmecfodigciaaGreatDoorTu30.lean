import Derived.Test.YtmbmecfodigciaaGreatDoorTu29
import Derived.Test.YtmbmecfodigciaaGreatDoorTu19
import Derived.Test.YtmbmecfodigciaaGreatDoorTu20
import Derived.Test.YtmbmecfodigciaaGreatDoorTu00
namespace Go.Proofs.YtmbmecfodigciaaGreatDoor
open Go.RowKit Px
set_option linter.unusedSimpArgs false
set_option linter.unusedVariables false
theorem in_pix (W H C i c k:Nat) (h1:i<H) (h2:c<W) (h3:k<C):((0+i*1)*W+(0+c*1))*C+k<W*H*C:=by
 have e1:(i+1)*W<=H*W:=Nat.mul_le_mul_right _ h1
 rw[Nat.add_mul,Nat.one_mul] at e1
 have e2:(i*W+c+1)*C<=H*W*C:=Nat.mul_le_mul_right _ (by omega)
 rw[Nat.add_mul _ 1,Nat.one_mul] at e2
 rw[Nat.mul_comm W H,Nat.zero_add,Nat.mul_one,Nat.zero_add,Nat.mul_one]
 omega
theorem ZR.split {a b:List Nat} {st st':St} {r r':Rw} (h:ZR st r (a++b) st' r'):∃ s1 r1,ZR st r a s1 r1/\ZR s1 r1 b st' r':=by
 have hb:=h.br
 rw[flat8_app] at hb
 obtain ⟨s1,r1,h1,h2⟩:=hb.split (by omega)
 rw[flat8_len,show (0+8*a.length) % 8=0 from by omega] at h2
 refine ⟨s1,r1,⟨h1,fun q => ?_⟩,⟨h2,h.fin⟩⟩
 cases b with
 | nil=>
  obtain ⟨e1,e2⟩:=h2
  subst e1 e2
  exact h.fin q
 | cons y l=>
  rw[flat8_cons] at h2
  exact absurd q h2.1
def idatsN (PL:List (List Nat)):List Nat:=PL.flatMap (chN idat)
theorem idats_more:∀ (PL:List (List Nat)) {s:Rd} {st st':St} {r r':Rw} {h:Hd} {sp:Bool},BD s st r h sp->1<=h.W->(h.K=3->sp=true)->(∀ l ∈ PL,(∀ x ∈ l,x<256)/\l.length<1000000)->ZR st r PL.flatten st' r'->∃ s',Rn s (idatsN PL) s'/\BD s' st' r' h sp
 | [],s,st,st',r,r',h,sp,b,_,_,_,z=>by
  obtain ⟨e1,e2⟩:=z.nil
  subst e1 e2
  exact ⟨s,rfl,b⟩
 | l::PL,s,st,st',r,r',h,sp,b,hW,hK,hb,z=>by
  rw[List.flatten_cons] at z
  obtain ⟨s1,r1,z1,z2⟩:=z.split
  obtain ⟨h1,h2⟩:=hb l (by simp)
  obtain ⟨a,g1,b1⟩:=idat_more b hW hK h1 h2 z1
  obtain ⟨c,g2,b2⟩:=idats_more PL b1 hW hK (fun m hm=>hb m (by simp [hm])) z2
  refine ⟨c,?_,b2⟩
  unfold idatsN
  rw[List.flatMap_cons]
  exact g1.append g2
theorem idats_run {l:List Nat} {PL:List (List Nat)} {s:Rd} {st':St} {r':Rw} {h:Hd} {sp sc:Bool} {C:Nat} (b:Bnd s h sp sc C) (hW:1<=h.W) (hK:h.K=3->sp=true) (hb:∀ m ∈ l::PL,(∀ x ∈ m,x<256)/\m.length<1000000) (z:ZR St.start (Rw.start h C) (l::PL).flatten st' r'):∃ s',Rn s (idatsN (l::PL)) s'/\BD s' st' r' h sp:=by
 rw[List.flatten_cons] at z
 obtain ⟨s1,r1,z1,z2⟩:=z.split
 obtain ⟨h1,h2⟩:=hb l (by simp)
 obtain ⟨a,g1,b1⟩:=idat_first b hW hK h1 h2 z1
 obtain ⟨c,g2,b2⟩:=idats_more PL b1 hW hK (fun m hm=>hb m (by simp [hm])) z2
 refine ⟨c,?_,b2⟩
 unfold idatsN
 rw[List.flatMap_cons]
 exact g1.append g2
theorem two_get:∀ (l:List Int) (i:Nat),i<l.length->(nl (twoB l)).getD (2*i) 0=(l.getD i 0 / 256).toNat/\(nl (twoB l)).getD (2*i+1) 0=(l.getD i 0 % 256).toNat
 | [],i,h=>by simp at h
 | x::l,0,_=>⟨rfl,rfl⟩
 | x::l,i+1,h=>by
  have ih:=two_get l i (by simpa using h)
  have e:nl (twoB (x::l))=(x / 256).toNat::(x % 256).toNat::nl (twoB l):=rfl
  rw[e,show 2*(i+1)=2*i+1+1 from by omega,List.getD_cons_succ,List.getD_cons_succ,List.getD_cons_succ,List.getD_cons_succ,List.getD_cons_succ]
  exact ih
theorem two_ok {l:List Int} (h:∀ y ∈ l,0<=y/\y<65536):isBytes (twoB l):=by
 intro y hy
 unfold twoB at hy
 rw[List.mem_flatMap] at hy
 obtain ⟨x,hx,hy⟩:=hy
 have:=h x hx
 simp only [List.mem_cons,List.not_mem_nil,or_false] at hy
 omega
def colN (K:Nat) (pal:List Int):Nat:=if K=3 then pal.length / 3 else 0
theorem colN_le {W H K D:Nat} {pal clr pix:List Int} (ok:OkIm W H K D pal clr pix):colN K pal<=256:=by
 unfold colN
 split
 ·rename_i h3
  obtain ⟨n,a,b,c⟩:=ok.pal3 h3
  have hd:D=1\/D=2\/D=4\/D=8:=by have:=ok.lg;unfold legal at this;omega
  have:=pow8_le hd
  omega
 ·omega
def headN (W H D K L:Nat) (pal clr:List Int):List Nat:=nl signI++(chN ihdr (hdN W H D K L)++(nl (palB pal)++nl (clrB K clr)))
structure TabO (K:Nat) (pal clr:List Int) (t:Tl):Prop where
 pal:∀ i,i<pal.length->t.pal i=(pal.getD i 0).toNat
 clears:t.clears=if K=3 then clr.length else 2*clr.length
 clr3:K=3->∀ i,i<clr.length->t.clear i=(clr.getD i 0).toNat
 clrN:K≠3->∀ i,i<clr.length->t.smp i=(clr.getD i 0).toNat
theorem nl_get (l:List Int) (i:Nat) (h:i<l.length):(nl l).getD i 0=(l.getD i 0).toNat:=by
 unfold nl
 rw[List.getD_eq_getElem?_getD,List.getD_eq_getElem?_getD,List.getElem?_map,List.getElem?_eq_getElem h];rfl
theorem pal_stage {W H K D L:Nat} {pal clr pix:List Int} {s1:Rd} (ok:OkIm W H K D pal clr pix) (b1:Bnd s1 ⟨W,H,D,K,L⟩ false false 0) (t1:s1.tl=tl0):∃ s2,Rn s1 (nl (palB pal)) s2/\Bnd s2 ⟨W,H,D,K,L⟩ (decide (K=3)) false (colN K pal)/\(∀ i,i<pal.length->s2.tl.pal i=(pal.getD i 0).toNat)/\s2.tl.clears=0:=by
 by_cases k3:K=3
 ·obtain ⟨m,a1,a2,a3⟩:=ok.pal3 k3
  have hd:D=1\/D=2\/D=4\/D=8:=by have:=ok.lg;unfold legal at this;omega
  have:=pow8_le hd
  obtain ⟨s2,g2,b2,t2⟩:=plte_gt (l:=nl pal) (n:=m) b1 ok.w1 k3 (by rw[nl_len];exact a2) a1 (by omega) a3 (nl_lt ok.palB)
  refine ⟨s2,?_,?_,fun i hi => ?_,by rw[t2,t1];rfl⟩
  ·unfold palB;rw[if_neg (by omega),nl_ch];exact g2
  ·rw[decide_eq_true k3]
   unfold colN;rw[if_pos k3,show pal.length / 3=m from by omega];exact b2
  ·rw[t2]
   show upN _ _ _ i=_
   unfold upN;rw[if_pos (by omega)];exact nl_get pal i hi
 ·have:=ok.palN k3
  subst this
  refine ⟨s1,rfl,?_,fun i hi=>absurd hi (by show ¬ i<0;omega),by rw[t1];rfl⟩
  rw[decide_eq_false k3]
  unfold colN;rw[if_neg k3];exact b1
theorem clr_stage {W H K D L:Nat} {pal clr pix:List Int} {s2:Rd} (ok:OkIm W H K D pal clr pix) (b2:Bnd s2 ⟨W,H,D,K,L⟩ (decide (K=3)) false (colN K pal)) (u1:∀ i,i<pal.length->s2.tl.pal i=(pal.getD i 0).toNat) (u2:s2.tl.clears=0):∃ s3 sc,Rn s2 (nl (clrB K clr)) s3/\Bnd s3 ⟨W,H,D,K,L⟩ (decide (K=3)) sc (colN K pal)/\TabO K pal clr s3.tl:=by
 rcases ok.clr with h0 | ⟨k02,l2,y2⟩ | ⟨k3,l1,l2,y2⟩
 ·subst h0
  exact ⟨s2,_,rfl,b2,u1,by rw[u2];show 0=if K=3 then 0 else 2*0;split<;>rfl,fun _ i hi=>absurd hi (by show ¬ i<0;omega),fun _ i hi=>absurd hi (by show ¬ i<0;omega)⟩
 ·have hc:=chan_le (K:=K)
  have hp:=pow_le ok.lg.d
  have hcc:chn K=chan K:=by rcases ok.lg.k with rfl | rfl | rfl | rfl | rfl<;>rfl
  have hcl:∀ i,i<chn K->(nl (twoB clr)).getD (2*i) 0*256+(nl (twoB clr)).getD (2*i+1) 0<2^D:=fun i hi=>by
   rw[hcc] at hi
   obtain ⟨t1,t2⟩:=two_get clr i (by omega)
   have:=y2 _ (getD_mem (show i<clr.length by omega))
   rw[t1,t2];omega
  obtain ⟨s3,g3,b3,t3⟩:=trns_gt (l:=nl (twoB clr)) (n:=2*chan K) b2 ok.w1 (by rw[nl_len,twoB_len,l2]) (by omega) (by omega) (nl_lt (two_ok (fun y hy=>by have:=y2 y hy;omega))) (Or.inl ⟨k02,by show 2*chan K=2*chn K;rw[hcc],hcl⟩)
  refine ⟨s3,_,?_,b3,by rw[t3];exact u1,?_,fun k=>by omega,fun _ i hi => ?_⟩
  ·unfold clrB;rw[if_neg (by omega),if_neg (by omega),nl_ch];exact g3
  ·rw[t3,if_neg (by omega),l2]
  ·obtain ⟨q1,q2⟩:=two_get clr i hi
   have:=y2 _ (getD_mem hi)
   rw[t3]
   show upN _ _ _ (2*i)*256+upN _ _ _ (2*i+1)=_
   unfold upN
   rw[if_pos (by omega),if_pos (by omega),q1,q2]
   omega
 ·obtain ⟨m,a1,a2,a3⟩:=ok.pal3 k3
  have hd:D=1\/D=2\/D=4\/D=8:=by have:=ok.lg;unfold legal at this;omega
  have:=pow8_le hd
  obtain ⟨s3,g3,b3,t3⟩:=trns_gt (l:=nl clr) (n:=clr.length) b2 ok.w1 (nl_len _) l1 (by omega) (nl_lt y2) (Or.inr ⟨k3,decide_eq_true k3,by unfold colN;rw[if_pos k3];exact l2⟩)
  refine ⟨s3,_,?_,b3,by rw[t3];exact u1,by rw[t3,if_pos k3],fun _ i hi => ?_,fun k=>absurd k3 k⟩
  ·unfold clrB;rw[if_neg (by omega),if_pos (by omega),nl_ch];exact g3
  ·rw[t3]
   show upN _ _ _ i=_
   unfold upN
   rw[if_pos hi];exact nl_get clr i hi
theorem head_run {W H K D L:Nat} {pal clr pix:List Int} (ok:OkIm W H K D pal clr pix) (hL:L<=1):∃ s sc,Rn rd0 (headN W H D K L pal clr) s/\Bnd s ⟨W,H,D,K,L⟩ (decide (K=3)) sc (colN K pal)/\TabO K pal clr s.tl:=by
 obtain ⟨s1,g1,b1,t1⟩:=ihdr_gt (L:=L) ok.w1 ok.w2 ok.h1 ok.h2 hL ok.lg
 obtain ⟨s2,g2,b2,u1,u2⟩:=pal_stage ok b1 t1
 obtain ⟨s3,sc,g3,b3,t3⟩:=clr_stage ok b2 u1 u2
 exact ⟨s3,sc,sign_go.append (g1.append (g2.append g3)),b3,t3⟩
def fileN (W H D K L:Nat) (pal clr:List Int) (PL:List (List Nat)):List Nat:=headN W H D K L pal clr++(idatsN PL++chN iend [])
theorem file_run {W H K D L V:Nat} {pal clr pix:List Int} (ok:OkIm W H K D pal clr pix) (hL:L<=1) (hV:V<8) {l:List Nat} {PL:List (List Nat)} {BL:List (Nat × List Nat)} (hBL:BL≠[]) (hb:∀ b ∈ BL,BlkOk b) (hc:(dataB BL).length<=2078) {r':Rw} (hr:RWL (Rw.start ⟨W,H,D,K,L⟩ (colN K pal)) (dataB BL) r') (hg:RwGood r') (hw:wholeP r'=true) (hp:∀ m ∈ l::PL,(∀ x ∈ m,x<256)/\m.length<1000000) (hz:flat8 (l::PL).flatten=strB V BL):∃ s',Rn rd0 (fileN W H D K L pal clr (l::PL)) s'/\s'.part=5/\s'.hd=⟨W,H,D,K,L⟩/\s'.rw=r'/\RdInv s'/\TabO K pal clr s'.tl:=by
 obtain ⟨s1,sc,g1,b1,t1⟩:=head_run ok hL
 obtain ⟨st',br,p10⟩:=stream_run hV hBL hb hc hr hg
 have z:ZR St.start (Rw.start ⟨W,H,D,K,L⟩ (colN K pal)) (l::PL).flatten st' r':=⟨by rw[hz];exact br,fun _=>hw⟩
 obtain ⟨s2,g2,b2⟩:=idats_run b1 ok.w1 (fun k3=>decide_eq_true k3) hp z
 obtain ⟨s3,g3,e1,e2,e3,e4,e5⟩:=iend_go b2 ok.w1 p10
 have e6:s2.tl=s1.tl:=by
  have:idatsN (l::PL)=chN idat l++idatsN PL:=by unfold idatsN;rw[List.flatMap_cons]
  rw[this] at g2
  exact first_tl b1 ok.w1 (fun k3=>decide_eq_true k3) (hp l (by simp)).2 g2
 exact ⟨s3,g1.append (g2.append g3),e1,e2,e3,e5,by rw[e4,e6];exact t1⟩
end Go.Proofs.YtmbmecfodigciaaGreatDoor
namespace Px
def rowSm (D n T j0:Nat) (pix:List Int):Nat->Nat
 | 0=>0
 | m+1=>rowSm D n T j0 pix m*2^D+(if j0+m<n then (pix.getD (T+(j0+m)) 0).toNat else 0)
theorem rowSm_lt (D n T j0:Nat) (pix:List Int) (h:∀ y ∈ pix,0<=y/\y<((2^D:Nat):Int)):∀ m,rowSm D n T j0 pix m<2^(D*m)
 | 0=>by show 0<_;exact Nat.two_pow_pos _
 | m+1=>by
  have ih:=rowSm_lt D n T j0 pix h m
  have hb:(if j0+m<n then (pix.getD (T+(j0+m)) 0).toNat else 0)<2^D:=by
   split
   ·by_cases hl:T+(j0+m)<pix.length
    ·have:=h (pix.getD (T+(j0+m)) 0) (by rw[List.getD_eq_getElem?_getD,List.getElem?_eq_getElem hl];exact List.getElem_mem hl)
     omega
    ·rw[List.getD_eq_getElem?_getD,List.getElem?_eq_none (by omega)];exact Nat.two_pow_pos _
   ·exact Nat.two_pow_pos _
  show rowSm D n T j0 pix m*2^D+_<_
  have e:2^(D*(m+1))=2^(D*m)*2^D:=by rw[Nat.mul_add,Nat.pow_add,Nat.mul_one]
  rw[e]
  have:(rowSm D n T j0 pix m+1)*2^D<=2^(D*m)*2^D:=Nat.mul_le_mul_right _ ih
  rw[Nat.add_mul,Nat.one_mul] at this
  omega
end Px
namespace Go.Proofs.YtmbmecfodigciaaGreatDoor
open Go.RowKit Px
set_option linter.unusedSimpArgs false
set_option linter.unusedVariables false
theorem layK_flat (D:Nat) (pl:List Int) (A B:Nat) (z:Nat->Nat):∀ k,layKB D pl (A+B) B (layKB D pl A 0 z B) k=layKB D pl A 0 z (B+k)
 | 0=>rfl
 | k+1=>by
  show laySB D (layKB D pl (A+B) B (layKB D pl A 0 z B) k) (B+k) (pl.getD (A+B+k) 0).toNat=laySB D (layKB D pl A 0 z (B+k)) (0+(B+k)) (pl.getD (A+(B+k)) 0).toNat
  rw[layK_flat D pl A B z k,Nat.zero_add,Nat.add_assoc]
theorem layK_16 (pl:List Int) (A:Nat):∀ (n j:Nat),layKB 16 pl A 0 (fun _=>0) n j=if j<2*n then (if j % 2=0 then (pl.getD (A+j / 2) 0).toNat / 256 else (pl.getD (A+j / 2) 0).toNat % 256) else 0
 | 0,j=>by rw[if_neg (by omega)];rfl
 | n+1,j=>by
  show laySB 16 (layKB 16 pl A 0 (fun _=>0) n) (0+n) (pl.getD (A+n) 0).toNat j=_
  unfold laySB
  rw[if_neg (by omega),Nat.zero_add,show n*16 / 8=2*n by omega]
  by_cases h1:j=2*n+1
  ·subst h1
   rw[upd_same,if_pos (by omega),if_neg (by omega),show (2*n+1) / 2=n by omega]
  ·rw[upd_ne _ _ _ h1]
   by_cases h2:j=2*n
   ·subst h2
    rw[upd_same,if_pos (by omega),if_pos (by omega),show 2*n / 2=n by omega]
   ·rw[upd_ne _ _ _ h2,layK_16 pl A n j]
    by_cases h3:j<2*n
    ·rw[if_pos h3,if_pos (show j<2*(n+1) by omega)]
    ·rw[if_neg h3,if_neg (show ¬ j<2*(n+1) by omega)]
theorem out_undo (x g:Nat) (hx:x<256) (hg:g<256):((x+256 - g) % 256+g) % 256=x:=by omega
end Go.Proofs.YtmbmecfodigciaaGreatDoor
namespace Px
theorem rowSm_same (D n n' T j0:Nat) (pix:List Int):∀ m,(∀ i,i<m->(j0+i<n ↔ j0+i<n'))->rowSm D n T j0 pix m=rowSm D n' T j0 pix m
 | 0,_=>rfl
 | m+1,h=>by
  show rowSm D n T j0 pix m*2^D+(if j0+m<n then _ else _)=rowSm D n' T j0 pix m*2^D+(if j0+m<n' then _ else _)
  rw[rowSm_same D n n' T j0 pix m (fun i hi=>h i (by omega))]
  have:=h m (by omega)
  by_cases h5:j0+m<n
  ·rw[if_pos h5,if_pos (this.1 h5)]
  ·rw[if_neg h5,if_neg (fun e=>h5 (this.2 e))]
theorem rowSm_none (D n T j0 m:Nat) (pix:List Int) (h:n<=j0+m):∀ t,rowSm D n T j0 pix (m+t)=rowSm D n T j0 pix m*2^(D*t)
 | 0=>by rw[Nat.mul_zero,Nat.pow_zero,Nat.mul_one];rfl
 | t+1=>by
  show rowSm D n T j0 pix (m+t)*2^D+(if j0+(m+t)<n then _ else _)=_
  rw[if_neg (by omega),rowSm_none D n T j0 m pix h t,Nat.add_zero,Nat.mul_assoc,<- Nat.pow_add,Nat.mul_add,Nat.mul_one]
theorem or_add (a v i e:Nat) (h:v*2^e<2^i):a*2^i ||| v*2^e=a*2^i+v*2^e:=by
 have:=Nat.shiftLeft_add_eq_or_of_lt (b:=v*2^e) (i:=i) h a
 rw[Nat.shiftLeft_eq] at this
 exact this.symm
end Px
namespace Go.Proofs.YtmbmecfodigciaaGreatDoor
open Go.RowKit Px
set_option linter.unusedSimpArgs false
set_option linter.unusedVariables false
theorem lay_at (D per n:Nat) (hD:D=1/\per=8\/D=2/\per=4\/D=4/\per=2\/D=8/\per=1):n*D / 8=n / per/\8 - n*D % 8 - D=D*(per - 1 - n % per)/\n=per*(n / per)+n % per/\n % per<per/\D*(per - 1 - n % per)+D<=8:=by
 rcases hD with ⟨rfl,rfl⟩ | ⟨rfl,rfl⟩ | ⟨rfl,rfl⟩ | ⟨rfl,rfl⟩<;>omega
theorem layK_8 (D per:Nat) (hD:D=1/\per=8\/D=2/\per=4\/D=4/\per=2\/D=8/\per=1) (pl:List Int) (A:Nat) (hb:∀ y ∈ pl,0<=y/\y<((2^D:Nat):Int)):∀ (n j:Nat),layKB D pl A 0 (fun _=>0) n j=rowSm D n A (per*j) pl per
 | 0,j=>by
  have:=rowSm_none D 0 A (per*j) 0 pl (by omega) per
  rw[Nat.zero_add] at this
  rw[this]
  show 0=0*_
  rw[Nat.zero_mul]
 | n+1,j=>by
  have ih:=layK_8 D per hD pl A hb n
  obtain ⟨e1,e2,e3,e4,e5⟩:=lay_at D per n hD
  show laySB D (layKB D pl A 0 (fun _=>0) n) (0+n) (pl.getD (A+n) 0).toNat j=_
  unfold laySB
  rw[if_pos (by omega),Nat.zero_add,e1,e2]
  have hv:(pl.getD (A+n) 0).toNat<2^D:=by
   by_cases hl:A+n<pl.length
   ·have:=hb (pl.getD (A+n) 0) (by rw[List.getD_eq_getElem?_getD,List.getElem?_eq_getElem hl];exact List.getElem_mem hl)
    omega
   ·rw[List.getD_eq_getElem?_getD,List.getElem?_eq_none (by omega)];exact Nat.two_pow_pos _
  by_cases hj:j=n / per
  ·subst hj
   rw[upd_same,ih]
   obtain ⟨r,hr⟩:∃ r,r=n % per:=⟨_,rfl⟩
   obtain ⟨q,hq⟩:∃ q,q=per*(n / per):=⟨_,rfl⟩
   obtain ⟨t,ht⟩:∃ t,t=per - 1 - n % per:=⟨_,rfl⟩
   rw[<- hr] at e3 e4
   rw[<- hq] at e3 ⊢
   rw[<- ht] at e5 ⊢
   have hper:per=r+(t+1):=by omega
   have f1:rowSm D n A q pl per=rowSm D n A q pl r*2^(D*(t+1)):=by rw[hper];exact rowSm_none D n A q r pl (by omega) (t+1)
   have f2:rowSm D (n+1) A q pl per=rowSm D (n+1) A q pl (r+1)*2^(D*t):=by rw[hper,show r+(t+1)=r+1+t by omega];exact rowSm_none D (n+1) A q (r+1) pl (by omega) t
   have f3:rowSm D (n+1) A q pl (r+1)=rowSm D n A q pl r*2^D+(pl.getD (A+n) 0).toNat:=by
    show rowSm D (n+1) A q pl r*2^D+(if q+r<n+1 then (pl.getD (A+(q+r)) 0).toNat else 0)=_
    rw[if_pos (by omega),<- e3,rowSm_same D (n+1) n A q pl r (fun i hi=>by omega)]
   generalize (pl.getD (A+n) 0).toNat=v at *
   have hp:v*2^(D*t)<2^(D*(t+1)):=by
    rw[Nat.mul_add,Nat.mul_one,Nat.pow_add,Nat.mul_comm (2^(D*t))]
    exact Nat.mul_lt_mul_of_pos_right hv (Nat.two_pow_pos _)
   have h256:2^(D*(t+1))<=256:=by
    rw[Nat.mul_add,Nat.mul_one]
    exact Nat.le_trans (Nat.pow_le_pow_right (by omega) e5) (by decide)
   rw[Nat.mod_eq_of_lt (Nat.lt_of_lt_of_le hp h256),f1,f2,f3,or_add _ _ _ _ hp,Nat.add_mul,Nat.mul_assoc,<- Nat.pow_add,show D+D*t=D*(t+1) by rw[Nat.mul_add,Nat.mul_one];omega]
  ·rw[upd_ne _ _ _ hj,ih]
   refine rowSm_same D n (n+1) A (per*j) pl per (fun i hi => ?_)
   have:per*j+i≠n:=by
    intro e
    apply hj
    rw[<- e,Nat.mul_add_div (by omega),Nat.div_eq_of_lt hi,Nat.add_zero]
   omega
def colsP (h:Hd) (p:Nat):Nat:=wthn (psOf h.L p).cf (psOf h.L p).cs h.W
def linesP (h:Hd) (p:Nat):Nat:=wthn (psOf h.L p).rf (psOf h.L p).rs h.H
def sizeP (h:Hd) (p:Nat):Nat:=(colsP h p*bitsP h+7) / 8
def fullP (h:Hd) (p:Nat):Prop:=0<colsP h p/\0<linesP h p
structure QEnv (h:Hd) (C:Nat) (rv:Nat->Nat->Nat->Nat) (FF:Nat->Nat->Nat):Prop where
 W1:1<=h.W
 W2:h.W<=16
 H1:1<=h.H
 H2:h.H<=16
 lg:legal h.K h.D
 L:h.L<=1
 c256:C<=256
 lt:∀ p k i,rv p k i<256
 f4:∀ p k,FF p k<=4
 col:h.K=3->∀ p k i,k<linesP h p->i<colsP h p->bitsO (rv p k (i*h.D / 8)) (i*h.D % 8) h.D<C
def upw (rv:Nat->Nat->Nat) (k:Nat):Nat->Nat:=match k with
 | 0=>fun _=>0
 | k+1=>rv k
theorem chn_ch {K D:Nat} (h:legal K D):chn K=chan K:=by
 rcases h.k with rfl | rfl | rfl | rfl | rfl<;>rfl
theorem bitsP_b {h:Hd} (hk:legal h.K h.D):1<=bitsP h/\bitsP h<=64:=by
 unfold bitsP
 rw[chn_ch hk]
 have h1:=chan_le (K:=h.K)
 have h2:=hk.d
 have h3:chan h.K*h.D<=4*16:=Nat.mul_le_mul h1.2 (by omega)
 have h4:1*1<=chan h.K*h.D:=Nat.mul_le_mul h1.1 (by omega)
 omega
theorem colsP_le {h:Hd} (hW:h.W<=16) (p:Nat):colsP h p<=16:=wthn_le (psOf_ok _ _).2.1 hW
theorem linesP_le {h:Hd} (hH:h.H<=16) (p:Nat):linesP h p<=16:=wthn_le (psOf_ok _ _).2.2.2.2.2.1 hH
theorem wthn_in {f s n i:Nat} (hs:1<=s) (hi:i<wthn f s n):f+i*s<n:=by
 unfold wthn at hi
 split at hi
 ·omega
 ·have h1:i<=(n - f - 1) / s:=by omega
  have h2:i*s<=(n - f - 1) / s*s:=Nat.mul_le_mul_right _ h1
  have h3:=Nat.div_mul_le_self (n - f - 1) s
  omega
theorem fitP {h:Hd} (hk:legal h.K h.D) {c:Nat} (hc:c<=16):c*bitsP h<=1024:=by
 have hb:=bitsP_b hk
 have h3:c*bitsP h<=16*64:=Nat.mul_le_mul hc hb.2
 omega
structure RwP (h:Hd) (C:Nat) (rv:Nat->Nat->Nat->Nat) (FF:Nat->Nat->Nat) (r:Rw) (p k m:Nat):Prop where
 hd:r.hd=h
 colours:r.colours=C
 pass:r.pass=(p:Int)
 line:r.line=k
 columns:r.columns=colsP h p
 lines:r.lines=linesP h p
 size:r.size=sizeP h p
 taken:r.taken=m
 filter:1<=m->r.filter=FF p k
 f256:r.filter<256
 row:∀ i,i+1<m->r.row i=rv p k i
 row256:∀ i,r.row i<256
 above:∀ i,i<sizeP h p->r.above i=upw (rv p) k i
 abv256:∀ i,r.above i<256
 smp:∀ j,r.smp j<65536
theorem cnt7 {L:Nat} (h:L<=1):1<=cntP L/\cntP L<=7:=by unfold cntP;split<;>omega
theorem RwP.ps {h:Hd} {C:Nat} {rv:Nat->Nat->Nat->Nat} {FF:Nat->Nat->Nat} {r:Rw} {p k m:Nat} (s:RwP h C rv FF r p k m):r.ps=psOf h.L p:=by
 unfold Rw.ps;rw[s.hd,s.pass,Int.toNat_natCast]
theorem RwP.good {h:Hd} {C:Nat} {rv:Nat->Nat->Nat->Nat} {FF:Nat->Nat->Nat} {r:Rw} {p k m:Nat} (e:QEnv h C rv FF) (s:RwP h C rv FF r p k m) (hp:p<cntP h.L) (hk:k<linesP h p) (hm:m<=sizeP h p):RwGood r:=by
 have hc:=colsP_le e.W2 p
 have hn:=linesP_le e.H2 p
 have hf:=fitP (c:=colsP h p) e.lg hc
 have hK:=e.lg.k6
 have hc7:=cnt7 e.L
 have hsz:sizeP h p<=128:=by unfold sizeP;omega
 have ps:=s.ps
 have po:=psOf_ok h.L p
 refine ⟨⟨⟨by rw[s.hd];exact e.W2,by rw[s.hd];exact e.H2,by rw[s.hd];exact hK.2,by rw[s.hd];exact hK.1,by rw[s.hd];exact e.L,s.f256,s.row256,s.abv256⟩,by rw[s.hd];exact e.lg.d,by rw[s.columns];exact hc,by rw[s.lines];exact hn,by rw[s.line];omega,by rw[s.columns,s.hd];exact hf,by rw[s.size];exact hsz,by rw[s.taken];omega,by rw[s.pass];omega,by rw[s.pass];omega,by rw[s.colours];exact e.c256⟩,by rw[s.taken];omega,fun _=>⟨fun i hi => ?_,?_⟩⟩
 ·unfold Rw.px;rw[ps];rw[s.columns] at hi
  exact Nat.lt_of_lt_of_le (wthn_in po.2.1 hi) e.W2
 ·unfold Rw.py;rw[ps,s.line]
  exact Nat.lt_of_lt_of_le (wthn_in po.2.2.2.2.2.1 hk) e.H2
theorem RwP.nw {h:Hd} {C:Nat} {rv:Nat->Nat->Nat->Nat} {FF:Nat->Nat->Nat} {r:Rw} {p k m:Nat} (s:RwP h C rv FF r p k m) (hp:p<cntP h.L):wholeP r=false:=by
 unfold wholeP;rw[s.hd,s.pass];exact decide_eq_false (by omega)
structure Bas (h:Hd) (C:Nat) (r:Rw):Prop where
 hd:r.hd=h
 colours:r.colours=C
 f256:r.filter<256
 row256:∀ i,r.row i<256
 taken:r.taken=0
 smp:∀ j,r.smp j<65536
 col:r.columns<=16
 lns:r.lines<=16
structure FinP (r:Rw):Prop where
 whole:wholeP r=true
 good:RwGood r
 smp:∀ j,r.smp j<65536
def AtP (h:Hd) (C:Nat) (rv:Nat->Nat->Nat->Nat) (FF:Nat->Nat->Nat) (r:Rw) (p:Nat):Prop:=
 (∃ q,p<=q/\q<cntP h.L/\fullP h q/\(∀ t,p<=t->t<q->¬ fullP h t)/\RwP h C rv FF r q 0 0)\/((∀ t,p<=t->t<cntP h.L->¬ fullP h t)/\FinP r)
theorem np_at {h:Hd} {C:Nat} {rv:Nat->Nat->Nat->Nat} {FF:Nat->Nat->Nat} (e:QEnv h C rv FF):∀ (n:Nat) (r:Rw) (p:Nat),Bas h C r->r.pass=(p:Int)->p<=cntP h.L->cntP h.L<p+n->AtP h C rv FF (npEnd (npGo n r)) p
 | 0,r,p,b,hp,h1,h2=>by omega
 | n+1,r,p,b,hp,h1,h2=>by
  have ps:r.ps=psOf h.L p:=by unfold Rw.ps;rw[b.hd,hp,Int.toNat_natCast]
  have hc:=colsP_le e.W2 p
  have hn:=linesP_le e.H2 p
  have es:npSet r={ r with columns:=colsP h p,lines:=linesP h p }:=by
   have c1:wthn r.ps.cf r.ps.cs r.hd.W=colsP h p:=by rw[ps,b.hd];rfl
   have c2:wthn r.ps.rf r.ps.rs r.hd.H=linesP h p:=by rw[ps,b.hd];rfl
   unfold npSet;rw[c1,c2]
  have ego:npGo (n+1) r=if r.pass<(cntP r.hd.L:Int) then (if 0<(npSet r).columns/\0<(npSet r).lines then npSet r else npGo n { npSet r with pass:=r.pass+1 }) else r:=rfl
  rw[ego,es]
  by_cases hlt:p<cntP h.L
  ·rw[if_pos (by rw[b.hd,hp];omega)]
   by_cases hf:fullP h p
   ·rw[if_pos (by exact hf)]
    refine Or.inl ⟨p,Nat.le_refl _,hlt,hf,fun t h1 h2=>by omega,?_⟩
    unfold npEnd
    exact ⟨b.hd,b.colours,hp,rfl,rfl,rfl,by show (colsP h p*bitsP r.hd+7) / 8=_;rw[b.hd];rfl,b.taken,fun q=>by omega,b.f256,fun i q=>by omega,b.row256,fun i _=>rfl,fun i=>by show 0<256;omega,b.smp⟩
   ·rw[if_neg (by exact hf)]
    have ih:=np_at e n { ({ r with columns:=colsP h p,lines:=linesP h p }:Rw) with pass:=r.pass+1 } (p+1) ⟨b.hd,b.colours,b.f256,b.row256,b.taken,b.smp,hc,hn⟩ (by show r.pass+1=((p+1:Nat):Int);rw[hp];omega) (by omega) (by omega)
    rcases ih with ⟨q,q1,q2,q3,q4,q5⟩ | ⟨q1,q2⟩
    ·exact Or.inl ⟨q,by omega,q2,q3,fun t t1 t2=>by
      by_cases ht:t=p
      ·rw[ht];exact hf
      ·exact q4 t (by omega) t2,q5⟩
    ·exact Or.inr ⟨fun t t1 t2=>by
      by_cases ht:t=p
      ·rw[ht];exact hf
      ·exact q1 t (by omega) t2,q2⟩
  ·rw[if_neg (by rw[b.hd,hp];omega)]
   refine Or.inr ⟨fun t t1 t2=>by omega,?_⟩
   have hK:=e.lg.k6
   have hc7:=cnt7 e.L
   have hfit:=fitP (c:=r.columns) e.lg b.col
   have w:wholeP (npEnd r)=true:=by
    unfold wholeP npEnd
    show decide ((cntP r.hd.L:Int)<=r.pass)=true
    rw[b.hd,hp];exact decide_eq_true (by omega)
   refine ⟨w,⟨⟨⟨by show r.hd.W<=16;rw[b.hd];exact e.W2,by show r.hd.H<=16;rw[b.hd];exact e.H2,by show r.hd.D<=16;rw[b.hd];exact hK.2,by show r.hd.K<=6;rw[b.hd];exact hK.1,by show r.hd.L<=1;rw[b.hd];exact e.L,b.f256,b.row256,fun i=>by show 0<256;omega⟩,by show okD r.hd.D;rw[b.hd];exact e.lg.d,b.col,b.lns,by show 0<=16;omega,by show r.columns*bitsP r.hd<=1024;rw[b.hd];exact hfit,by show (r.columns*bitsP r.hd+7) / 8<=128;rw[b.hd];omega,by show r.taken<=129;rw[b.taken];omega,by show 0<=r.pass;rw[hp];omega,by show r.pass<=7;rw[hp];omega,by show r.colours<=256;rw[b.colours];exact e.c256⟩,by show r.taken<=128;rw[b.taken];omega,fun q=>by rw[w] at q;cases q⟩,b.smp⟩
theorem start_at {h:Hd} {C:Nat} {rv:Nat->Nat->Nat->Nat} {FF:Nat->Nat->Nat} (e:QEnv h C rv FF):AtP h C rv FF (Rw.start h C) 0:=by
 have hc7:=cnt7 e.L
 have:=np_at e 8 { rw0 h C with pass:=0 } 0 ⟨rfl,rfl,by show 0<256;omega,fun _=>by show 0<256;omega,rfl,fun _=>by show 0<65536;omega,by show 0<=16;omega,by show 0<=16;omega⟩ rfl (by omega) (by omega)
 exact this
def bytP (h:Hd) (rv:Nat->Nat->Nat->Nat) (FF:Nat->Nat->Nat) (p k m:Nat):Nat:=if m=0 then FF p k else (rv p k (m - 1)+256 - gssB h.K h.D (FF p k) (rv p k) (upw (rv p) k) (m - 1)) % 256
theorem stp_e {h:Hd} (hk:legal h.K h.D):stepP h=stpB h.K h.D:=by
 unfold stepP stpB bitsP
 rw[chn_ch hk]
 split<;>omega
theorem undo_p {h:Hd} {C:Nat} {rv:Nat->Nat->Nat->Nat} {FF:Nat->Nat->Nat} {r:Rw} {p k m:Nat} (e:QEnv h C rv FF) (s:RwP h C rv FF r p k m) (h1:1<=m) (hm:m<=sizeP h p):undo r (m - 1) (bytP h rv FF p k m)=rv p k (m - 1):=by
 have hp:1<=stepP h:=by unfold stepP;omega
 have hu:∀ j,upw (rv p) k j<256:=fun j=>by
  cases k with
  | zero=>show 0<256;omega
  | succ k=>exact e.lt p k j
 have eg:gss r.filter (leftP r (m - 1)) (r.above (m - 1)) (cornP r (m - 1))=gssB h.K h.D (FF p k) (rv p k) (upw (rv p) k) (m - 1):=by
  unfold gssB leftP cornP
  rw[s.filter h1,s.above _ (by omega),s.hd,<- stp_e e.lg]
  by_cases q:stepP h<=m - 1
  ·rw[if_pos q,if_pos q,if_pos q,if_pos q,s.row _ (by omega),s.above _ (by omega)]
  ·rw[if_neg q,if_neg q,if_neg q,if_neg q]
 unfold undo bytP
 rw[eg,if_neg (by omega)]
 exact out_undo _ _ (e.lt _ _ _) (gssB_lt (e.lt p k) hu)
theorem take_in {h:Hd} {C:Nat} {rv:Nat->Nat->Nat->Nat} {FF:Nat->Nat->Nat} {r:Rw} {p k m:Nat} (e:QEnv h C rv FF) (s:RwP h C rv FF r p k m) (hp:p<cntP h.L) (hf:fullP h p) (hm:m<sizeP h p):∃ r',r.take (bytP h rv FF p k m)=(r',0)/\RwP h C rv FF r' p k (m+1):=by
 have hF:=e.f4 p k
 by_cases h0:m=0
 ·subst h0
  refine ⟨{ r with taken:=1,filter:=FF p k },?_,⟨s.hd,s.colours,s.pass,s.line,s.columns,s.lines,s.size,rfl,fun _=>rfl,by show FF p k<256;omega,fun i q=>by omega,s.row256,s.above,s.abv256,s.smp⟩⟩
  unfold bytP
  rw[if_pos rfl]
  unfold Rw.take
  rw[s.nw hp,if_neg (by decide),if_pos s.taken]
  unfold Rw.takeF
  rw[if_neg (by omega)]
 ·have hu:=undo_p e s (by omega) (by omega)
  generalize bytP h rv FF p k m=x at *
  refine ⟨({ r with taken:=r.taken+1 }:Rw).lay (r.taken - 1) x,?_,?_⟩
  ·unfold Rw.take
   rw[s.nw hp,if_neg (by decide),if_neg (by rw[s.taken];omega),if_pos (by rw[s.taken,s.size];omega)]
  ·have hu2:undo { r with taken:=r.taken+1 } (r.taken - 1) x=rv p k (m - 1):=by rw[s.taken];exact hu
   unfold Rw.lay
   rw[hu2,s.taken]
   refine ⟨s.hd,s.colours,s.pass,s.line,s.columns,s.lines,s.size,rfl,fun _=>s.filter (by omega),s.f256,fun i q => ?_,fun i => ?_,s.above,s.abv256,s.smp⟩
   ·show upd r.row (m - 1) (rv p k (m - 1)) i=_
    by_cases hi:i=m - 1
    ·rw[hi,upd_same]
    ·rw[upd_ne _ _ _ hi];exact s.row i (by omega)
   ·show upd r.row (m - 1) (rv p k (m - 1)) i<256
    by_cases hi:i=m - 1
    ·rw[hi,upd_same];exact e.lt _ _ _
    ·rw[upd_ne _ _ _ hi];exact s.row256 i
theorem laySm_sm (q:Rw) (a:Nat) (f:Nat->Nat) (hf:∀ k,f k<65536) (hq:∀ j,q.smp j<65536):∀ k j,(laySm q a f k).smp j<65536
 | 0,j=>hq j
 | k+1,j=>by
  show upd (laySm q a f k).smp (4*a+k) (f k) j<65536
  by_cases h:j=4*a+k
  ·rw[h,upd_same];exact hf k
  ·rw[upd_ne _ _ _ h];exact laySm_sm q a f hf hq k j
theorem layPx_sm (r:Rw) (hk:RwOk r) (hq:∀ j,r.smp j<65536):∀ m j,(layPx r m).smp j<65536
 | 0,j=>hq j
 | m+1,j=>laySm_sm (layPx r m) _ _ (fun _=>smpO_lt hk _) (layPx_sm r hk hq m) _ j
theorem take_end {h:Hd} {C:Nat} {rv:Nat->Nat->Nat->Nat} {FF:Nat->Nat->Nat} {r:Rw} {p k:Nat} (e:QEnv h C rv FF) (s:RwP h C rv FF r p k (sizeP h p)) (hp:p<cntP h.L) (hf:fullP h p) (hk:k<linesP h p):∃ r',r.take (bytP h rv FF p k (sizeP h p))=(r',0)/\(k+1<linesP h p->RwP h C rv FF r' p (k+1) 0)/\(k+1=linesP h p->AtP h C rv FF r' (p+1)):=by
 have hc:=colsP_le e.W2 p
 have hn:=linesP_le e.H2 p
 have hb1:1<=sizeP h p:=by
  unfold sizeP
  have:=bitsP_b e.lg
  have:1*1<=colsP h p*bitsP h:=Nat.mul_le_mul hf.1 this.1
  omega
 obtain ⟨b,hb⟩:∃ b,b=sizeP h p:=⟨_,rfl⟩
 rw[<- hb] at s hb1 ⊢
 have hu:=undo_p e s hb1 (by omega)
 generalize bytP h rv FF p k b=x at *
 obtain ⟨q,hq⟩:∃ q,q=({ r with taken:=r.taken+1 }:Rw).lay (r.taken - 1) x:=⟨_,rfl⟩
 have et:r.take x=q.endRow:=by
  unfold Rw.take
  rw[s.nw hp,if_neg (by decide),if_neg (by rw[s.taken];omega),if_neg (by rw[s.taken,s.size];omega),hq]
 have hu2:undo { r with taken:=r.taken+1 } (r.taken - 1) x=rv p k (b - 1):=by rw[s.taken];exact hu
 have eq:q={ r with taken:=b+1,row:=upd r.row (b - 1) (rv p k (b - 1)) }:=by
  rw[hq];unfold Rw.lay;rw[hu2,s.taken]
 have qr:∀ i,i<b->q.row i=rv p k i:=fun i hi=>by
  rw[eq]
  show upd r.row (b - 1) (rv p k (b - 1)) i=_
  by_cases h2:i=b - 1
  ·rw[h2,upd_same]
  ·rw[upd_ne _ _ _ h2];exact s.row i (by omega)
 have qr2:∀ i,q.row i<256:=fun i=>by
  rw[eq]
  show upd r.row (b - 1) (rv p k (b - 1)) i<256
  by_cases h2:i=b - 1
  ·rw[h2,upd_same];exact e.lt _ _ _
  ·rw[upd_ne _ _ _ h2];exact s.row256 i
 have q1:q.hd=h:=by rw[eq];exact s.hd
 have q2:q.columns=colsP h p:=by rw[eq];exact s.columns
 have q3:q.colours=C:=by rw[eq];exact s.colours
 have q4:q.line=k:=by rw[eq];exact s.line
 have q5:q.lines=linesP h p:=by rw[eq];exact s.lines
 have q6:q.pass=(p:Int):=by rw[eq];exact s.pass
 have q7:q.size=b:=by rw[eq,hb];exact s.size
 have q8:q.filter<256:=by rw[eq];exact s.f256
 have hK:=e.lg.k6
 have qok:RwOk q:=⟨by rw[q1];exact e.W2,by rw[q1];exact e.H2,by rw[q1];exact hK.2,by rw[q1];exact hK.1,by rw[q1];exact e.L,q8,qr2,by rw[eq];exact s.abv256⟩
 have nb:q.bad=false:=by
  unfold Rw.bad
  by_cases h3:h.K=3
  ·have:hasC q=true:=hasC_true (fun i hi=>by
    rw[q2] at hi
    have hD:h.D=1\/h.D=2\/h.D=4\/h.D=8:=by have:=e.lg;unfold legal at this;omega
    have hbp:bitsP h=h.D:=by unfold bitsP;rw[h3];show 1*h.D=h.D;omega
    have hib:i*h.D / 8<b:=by
     rw[hb];unfold sizeP;rw[hbp]
     have hm:(i+1)*h.D<=colsP h p*h.D:=Nat.mul_le_mul_right _ hi
     rw[Nat.add_mul,Nat.one_mul] at hm
     omega
    unfold smpO
    rw[q1,q3,if_pos (by omega),qr _ hib]
    exact e.col h3 p k i hk hi)
   rw[this];simp
  ·rw[q1,decide_eq_false h3];rfl
 have sm:∀ j,q.laid.smp j<65536:=fun j=>layPx_sm q qok (fun j=>by rw[eq];exact s.smp j) _ j
 have er:q.endRow=(if q.lines<=q.line+1 then q.laid.next else q.laid,0):=by
  unfold Rw.endRow;rw[nb,if_neg (by decide)]
 obtain ⟨l1,l2,l3,l4,l5,l6,l7,l8,l9,l10,l11⟩:=layPx_same q q.columns
 rw[et,er]
 refine ⟨_,rfl,fun h2 => ?_,fun h2 => ?_⟩
 ·rw[if_neg (by rw[q4,q5];omega)]
  refine ⟨by show (layPx q q.columns).hd=h;rw[l1];exact q1,by show (layPx q q.columns).colours=C;rw[l2];exact q3,by show (layPx q q.columns).pass=_;rw[l3];exact q6,by show q.line+1=k+1;rw[q4],by show (layPx q q.columns).columns=_;rw[l5];exact q2,by show (layPx q q.columns).lines=_;rw[l6];exact q5,by show (layPx q q.columns).size=_;rw[l7,<- hb];exact q7,rfl,fun q=>by omega,by show (layPx q q.columns).filter<256;rw[l9];exact q8,fun i q=>by omega,fun i=>by show (layPx q q.columns).row i<256;rw[l10];exact qr2 i,fun i hi => ?_,fun i=>by show (layPx q q.columns).row i<256;rw[l10];exact qr2 i,sm⟩
  show (layPx q q.columns).row i=rv p k i
  rw[l10];exact qr i (by omega)
 ·rw[if_pos (by rw[q4,q5];omega)]
  have hc7:=cnt7 e.L
  refine np_at e 8 { q.laid with pass:=q.laid.pass+1 } (p+1) ⟨by show (layPx q q.columns).hd=h;rw[l1];exact q1,by show (layPx q q.columns).colours=C;rw[l2];exact q3,by show (layPx q q.columns).filter<256;rw[l9];exact q8,fun i=>by show (layPx q q.columns).row i<256;rw[l10];exact qr2 i,rfl,sm,by show (layPx q q.columns).columns<=16;rw[l5,q2];exact hc,by show (layPx q q.columns).lines<=16;rw[l6,q5];exact hn⟩ ?_ (by omega) (by omega)
  show (layPx q q.columns).pass+1=((p+1:Nat):Int)
  rw[l3,q6];omega
def rowN (h:Hd) (rv:Nat->Nat->Nat->Nat) (FF:Nat->Nat->Nat) (p k m:Nat):List Nat:=(List.range m).map (bytP h rv FF p k)
theorem row_in {h:Hd} {C:Nat} {rv:Nat->Nat->Nat->Nat} {FF:Nat->Nat->Nat} {r:Rw} {p k:Nat} (e:QEnv h C rv FF) (s:RwP h C rv FF r p k 0) (hp:p<cntP h.L) (hf:fullP h p) (hk:k<linesP h p):∀ m,m<=sizeP h p->∃ r',RWL r (rowN h rv FF p k m) r'/\RwP h C rv FF r' p k m
 | 0,_=>⟨r,rfl,s⟩
 | m+1,hm=>by
  obtain ⟨a,h1,h2⟩:=row_in e s hp hf hk m (by omega)
  obtain ⟨b,h3,h4⟩:=take_in e h2 hp hf (by omega)
  refine ⟨b,?_,h4⟩
  unfold rowN
  rw[List.range_succ,List.map_append]
  exact h1.append ⟨h2.good e hp hk (by omega),by rw[h3],by rw[h3];rfl⟩
theorem row_all {h:Hd} {C:Nat} {rv:Nat->Nat->Nat->Nat} {FF:Nat->Nat->Nat} {r:Rw} {p k:Nat} (e:QEnv h C rv FF) (s:RwP h C rv FF r p k 0) (hp:p<cntP h.L) (hf:fullP h p) (hk:k<linesP h p):∃ r',RWL r (rowN h rv FF p k (sizeP h p+1)) r'/\(k+1<linesP h p->RwP h C rv FF r' p (k+1) 0)/\(k+1=linesP h p->AtP h C rv FF r' (p+1)):=by
 obtain ⟨a,h1,h2⟩:=row_in e s hp hf hk (sizeP h p) (Nat.le_refl _)
 obtain ⟨b,h3,h4,h5⟩:=take_end e h2 hp hf hk
 refine ⟨b,?_,h4,h5⟩
 unfold rowN
 rw[List.range_succ,List.map_append]
 exact h1.append ⟨h2.good e hp hk (Nat.le_refl _),by rw[h3],by rw[h3];rfl⟩
def passN (h:Hd) (rv:Nat->Nat->Nat->Nat) (FF:Nat->Nat->Nat) (p n:Nat):List Nat:=(List.range n).flatMap (fun k=>rowN h rv FF p k (sizeP h p+1))
theorem pass_in {h:Hd} {C:Nat} {rv:Nat->Nat->Nat->Nat} {FF:Nat->Nat->Nat} {r:Rw} {p:Nat} (e:QEnv h C rv FF) (s:RwP h C rv FF r p 0 0) (hp:p<cntP h.L) (hf:fullP h p):∀ k,k<=linesP h p->∃ r',RWL r (passN h rv FF p k) r'/\(k<linesP h p->RwP h C rv FF r' p k 0)/\(k=linesP h p->AtP h C rv FF r' (p+1))
 | 0,_=>⟨r,rfl,fun _=>s,fun q=>by have:=hf.2;omega⟩
 | k+1,hk=>by
  obtain ⟨a,h1,h2,_⟩:=pass_in e s hp hf k (by omega)
  obtain ⟨b,h3,h4,h5⟩:=row_all e (h2 (by omega)) hp hf (by omega)
  refine ⟨b,?_,h4,h5⟩
  unfold passN
  rw[List.range_succ,List.flatMap_append]
  refine h1.append ?_
  rw[List.flatMap_cons,List.flatMap_nil,List.append_nil]
  exact h3
def fpN (h:Hd) (rv:Nat->Nat->Nat->Nat) (FF:Nat->Nat->Nat) (p:Nat):List Nat:=if colsP h p=0 then [] else passN h rv FF p (linesP h p)
theorem passes_run {h:Hd} {C:Nat} {rv:Nat->Nat->Nat->Nat} {FF:Nat->Nat->Nat} (e:QEnv h C rv FF):∀ (n p:Nat) (r:Rw),p+n=cntP h.L->AtP h C rv FF r p->∃ r',RWL r ((List.range' p n).flatMap (fpN h rv FF)) r'/\FinP r'
 | 0,p,r,hn,ha=>by
  rcases ha with ⟨q,q1,q2,_⟩ | ⟨_,q2⟩
  ·omega
  ·exact ⟨r,rfl,q2⟩
 | n+1,p,r,hn,ha=>by
  rw[List.range'_succ,List.flatMap_cons]
  by_cases hf:fullP h p
  ·have s:RwP h C rv FF r p 0 0:=by
    rcases ha with ⟨q,q1,q2,q3,q4,q5⟩ | ⟨q1,_⟩
    ·by_cases hq:q=p
     ·rw[hq] at q5;exact q5
     ·exact absurd hf (q4 p (Nat.le_refl _) (by omega))
    ·exact absurd hf (q1 p (Nat.le_refl _) (by omega))
   obtain ⟨a,h1,_,h3⟩:=pass_in e s (by omega) hf (linesP h p) (Nat.le_refl _)
   obtain ⟨b,h4,h5⟩:=passes_run e n (p+1) a (by omega) (h3 rfl)
   have e1:fpN h rv FF p=passN h rv FF p (linesP h p):=by unfold fpN;rw[if_neg (by have:=hf.1;omega)]
   rw[e1]
   exact ⟨b,h1.append h4,h5⟩
  ·have e1:fpN h rv FF p=[]:=by
    unfold fpN
    by_cases hc:colsP h p=0
    ·rw[if_pos hc]
    ·rw[if_neg hc]
     have:linesP h p=0:=by
      rcases Nat.eq_zero_or_pos (linesP h p) with q | q
      ·exact q
      ·exact absurd ⟨by omega,q⟩ hf
     rw[this];rfl
   rw[e1,List.nil_append]
   refine passes_run e n (p+1) r (by omega) ?_
   rcases ha with ⟨q,q1,q2,q3,q4,q5⟩ | ⟨q1,q2⟩
   ·have hq:q≠p:=fun k=>hf (by rw[<- k];exact q3)
    exact Or.inl ⟨q,by omega,q2,q3,fun t t1 t2=>q4 t (by omega) t2,q5⟩
   ·exact Or.inr ⟨fun t t1 t2=>q1 t (by omega) t2,q2⟩
theorem rows_run {h:Hd} {C:Nat} {rv:Nat->Nat->Nat->Nat} {FF:Nat->Nat->Nat} (e:QEnv h C rv FF):∃ r',RWL (Rw.start h C) ((List.range' 0 (cntP h.L)).flatMap (fpN h rv FF)) r'/\FinP r' :=
 passes_run e (cntP h.L) 0 _ (by omega) (start_at e)
