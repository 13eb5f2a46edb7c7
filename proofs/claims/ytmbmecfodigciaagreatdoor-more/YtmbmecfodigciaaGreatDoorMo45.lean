import Derived.Test.YtmbmecfodigciaaGreatDoorMo44
import Derived.Test.YtmbmecfodigciaaGreatDoorMo02
import Derived.Test.YtmbmecfodigciaaGreatDoorMo05
import Derived.Test.YtmbmecfodigciaaGreatDoorMo35
import Derived.Test.YtmbmecfodigciaaGreatDoorMo33
import Derived.Deep.RegionHeld3
import Derived.BigQuiet
import Derived.Test.YtmbmecfodigciaaGreatDoorMo40
set_option maxRecDepth 100000
set_option maxHeartbeats 6400000
namespace Go.Proofs.YtmbmecfodigciaaGreatDoor
open Go.RowKit Px
set_option linter.unusedSimpArgs false
set_option linter.unusedVariables false
theorem chN_len (T:Nat) (l:List Nat):(chN T l).length=12+l.length:=by
 unfold chN
 rw[List.length_append,List.length_append,List.length_append]
 show 4+(4+(l.length+4))=_
 omega
theorem feed_err_at {pre rest:List Nat} {d e:Nat} {a:Rd} (h:Rn rd0 pre a) (ok:TakeOk a d) (he:(a.take d).2=e) (hne:e≠0) (hp:pre.length≤4000000000):FeedOk dc0 (pre++d::rest)∧dc0.feed (pre++d::rest)=⟨(a.take d).1,pre.length,e,pre.length⟩:=by
 have f1:dc0.feed pre=⟨a,pre.length,0,0⟩:=by
  rw[Rn.feed (d:=dc0) h rfl]
  show (⟨a,0+pre.length,0,0⟩:Dc)=_
  rw[Nat.zero_add]
 have o1:FeedOk dc0 pre:=Rn.ok (d:=dc0) h rfl (by show 0+pre.length≤_;omega)
 have f2:(⟨a,pre.length,0,0⟩:Dc).one d=⟨(a.take d).1,pre.length,e,pre.length⟩:=by
  unfold Dc.one
  rw[if_neg (show ¬ ((0:Nat)≠0) from fun q=>q rfl)]
  show (if (a.take d).2≠0 then _ else _)=_
  rw[if_pos (by rw[he];exact hne),he]
 have f3:dc0.feed (pre++[d])=⟨(a.take d).1,pre.length,e,pre.length⟩:=by rw[feed_snoc,f1,f2]
 have e1:pre++d::rest=(pre++[d])++rest:=by simp
 refine ⟨fun k x hx hz => ?_,by rw[e1,feed_append,f3];exact feed_err hne _⟩
 by_cases q1:k<pre.length
 ·have:=o1 k x (by rw[← hx,List.getElem?_append_left q1])
  rw[List.take_append_of_le_length (by omega)] at hz ⊢
  exact this hz
 ·by_cases q2:k=pre.length
  ·subst q2
   rw[List.getElem?_append_right (Nat.le_refl _),Nat.sub_self] at hx
   have ex:d=x:=by simpa using hx
   subst ex
   rw[List.take_left,f1]
   exact ⟨ok,by show pre.length≤_;omega⟩
  ·exfalso
   have:(pre++d::rest).take k=(pre++[d])++rest.take (k - (pre.length+1)):=by
    rw[e1,List.take_append,List.take_of_length_le (by rw[List.length_append];show pre.length+1≤k;omega),List.length_append];rfl
   rw[this,feed_append,f3,feed_err (d:=⟨(a.take d).1,pre.length,e,pre.length⟩) hne] at hz
   exact hne hz
theorem ins_mid {W H K D L:Nat} {pal clr pix:List Int} {l l0 b0:List Nat} {A B:List (List Nat)} {r':Rw} (P:Pcs W H D K L pal clr pix l0 (A++b0::B) r') (hl:l.length≤1000) (hb:∀ x ∈ l,x<256) (hlen:(headN W H D K L pal clr++idatsN (l0::A)).length≤3000000000) (rest:List Nat):∃ x e p,(e=21∨e=4)∧(headN W H D K L pal clr++idatsN (l0::A)).length+7≤p∧p<(headN W H D K L pal clr++idatsN (l0::A)).length+l.length+20∧FeedOk dc0 ((headN W H D K L pal clr++idatsN (l0::A))++(chN noNe l++(chN idat b0++rest)))∧dc0.feed ((headN W H D K L pal clr++idatsN (l0::A))++(chN noNe l++(chN idat b0++rest)))=⟨x,p,e,p⟩:=by
 obtain ⟨s1,sc,g1,b1,t1⟩:=head_run P.ok P.hL
 obtain ⟨st',z,p10⟩:=P.z
 have ef:(l0::(A++b0::B)).flatten=(l0::A).flatten++(b0::B).flatten:=by
  rw[← List.cons_append,List.flatten_append]
 rw[ef] at z
 obtain ⟨st1,r1,z1,z2⟩:=z.split
 have hb0:=P.b b0 (by simp)
 obtain ⟨s2,g2,b2⟩:=idats_run b1 P.ok.w1 (fun k3=>decide_eq_true k3) (fun m hm=>P.b m (by
  rcases List.mem_cons.1 hm with q | q
  ·rw[q];simp
  ·simp [q])) z1
 have gp:Rn rd0 (headN W H D K L pal clr++idatsN (l0::A)) s2:=g1.append g2
 generalize headN W H D K L pal clr++idatsN (l0::A)=pre at *
 have bw:s2.hd.W≠0:=by rw[b2.da.hd];have:=P.ok.w1;show W≠0;omega
 have hbr:Brd s2:=⟨b2.part,b2.taken,b2.number,b2.sum,b2.da.inv,bw⟩
 by_cases h10:st1.part=10
 ·have hst:s2.st.part=10:=by rw[b2.da.st];exact h10
  obtain ⟨s4,g4,b4,sk⟩:=skipc_run hbr (Or.inr (Or.inr hst)) hl hb
  have o1:=len_go (n:=b0.length) b4.inv b4.part b4.taken b4.number b4.sum (by omega)
  have dv:s4.dov=true:=by rw[sk.dov,b2.da.sd];simp
  obtain ⟨a,d,k1,k2,k3,k4⟩:=ty_err (s:=lnS s4 b0.length) (T:=idat) (e:=4) (b4.inv.put rfl rfl rfl) rfl rfl rfl crcStart_lt (by decide) (by show b0.length<2147483648;omega) (by
   unfold Rd.checkType
   rw[if_neg (by show ¬ tyB idat=false;decide),if_neg (by show ¬ s4.hd.W=0;exact b4.W),if_neg (by
    show ¬ (decide (idat≠idat) && s4.sd && !s4.dov && decide (s4.st.part≠10))=true
    simp)]
   unfold Rd.checkKind
   rw[if_neg (by show ¬ idat=ihdr;decide),if_neg (by show ¬ idat=plte;decide),if_neg (by show ¬ idat=trns;decide),if_pos (by rfl)]
   unfold Rd.checkData
   rw[if_pos (by
    show (s4.dov || _)=true
    rw[dv];rfl)]) (by decide)
  have gq:Rn rd0 (pre++(chN noNe l++(beN b0.length++[idat / 16777216 % 256,idat / 65536 % 256,idat / 256 % 256]))) a:=gp.append (g4.append (o1.append k2))
  have eq:pre++(chN noNe l++(chN idat b0++rest))=(pre++(chN noNe l++(beN b0.length++[idat / 16777216 % 256,idat / 65536 % 256,idat / 256 % 256])))++d::(b0++beN (crcEnd (crcL crcStart (beN idat++b0)))++rest):=by
   have:chN idat b0=beN b0.length++(([idat / 16777216 % 256,idat / 65536 % 256,idat / 256 % 256]++[d])++(b0++beN (crcEnd (crcL crcStart (beN idat++b0))))):=by
    rw[← k1];rfl
   rw[this]
   simp only [List.append_assoc,List.cons_append,List.nil_append]
  have hln:(pre++(chN noNe l++(beN b0.length++[idat / 16777216 % 256,idat / 65536 % 256,idat / 256 % 256]))).length=pre.length+l.length+19:=by
   rw[List.length_append,List.length_append,chN_len]
   show pre.length+(12+l.length+7)=_
   omega
  obtain ⟨w1,w2⟩:=feed_err_at (rest:=b0++beN (crcEnd (crcL crcStart (beN idat++b0)))++rest) gq k3 k4 (by decide) (by rw[hln];omega)
  rw[eq]
  exact ⟨_,4,_,Or.inr rfl,by rw[hln];omega,by rw[hln];omega,w1,w2⟩
 ·have hst:s2.st.part≠10:=by rw[b2.da.st];exact h10
  have o1:=len_go (n:=l.length) hbr.inv hbr.part hbr.taken hbr.number hbr.sum (by omega)
  obtain ⟨a,d,k1,k2,k3,k4⟩:=ty_err (s:=lnS s2 l.length) (T:=noNe) (e:=21) (hbr.inv.put rfl rfl rfl) rfl rfl rfl crcStart_lt (by decide) (by show l.length<2147483648;omega) (by
   unfold Rd.checkType
   rw[if_neg (by show ¬ tyB noNe=false;decide),if_neg (by show ¬ s2.hd.W=0;exact bw),if_pos (by
    show (decide (noNe≠idat) && s2.sd && !s2.dov && decide (s2.st.part≠10))=true
    rw[b2.da.sd,b2.da.dov,decide_eq_true hst];decide)]) (by decide)
  have gq:Rn rd0 (pre++(beN l.length++[noNe / 16777216 % 256,noNe / 65536 % 256,noNe / 256 % 256])) a:=gp.append (o1.append k2)
  have eq:pre++(chN noNe l++(chN idat b0++rest))=(pre++(beN l.length++[noNe / 16777216 % 256,noNe / 65536 % 256,noNe / 256 % 256]))++d::(l++beN (crcEnd (crcL crcStart (beN noNe++l)))++(chN idat b0++rest)):=by
   have:chN noNe l=beN l.length++(([noNe / 16777216 % 256,noNe / 65536 % 256,noNe / 256 % 256]++[d])++(l++beN (crcEnd (crcL crcStart (beN noNe++l))))):=by
    rw[← k1];rfl
   rw[this]
   simp only [List.append_assoc,List.cons_append,List.nil_append]
  have hln:(pre++(beN l.length++[noNe / 16777216 % 256,noNe / 65536 % 256,noNe / 256 % 256])).length=pre.length+7:=by
   rw[List.length_append]
   show pre.length+7=_
   omega
  obtain ⟨w1,w2⟩:=feed_err_at (rest:=l++beN (crcEnd (crcL crcStart (beN noNe++l)))++(chN idat b0++rest)) gq k3 k4 (by decide) (by rw[hln];omega)
  rw[eq]
  exact ⟨_,21,_,Or.inl rfl,by rw[hln];omega,by rw[hln];omega,w1,w2⟩
theorem list_ext_getD {a b:List Int} (h:a.length=b.length) (k:∀ j,j<a.length→a.getD j 0=b.getD j 0):a=b:=by
 apply List.ext_getElem h
 intro i h1 h2
 have:=k i h1
 rw[List.getD_eq_getElem?_getD,List.getD_eq_getElem?_getD,List.getElem?_eq_getElem h1,List.getElem?_eq_getElem h2] at this
 exact this
theorem sameInts_x (p q:Option Addr) (n m pc qc:Nat) (a b:List Int) (w:World) (hn:n=a.length) (hm:m=b.length) (ha:LAt w .i64 (.slice p a.length pc) a) (hb:LAt w .i64 (.slice q b.length qc) b) (hla:a.length≤100000) (hlb:b.length≤100000) :
  Calls Tryz.prog 27 #[.slice p n pc,.slice q m qc] w fun e w'=>e = .returned (.bool (decide (a=b)))∧Kept w w':=by
 have HA:Hid (∀ W,Kept w W→∀ i,i<n→∃ g o,p=some ⟨g,o,none⟩∧W.cell? ⟨g,o+i,none⟩=some (.int .i64 (a.getD i 0))):=fun W k i hi=>(ha.kept k).cellAt i (by omega)
 have HB:Hid (∀ W,Kept w W→∀ i,i<m→∃ g o,q=some ⟨g,o,none⟩∧W.cell? ⟨g,o+i,none⟩=some (.int .i64 (b.getD i 0))):=fun W k i hi=>(hb.kept k).cellAt i (by omega)
 have R1:Hid (n≠m→decide (a=b)=false):=fun h=>decide_eq_false (fun e=>h (by rw[hn,hm,e]))
 have R2:Hid (∀ j,a.getD j 0≠b.getD j 0→decide (a=b)=false):=fun j h=>decide_eq_false (fun e=>h (by rw[e]))
 have R3:Hid (n=m→(∀ j,j<n→a.getD j 0=b.getD j 0)→decide (a=b)=true):=fun h k=>decide_eq_true (list_ext_getD (by omega) (fun j hj=>k j (by omega)))
 generalize decide (a=b)=R at *
 have hn1:n≤100000:=by omega
 have hm1:m≤100000:=by omega
 clear ha hb hn hm hla hlb
 by_cases hl:n=m
 ·subst hl
  replace R3:Hid _:=R3.out rfl
  go_enter Tryz.func27,Tryz.ntmps27
  go_wp2_with fail
  go_loopg [5] n (fun t v W=>∃ k:Nat,t=n - k∧k≤n∧v = .int .i64 (k:Int)∧Kept w W∧∀ j,j<k→a.getD j 0=b.getD j 0)
  case atStart=>exact ⟨0,by omega,by omega,rfl,Kept.refl _,fun j hj=>by omega⟩
  case round=>
   obtain ⟨k,hgk,hkn,rfl,hkw,hall⟩:=hrel
   replace hgk:Hid _:=hgk
   have HKW:Hid (Kept w wr):=hkw
   replace hall:Hid _:=hall
   clear hkw
   by_cases hlt:k<n
   ·have hlt':(k:Int)<(n:Int):=by omega
    have k0:(0:Int)≤(k:Int):=by omega
    obtain ⟨g,o,rfl,c1⟩:=HA.out wr HKW.out k hlt
    obtain ⟨g',o',rfl,c2⟩:=HB.out wr HKW.out k hlt
    generalize hAK:a.getD k 0=AK at *
    generalize hBK:b.getD k 0=BK at *
    replace hAK:Hid _:=hAK
    replace hBK:Hid _:=hBK
    go_wp2_with fail
    go_quiet (fail)
    cases hne:(AK != BK)
    ·go_wp2_with fail
     go_roundg (n - (k+1))
     case measure=>rw[hgk.out];omega
     case rel=>exact ⟨k+1,rfl,by omega,by go_num,HKW.out.drewN _,fun j hj=>by
      by_cases q:j=k
      ·subst q
       rw[hAK.out,hBK.out]
       simpa using hne
      ·exact hall.out j (by omega)⟩
    ·go_wp2_with fail
     go_ret
     exact ⟨by rw[R2.out k (by rw[hAK.out,hBK.out];simpa using hne)];rfl,HKW.out.drewN _⟩
   ·have hlt':¬ (k:Int)<(n:Int):=by omega
    go_wp2_with fail
    go_ret
    exact ⟨by rw[R3.out (fun j hj=>hall.out j (by omega))];rfl,HKW.out⟩
 ·have hl':((n:Int) != (m:Int))=true:=by rw[bne_iff_ne];omega
  replace R1:Hid _:=R1.out hl
  clear hl
  go_enter Tryz.func27,Tryz.ntmps27
  go_wp2_with fail
  go_ret
  exact ⟨by rw[R1.out];rfl,Kept.refl _⟩
def wdN (D v:Nat):Nat:=v*65535 / (2^D - 1)
theorem wide_x (v D:Nat) (w:World) (hD:D=1∨D=2∨D=4∨D=8∨D=16) (hv:v<65536) :
  Calls Tryz.prog 47 #[.int .i64 (v:Int),.int .i64 (D:Int)] w fun e w'=>e = .returned (.int .i64 (wdN D v:Int))∧w'=w:=by
 have hm:wrap64 (2^D)=((2^D:Nat):Int):=by rcases hD with rfl | rfl | rfl | rfl | rfl<;>kernel_rfl
 obtain ⟨M,hM⟩:∃ M,M=2^D - 1:=⟨_,rfl⟩
 have hp:2^D=M+1:=by have:=Nat.two_pow_pos D;omega
 have hM1:1≤M:=by rcases hD with rfl | rfl | rfl | rfl | rfl<;>(rw[hM];decide)
 have hM2:M≤65535:=by rcases hD with rfl | rfl | rfl | rfl | rfl<;>(rw[hM];decide)
 rw[hp] at hm
 have HE:Hid (wdN D v=v*65535 / M):=by show wdN D v=_;unfold wdN;rw[← hM]
 obtain ⟨T,hT⟩:∃ T,T=v*65535:=⟨_,rfl⟩
 have eT:(v:Int)*65535=(T:Int):=by omega
 have hT2:T≤4294967295:=by omega
 obtain ⟨Q,hQ⟩:∃ Q,Q=T / M:=⟨_,rfl⟩
 have eQ:(T:Int) / (M:Int)=(Q:Int):=by rw[hQ];exact (Int.natCast_ediv _ _).symm
 have eQ':(T:Int).tdiv (M:Int)=(Q:Int):=by rw[Int.tdiv_eq_ediv_of_nonneg (by omega)];exact eQ
 have hQ2:Q≤4294967295:=by rw[hQ];exact Nat.le_trans (Nat.div_le_self _ _) hT2
 rw[← hT,← hQ] at HE
 have g0:¬ ((M:Int)=0):=by omega
 have g0':((M:Int) == 0)=false:=by rw[beq_eq_false_iff_ne];omega
 have g0'':¬ (M=0):=by omega
 have eM:((M+1:Nat):Int) - 1=(M:Int):=by omega
 obtain ⟨N,hN⟩:∃ N,N=M+1:=⟨_,rfl⟩
 rw[← hN] at hm
 have eM:(N:Int) - 1=(M:Int):=by omega
 have hD2:D≤16:=by omega
 clear hT hQ hM hp hN
 generalize wdN D v=R at *
 replace hD:Hid _:=hD
 go_enter Tryz.func47,Tryz.ntmps47
 go_wp2
 go_ret
 exact ⟨ret_int (by rw[HE.out]),rfl⟩
def Four4 (w:World) (a0 a1 a2 a3:Int) (e:Ending) (w':World):Prop:=∃ g,e = .returned (.slice (some ⟨g,0,none⟩) 4 4)∧w.heap.size≤g∧w'.cell? ⟨g,0,none⟩=some (.int .i64 a0)∧w'.cell? ⟨g,1,none⟩=some (.int .i64 a1)∧w'.cell? ⟨g,2,none⟩=some (.int .i64 a2)∧w'.cell? ⟨g,3,none⟩=some (.int .i64 a3)∧Kept w w'
theorem four4_new {w W:World} (k:Kept w W) (a0 a1 a2 a3:Int) (t:TypeId) (W':World) (hW:Kept (W.alloc (Obj.cells #[.int .i64 a0,.int .i64 a1,.int .i64 a2,.int .i64 a3] t)) W'):Four4 w a0 a1 a2 a3 (.returned (.slice (some ⟨W.heap.size,0,none⟩) 4 4)) W':=by
 have h:W.heap.size<(W.alloc (Obj.cells #[.int .i64 a0,.int .i64 a1,.int .i64 a2,.int .i64 a3] t)).heap.size:=by simp
 refine ⟨W.heap.size,rfl,k.size,?_,?_,?_,?_,Kept.trans (Below.alloc k k.size _) hW⟩ <;>
 exact (hW.cell (p:=⟨W.heap.size,_,none⟩) h).trans ((World.cell?_alloc_at _ _ _ _ rfl).trans rfl)
theorem Four4.of {w w':World} {e:Ending} {b0 b1 b2 b3 a0 a1 a2 a3:Int} (h:Four4 w b0 b1 b2 b3 e w') (h0:b0=a0) (h1:b1=a1) (h2:b2=a2) (h3:b3=a3):Four4 w a0 a1 a2 a3 e w':=by rw[← h0,← h1,← h2,← h3];exact h
theorem dcol3_x (x k D V Q N PN xc pc qc gx ox gp op P0 P1 P2 A:Nat) (qp:Option Addr) (w:World) (c2:w.cell? ⟨x,2,none⟩=some (.int .i64 3)) (c4:w.cell? ⟨x,4,none⟩=some (.slice (some ⟨gp,op,none⟩) PN pc)) (c5:w.cell? ⟨x,5,none⟩=some (.slice qp Q qc)) (c6:w.cell? ⟨x,6,none⟩=some (.slice (some ⟨gx,ox,none⟩) N xc)) (hk:k+1≤xc) (hk2:k<100000) (hV:3*V+3≤pc) (hV2:V<256) (v0:w.cell? ⟨gx,ox+k,none⟩=some (.int .i64 (V:Int))) (p0:w.cell? ⟨gp,op+3*V,none⟩=some (.int .i64 (P0:Int))) (p1:w.cell? ⟨gp,op+3*V+1,none⟩=some (.int .i64 (P1:Int))) (p2:w.cell? ⟨gp,op+3*V+2,none⟩=some (.int .i64 (P2:Int))) (h0:P0<256) (h1:P1<256) (h2:P2<256) (hA:A<256) (hc:V<Q→∃ g o,qp=some ⟨g,o,none⟩∧w.cell? ⟨g,o+V,none⟩=some (.int .i64 (A:Int))) :
  Calls Tryz.prog 29 #[.pointer (some ⟨x,0,none⟩),.int .i64 (k:Int)] w fun e w'=>Four4 w ((P0*257:Nat):Int) ((P1*257:Nat):Int) ((P2*257:Nat):Int) ((if V<Q then A*257 else 65535:Nat):Int) e w':=by
 have FC:Hid (∀ W,Calls Tryz.prog 35 #[.int .i64 3] W fun r w'=>r = .returned (.int .i64 1)∧w'=W):=fun W=>channels_any 3 W (by omega)
 obtain ⟨k1,hk1⟩:∃ k1,k1=k+1:=⟨_,rfl⟩
 obtain ⟨T0,hT0⟩:∃ T,T=3*V:=⟨_,rfl⟩
 obtain ⟨T3,hT3⟩:∃ T,T=3*V+3:=⟨_,rfl⟩
 have e1:(k:Int)+1=(k1:Int):=by omega
 have e2:3*(V:Int)=(T0:Int):=by omega
 have e3:(T0:Int)+3=(T3:Int):=by omega
 have b1:k≤k1:=by omega
 have b2:k1≤xc:=by omega
 have b3:T0≤T3:=by omega
 have b4:T3≤pc:=by omega
 have b5:T3 - T0=3:=by omega
 have b6:k1 - k=1:=by omega
 rw[← hT0] at p0 p1 p2
 have HL:Hid (∀ W,Kept w W→W.cell? ⟨gp,op+T0,none⟩=some (.int .i64 (P0:Int))∧W.cell? ⟨gp,op+T0+1,none⟩=some (.int .i64 (P1:Int))∧W.cell? ⟨gp,op+T0+2,none⟩=some (.int .i64 (P2:Int))):=fun W k=>⟨(k.cell (p:=⟨gp,op+T0,none⟩) (World.block_lt_of_cell? _ _ p0)).trans p0,(k.cell (p:=⟨gp,op+T0+1,none⟩) (World.block_lt_of_cell? _ _ p1)).trans p1,(k.cell (p:=⟨gp,op+T0+2,none⟩) (World.block_lt_of_cell? _ _ p2)).trans p2⟩
 have HS:Hid (∀ W,Kept w W→W.cell? ⟨x,5,none⟩=some (.slice qp Q qc)∧W.cell? ⟨gx,ox+k,none⟩=some (.int .i64 (V:Int))∧W.cell? ⟨x,4,none⟩=some (.slice (some ⟨gp,op,none⟩) PN pc)):=fun W k=>⟨(k.cell (p:=⟨x,5,none⟩) (World.block_lt_of_cell? _ _ c5)).trans c5,(k.cell (p:=⟨gx,_,none⟩) (World.block_lt_of_cell? _ _ v0)).trans v0,(k.cell (p:=⟨x,4,none⟩) (World.block_lt_of_cell? _ _ c4)).trans c4⟩
 have HQ:Hid (∀ W,Kept w W→V<Q→∃ g o,qp=some ⟨g,o,none⟩∧W.cell? ⟨g,o+V,none⟩=some (.int .i64 (A:Int))):=fun W k q=>by
  obtain ⟨g,o,e,h⟩:=hc q
  exact ⟨g,o,e,(k.cell (p:=⟨g,o+V,none⟩) (World.block_lt_of_cell? _ _ h)).trans h⟩
 obtain ⟨AL,hAL⟩:∃ AL,AL=(if V<Q then A*257 else 65535:Nat):=⟨_,rfl⟩
 have HAL:Hid (AL=(if V<Q then A*257 else 65535:Nat)):=hAL
 rw[← hAL]
 clear hc p0 p1 p2 hk1 hT0 hT3 hAL
 go_enter Tryz.func29,Tryz.ntmps29
 go_wp2_with fail
 refine (FC.out _).mono ?_
 rintro e w1 ⟨rfl,hw1⟩
 subst w1
 go_wp2_with fail
 go_quiet (fail)
 have K2:Hid (Kept w (w.drewN nq)):=(Kept.refl _).drewN _
 generalize w.drewN nq=w2 at *
 obtain ⟨d5,dv,d4⟩:=HS.out w2 K2.out
 by_cases hvq:V<Q
 ·have hvq':(V:Int)<(Q:Int):=by omega
  have v0':(0:Int)≤(V:Int):=by omega
  replace HAL:Hid (AL=A*257):=HAL.out.trans (if_pos hvq)
  go_wp2_with fail
  go_quiet (fail)
  have K3:Hid (Kept w (w2.drewN nq)):=K2.out.drewN _
  generalize w2.drewN nq=w3 at *
  obtain ⟨d5,dv,d4⟩:=HS.out w3 K3.out
  obtain ⟨gq,oq,rfl,dq⟩:=HQ.out w3 K3.out hvq
  go_wp2_with fail
  go_quiet (fail)
  have K4:Hid (Kept w (w3.drewN nq)):=K3.out.drewN _
  generalize w3.drewN nq=w4 at *
  obtain ⟨y0,y1,y2⟩:=HL.out w4 K4.out
  go_wp2_with fail
  go_region_held3 (fun W=>W.cell? ⟨gp,op+T0,none⟩=some (.int .i64 (P0:Int))∧W.cell? ⟨gp,op+T0+1,none⟩=some (.int .i64 (P1:Int))∧W.cell? ⟨gp,op+T0+2,none⟩=some (.int .i64 (P2:Int))) (first | exact ⟨y0,y1,y2⟩ | exact HL.out _ (Kept.trans K4.out (Below.alloc ((Kept.refl _).drewN 1) (by simp) _)) | go_keep) (fail)
  go_wp2_with fail
  go_ret
  have:=HAL.out
  refine Four4.of (four4_new K4.out _ _ _ _ _ _ ((Kept.refl _).drewN 1)) ?_ ?_ ?_ ?_<;>first | omega | (rw[IntKind.wrap_i64];omega)
 ·have hvq':¬ (V:Int)<(Q:Int):=by omega
  replace HAL:Hid (AL=65535):=HAL.out.trans (if_neg hvq)
  go_wp2_with fail
  go_quiet (fail)
  have K3:Hid (Kept w (w2.drewN nq)):=K2.out.drewN _
  generalize w2.drewN nq=w4 at *
  obtain ⟨y0,y1,y2⟩:=HL.out w4 K3.out
  go_wp2_with fail
  go_region_held3 (fun W=>W.cell? ⟨gp,op+T0,none⟩=some (.int .i64 (P0:Int))∧W.cell? ⟨gp,op+T0+1,none⟩=some (.int .i64 (P1:Int))∧W.cell? ⟨gp,op+T0+2,none⟩=some (.int .i64 (P2:Int))) (first | exact ⟨y0,y1,y2⟩ | exact HL.out _ (Kept.trans K3.out (Below.alloc ((Kept.refl _).drewN 1) (by simp) _)) | go_keep) (fail)
  go_wp2_with fail
  go_ret
  have:=HAL.out
  refine Four4.of (four4_new K3.out _ _ _ _ _ _ ((Kept.refl _).drewN 1)) ?_ ?_ ?_ ?_<;>first | omega | (rw[IntKind.wrap_i64];omega)
theorem dcol0_x (x k D N xc gx ox Q qc:Nat) (V0:Nat) (qp:Option Addr) (SM:Bool) (w:World) (c2:w.cell? ⟨x,2,none⟩=some (.int .i64 0)) (c3:w.cell? ⟨x,3,none⟩=some (.int .i64 (D:Int))) (c5:w.cell? ⟨x,5,none⟩=some (.slice qp Q qc)) (c6:w.cell? ⟨x,6,none⟩=some (.slice (some ⟨gx,ox,none⟩) N xc)) (hk:k*1+1≤xc) (hk2:k<100000) (hD:D=1∨D=2∨D=4∨D=8∨D=16) (v0:w.cell? ⟨gx,ox+(k*1+0),none⟩=some (.int .i64 (V0:Int))) (z0:V0<65536) (FJ:∀ W,Kept w W→Calls Tryz.prog 27 #[.slice (some ⟨gx,ox+k*1,none⟩) 1 (xc - k*1),.slice qp Q qc] W fun e w'=>e = .returned (.bool SM)∧Kept W w') :
  Calls Tryz.prog 29 #[.pointer (some ⟨x,0,none⟩),.int .i64 (k:Int)] w fun e w'=>Four4 w ((wdN D V0:Nat):Int) ((wdN D V0:Nat):Int) ((wdN D V0:Nat):Int) (if SM then 0 else 65535) e w':=by
 have FC:Hid (∀ W,Calls Tryz.prog 35 #[.int .i64 0] W fun r w'=>r = .returned (.int .i64 1)∧w'=W):=fun W=>channels_any 0 W (by omega)
 obtain ⟨T0,hT0⟩:∃ T,T=k*1:=⟨_,rfl⟩
 obtain ⟨T1,hT1⟩:∃ T,T=k*1+1:=⟨_,rfl⟩
 have e1:(k:Int)*1=(T0:Int):=by omega
 have e2:(T0:Int)+1=(T1:Int):=by omega
 have b1:T0≤T1:=by omega
 have b2:T1≤xc:=by omega
 have b3:T1 - T0=1:=by omega
 have b4:T0<1000000:=by omega
 rw[← hT0,Nat.add_zero] at v0
 rw[← hT0] at FJ
 replace FJ:Hid _:=FJ
 have FW0:Hid (∀ W,Calls Tryz.prog 47 #[.int .i64 (V0:Int),.int .i64 (D:Int)] W fun e w'=>e = .returned (.int .i64 (wdN D V0:Int))∧w'=W):=fun W=>wide_x V0 D W hD z0
 generalize wdN D V0=R0 at *
 have HL:Hid (∀ W,Kept w W→W.cell? ⟨x,3,none⟩=some (.int .i64 (D:Int))∧W.cell? ⟨gx,ox+T0,none⟩=some (.int .i64 (V0:Int))∧W.cell? ⟨x,2,none⟩=some (.int .i64 0)∧W.cell? ⟨x,5,none⟩=some (.slice qp Q qc)):=fun W k=>⟨(k.cell (p:=⟨x,3,none⟩) (World.block_lt_of_cell? _ _ c3)).trans c3,(k.cell (p:=⟨gx,_,none⟩) (World.block_lt_of_cell? _ _ v0)).trans v0,(k.cell (p:=⟨x,2,none⟩) (World.block_lt_of_cell? _ _ c2)).trans c2,(k.cell (p:=⟨x,5,none⟩) (World.block_lt_of_cell? _ _ c5)).trans c5⟩
 clear hT0 hT1 hD z0
 go_enter Tryz.func29,Tryz.ntmps29
 go_wp2_with fail
 refine (FC.out _).mono ?_
 rintro e w1 ⟨rfl,hw1⟩
 subst w1
 go_wp2_with fail
 refine (FJ.out _ (Kept.refl _)).mono ?_
 rintro e w3 ⟨rfl,hk3⟩
 have K3:Hid (Kept w w3):=hk3
 clear hk3
 obtain ⟨d3,y0,d2,d5⟩:=HL.out w3 K3.out
 cases SM with
 | true=>
  go_wp2_with fail
  go_quiet ((go_at_call 47;exact Calls.quiet_of_same (FW0.out _)))
  have K5:Hid (Kept w (w3.drewN nq)):=K3.out.drewN _
  generalize w3.drewN nq=w5 at *
  obtain ⟨d3,y0,d2,d5⟩:=HL.out w5 K5.out
  go_wp2_with fail
  go_ret
  refine Four4.of (four4_new K5.out _ _ _ _ _ _ (Kept.refl _)) rfl rfl rfl ?_
  rfl
 | false=>
  go_wp2_with fail
  go_quiet ((go_at_call 47;exact Calls.quiet_of_same (FW0.out _)))
  have K5:Hid (Kept w (w3.drewN nq)):=K3.out.drewN _
  generalize w3.drewN nq=w5 at *
  obtain ⟨d3,y0,d2,d5⟩:=HL.out w5 K5.out
  go_wp2_with fail
  go_ret
  refine Four4.of (four4_new K5.out _ _ _ _ _ _ (Kept.refl _)) rfl rfl rfl ?_
  rfl
theorem dcol4_x (x k D N xc gx ox:Nat) (V0 V1:Nat) (w:World) (c2:w.cell? ⟨x,2,none⟩=some (.int .i64 4)) (c3:w.cell? ⟨x,3,none⟩=some (.int .i64 (D:Int))) (c6:w.cell? ⟨x,6,none⟩=some (.slice (some ⟨gx,ox,none⟩) N xc)) (hk:k*2+2≤xc) (hk2:k<100000) (hD:D=1∨D=2∨D=4∨D=8∨D=16) (v0:w.cell? ⟨gx,ox+(k*2+0),none⟩=some (.int .i64 (V0:Int))) (z0:V0<65536) (v1:w.cell? ⟨gx,ox+(k*2+1),none⟩=some (.int .i64 (V1:Int))) (z1:V1<65536) :
  Calls Tryz.prog 29 #[.pointer (some ⟨x,0,none⟩),.int .i64 (k:Int)] w fun e w'=>Four4 w ((wdN D V0:Nat):Int) ((wdN D V0:Nat):Int) ((wdN D V0:Nat):Int) ((wdN D V1:Nat):Int) e w':=by
 have FC:Hid (∀ W,Calls Tryz.prog 35 #[.int .i64 4] W fun r w'=>r = .returned (.int .i64 2)∧w'=W):=fun W=>channels_any 4 W (by omega)
 obtain ⟨T0,hT0⟩:∃ T,T=k*2:=⟨_,rfl⟩
 obtain ⟨T1,hT1⟩:∃ T,T=k*2+2:=⟨_,rfl⟩
 have e1:(k:Int)*2=(T0:Int):=by omega
 have e2:(T0:Int)+2=(T1:Int):=by omega
 have b1:T0≤T1:=by omega
 have b2:T1≤xc:=by omega
 have b3:T1 - T0=2:=by omega
 have b4:T0<1000000:=by omega
 rw[← hT0,Nat.add_zero] at v0
 rw[← hT0,← Nat.add_assoc] at v1
 have FW0:Hid (∀ W,Calls Tryz.prog 47 #[.int .i64 (V0:Int),.int .i64 (D:Int)] W fun e w'=>e = .returned (.int .i64 (wdN D V0:Int))∧w'=W):=fun W=>wide_x V0 D W hD z0
 have FW1:Hid (∀ W,Calls Tryz.prog 47 #[.int .i64 (V1:Int),.int .i64 (D:Int)] W fun e w'=>e = .returned (.int .i64 (wdN D V1:Int))∧w'=W):=fun W=>wide_x V1 D W hD z1
 generalize wdN D V0=R0 at *
 generalize wdN D V1=R1 at *
 have HL:Hid (∀ W,Kept w W→W.cell? ⟨x,3,none⟩=some (.int .i64 (D:Int))∧W.cell? ⟨gx,ox+T0,none⟩=some (.int .i64 (V0:Int))∧W.cell? ⟨gx,ox+T0+1,none⟩=some (.int .i64 (V1:Int))∧W.cell? ⟨x,2,none⟩=some (.int .i64 4)):=fun W k=>⟨(k.cell (p:=⟨x,3,none⟩) (World.block_lt_of_cell? _ _ c3)).trans c3,(k.cell (p:=⟨gx,_,none⟩) (World.block_lt_of_cell? _ _ v0)).trans v0,(k.cell (p:=⟨gx,_,none⟩) (World.block_lt_of_cell? _ _ v1)).trans v1,(k.cell (p:=⟨x,2,none⟩) (World.block_lt_of_cell? _ _ c2)).trans c2⟩
 clear hT0 hT1 hD z0 z1
 go_enter Tryz.func29,Tryz.ntmps29
 go_wp2_with fail
 refine (FC.out _).mono ?_
 rintro e w1 ⟨rfl,hw1⟩
 subst w1
 go_wp2_with fail
 go_quiet ((go_at_call 47;exact Calls.quiet_of_same (FW1.out _)))
 have K4:Hid (Kept w (w.drewN nq)):=(Kept.refl _).drewN _
 generalize w.drewN nq=w4 at *
 obtain ⟨d3,y0,y1,d2⟩:=HL.out w4 K4.out
 go_wp2_with fail
 go_quiet ((go_at_call 47;exact Calls.quiet_of_same (FW0.out _)))
 have K5:Hid (Kept w (w4.drewN nq)):=K4.out.drewN _
 generalize w4.drewN nq=w5 at *
 obtain ⟨d3,y0,y1,d2⟩:=HL.out w5 K5.out
 go_wp2_with fail
 go_ret
 refine Four4.of (four4_new K5.out _ _ _ _ _ _ (Kept.refl _)) rfl rfl rfl ?_
 rfl
theorem dcol2_x (x k D N xc gx ox Q qc:Nat) (V0 V1 V2:Nat) (qp:Option Addr) (SM:Bool) (w:World) (c2:w.cell? ⟨x,2,none⟩=some (.int .i64 2)) (c3:w.cell? ⟨x,3,none⟩=some (.int .i64 (D:Int))) (c5:w.cell? ⟨x,5,none⟩=some (.slice qp Q qc)) (c6:w.cell? ⟨x,6,none⟩=some (.slice (some ⟨gx,ox,none⟩) N xc)) (hk:k*3+3≤xc) (hk2:k<100000) (hD:D=1∨D=2∨D=4∨D=8∨D=16) (v0:w.cell? ⟨gx,ox+(k*3+0),none⟩=some (.int .i64 (V0:Int))) (z0:V0<65536) (v1:w.cell? ⟨gx,ox+(k*3+1),none⟩=some (.int .i64 (V1:Int))) (z1:V1<65536) (v2:w.cell? ⟨gx,ox+(k*3+2),none⟩=some (.int .i64 (V2:Int))) (z2:V2<65536) (FJ:∀ W,Kept w W→Calls Tryz.prog 27 #[.slice (some ⟨gx,ox+k*3,none⟩) 3 (xc - k*3),.slice qp Q qc] W fun e w'=>e = .returned (.bool SM)∧Kept W w') :
  Calls Tryz.prog 29 #[.pointer (some ⟨x,0,none⟩),.int .i64 (k:Int)] w fun e w'=>Four4 w ((wdN D V0:Nat):Int) ((wdN D V1:Nat):Int) ((wdN D V2:Nat):Int) (if SM then 0 else 65535) e w':=by
 have FC:Hid (∀ W,Calls Tryz.prog 35 #[.int .i64 2] W fun r w'=>r = .returned (.int .i64 3)∧w'=W):=fun W=>channels_any 2 W (by omega)
 obtain ⟨T0,hT0⟩:∃ T,T=k*3:=⟨_,rfl⟩
 obtain ⟨T1,hT1⟩:∃ T,T=k*3+3:=⟨_,rfl⟩
 have e1:(k:Int)*3=(T0:Int):=by omega
 have e2:(T0:Int)+3=(T1:Int):=by omega
 have b1:T0≤T1:=by omega
 have b2:T1≤xc:=by omega
 have b3:T1 - T0=3:=by omega
 have b4:T0<1000000:=by omega
 rw[← hT0,Nat.add_zero] at v0
 rw[← hT0,← Nat.add_assoc] at v1
 rw[← hT0,← Nat.add_assoc] at v2
 rw[← hT0] at FJ
 replace FJ:Hid _:=FJ
 have FW0:Hid (∀ W,Calls Tryz.prog 47 #[.int .i64 (V0:Int),.int .i64 (D:Int)] W fun e w'=>e = .returned (.int .i64 (wdN D V0:Int))∧w'=W):=fun W=>wide_x V0 D W hD z0
 have FW1:Hid (∀ W,Calls Tryz.prog 47 #[.int .i64 (V1:Int),.int .i64 (D:Int)] W fun e w'=>e = .returned (.int .i64 (wdN D V1:Int))∧w'=W):=fun W=>wide_x V1 D W hD z1
 have FW2:Hid (∀ W,Calls Tryz.prog 47 #[.int .i64 (V2:Int),.int .i64 (D:Int)] W fun e w'=>e = .returned (.int .i64 (wdN D V2:Int))∧w'=W):=fun W=>wide_x V2 D W hD z2
 generalize wdN D V0=R0 at *
 generalize wdN D V1=R1 at *
 generalize wdN D V2=R2 at *
 have HL:Hid (∀ W,Kept w W→W.cell? ⟨x,3,none⟩=some (.int .i64 (D:Int))∧W.cell? ⟨gx,ox+T0,none⟩=some (.int .i64 (V0:Int))∧W.cell? ⟨gx,ox+T0+1,none⟩=some (.int .i64 (V1:Int))∧W.cell? ⟨gx,ox+T0+2,none⟩=some (.int .i64 (V2:Int))∧W.cell? ⟨x,2,none⟩=some (.int .i64 2)∧W.cell? ⟨x,5,none⟩=some (.slice qp Q qc)):=fun W k=>⟨(k.cell (p:=⟨x,3,none⟩) (World.block_lt_of_cell? _ _ c3)).trans c3,(k.cell (p:=⟨gx,_,none⟩) (World.block_lt_of_cell? _ _ v0)).trans v0,(k.cell (p:=⟨gx,_,none⟩) (World.block_lt_of_cell? _ _ v1)).trans v1,(k.cell (p:=⟨gx,_,none⟩) (World.block_lt_of_cell? _ _ v2)).trans v2,(k.cell (p:=⟨x,2,none⟩) (World.block_lt_of_cell? _ _ c2)).trans c2,(k.cell (p:=⟨x,5,none⟩) (World.block_lt_of_cell? _ _ c5)).trans c5⟩
 clear hT0 hT1 hD z0 z1 z2
 go_enter Tryz.func29,Tryz.ntmps29
 go_wp2_with fail
 refine (FC.out _).mono ?_
 rintro e w1 ⟨rfl,hw1⟩
 subst w1
 go_wp2_with fail
 refine (FJ.out _ (Kept.refl _)).mono ?_
 rintro e w3 ⟨rfl,hk3⟩
 have K3:Hid (Kept w w3):=hk3
 clear hk3
 obtain ⟨d3,y0,y1,y2,d2,d5⟩:=HL.out w3 K3.out
 cases SM with
 | true=>
  go_wp2_with fail
  go_quiet ((go_at_call 47;exact Calls.quiet_of_same (FW0.out _)))
  have K5:Hid (Kept w (w3.drewN nq)):=K3.out.drewN _
  generalize w3.drewN nq=w5 at *
  obtain ⟨d3,y0,y1,y2,d2,d5⟩:=HL.out w5 K5.out
  go_wp2_with fail
  go_quiet ((go_at_call 47;exact Calls.quiet_of_same (FW1.out _)))
  have K6:Hid (Kept w (w5.drewN nq)):=K5.out.drewN _
  generalize w5.drewN nq=w6 at *
  obtain ⟨d3,y0,y1,y2,d2,d5⟩:=HL.out w6 K6.out
  go_wp2_with fail
  go_quiet ((go_at_call 47;exact Calls.quiet_of_same (FW2.out _)))
  have K7:Hid (Kept w (w6.drewN nq)):=K6.out.drewN _
  generalize w6.drewN nq=w7 at *
  obtain ⟨d3,y0,y1,y2,d2,d5⟩:=HL.out w7 K7.out
  go_wp2_with fail
  go_ret
  refine Four4.of (four4_new K7.out _ _ _ _ _ _ (Kept.refl _)) rfl rfl rfl ?_
  rfl
 | false=>
  go_wp2_with fail
  go_quiet ((go_at_call 47;exact Calls.quiet_of_same (FW0.out _)))
  have K5:Hid (Kept w (w3.drewN nq)):=K3.out.drewN _
  generalize w3.drewN nq=w5 at *
  obtain ⟨d3,y0,y1,y2,d2,d5⟩:=HL.out w5 K5.out
  go_wp2_with fail
  go_quiet ((go_at_call 47;exact Calls.quiet_of_same (FW1.out _)))
  have K6:Hid (Kept w (w5.drewN nq)):=K5.out.drewN _
  generalize w5.drewN nq=w6 at *
  obtain ⟨d3,y0,y1,y2,d2,d5⟩:=HL.out w6 K6.out
  go_wp2_with fail
  go_quiet ((go_at_call 47;exact Calls.quiet_of_same (FW2.out _)))
  have K7:Hid (Kept w (w6.drewN nq)):=K6.out.drewN _
  generalize w6.drewN nq=w7 at *
  obtain ⟨d3,y0,y1,y2,d2,d5⟩:=HL.out w7 K7.out
  go_wp2_with fail
  go_ret
  refine Four4.of (four4_new K7.out _ _ _ _ _ _ (Kept.refl _)) rfl rfl rfl ?_
  rfl
theorem dcol6_x (x k D N xc gx ox:Nat) (V0 V1 V2 V3:Nat) (w:World) (c2:w.cell? ⟨x,2,none⟩=some (.int .i64 6)) (c3:w.cell? ⟨x,3,none⟩=some (.int .i64 (D:Int))) (c6:w.cell? ⟨x,6,none⟩=some (.slice (some ⟨gx,ox,none⟩) N xc)) (hk:k*4+4≤xc) (hk2:k<100000) (hD:D=1∨D=2∨D=4∨D=8∨D=16) (v0:w.cell? ⟨gx,ox+(k*4+0),none⟩=some (.int .i64 (V0:Int))) (z0:V0<65536) (v1:w.cell? ⟨gx,ox+(k*4+1),none⟩=some (.int .i64 (V1:Int))) (z1:V1<65536) (v2:w.cell? ⟨gx,ox+(k*4+2),none⟩=some (.int .i64 (V2:Int))) (z2:V2<65536) (v3:w.cell? ⟨gx,ox+(k*4+3),none⟩=some (.int .i64 (V3:Int))) (z3:V3<65536) :
  Calls Tryz.prog 29 #[.pointer (some ⟨x,0,none⟩),.int .i64 (k:Int)] w fun e w'=>Four4 w ((wdN D V0:Nat):Int) ((wdN D V1:Nat):Int) ((wdN D V2:Nat):Int) ((wdN D V3:Nat):Int) e w':=by
 have FC:Hid (∀ W,Calls Tryz.prog 35 #[.int .i64 6] W fun r w'=>r = .returned (.int .i64 4)∧w'=W):=fun W=>channels_any 6 W (by omega)
 obtain ⟨T0,hT0⟩:∃ T,T=k*4:=⟨_,rfl⟩
 obtain ⟨T1,hT1⟩:∃ T,T=k*4+4:=⟨_,rfl⟩
 have e1:(k:Int)*4=(T0:Int):=by omega
 have e2:(T0:Int)+4=(T1:Int):=by omega
 have b1:T0≤T1:=by omega
 have b2:T1≤xc:=by omega
 have b3:T1 - T0=4:=by omega
 have b4:T0<1000000:=by omega
 rw[← hT0,Nat.add_zero] at v0
 rw[← hT0,← Nat.add_assoc] at v1
 rw[← hT0,← Nat.add_assoc] at v2
 rw[← hT0,← Nat.add_assoc] at v3
 have FW0:Hid (∀ W,Calls Tryz.prog 47 #[.int .i64 (V0:Int),.int .i64 (D:Int)] W fun e w'=>e = .returned (.int .i64 (wdN D V0:Int))∧w'=W):=fun W=>wide_x V0 D W hD z0
 have FW1:Hid (∀ W,Calls Tryz.prog 47 #[.int .i64 (V1:Int),.int .i64 (D:Int)] W fun e w'=>e = .returned (.int .i64 (wdN D V1:Int))∧w'=W):=fun W=>wide_x V1 D W hD z1
 have FW2:Hid (∀ W,Calls Tryz.prog 47 #[.int .i64 (V2:Int),.int .i64 (D:Int)] W fun e w'=>e = .returned (.int .i64 (wdN D V2:Int))∧w'=W):=fun W=>wide_x V2 D W hD z2
 have FW3:Hid (∀ W,Calls Tryz.prog 47 #[.int .i64 (V3:Int),.int .i64 (D:Int)] W fun e w'=>e = .returned (.int .i64 (wdN D V3:Int))∧w'=W):=fun W=>wide_x V3 D W hD z3
 generalize wdN D V0=R0 at *
 generalize wdN D V1=R1 at *
 generalize wdN D V2=R2 at *
 generalize wdN D V3=R3 at *
 have HL:Hid (∀ W,Kept w W→W.cell? ⟨x,3,none⟩=some (.int .i64 (D:Int))∧W.cell? ⟨gx,ox+T0,none⟩=some (.int .i64 (V0:Int))∧W.cell? ⟨gx,ox+T0+1,none⟩=some (.int .i64 (V1:Int))∧W.cell? ⟨gx,ox+T0+2,none⟩=some (.int .i64 (V2:Int))∧W.cell? ⟨gx,ox+T0+3,none⟩=some (.int .i64 (V3:Int))∧W.cell? ⟨x,2,none⟩=some (.int .i64 6)):=fun W k=>⟨(k.cell (p:=⟨x,3,none⟩) (World.block_lt_of_cell? _ _ c3)).trans c3,(k.cell (p:=⟨gx,_,none⟩) (World.block_lt_of_cell? _ _ v0)).trans v0,(k.cell (p:=⟨gx,_,none⟩) (World.block_lt_of_cell? _ _ v1)).trans v1,(k.cell (p:=⟨gx,_,none⟩) (World.block_lt_of_cell? _ _ v2)).trans v2,(k.cell (p:=⟨gx,_,none⟩) (World.block_lt_of_cell? _ _ v3)).trans v3,(k.cell (p:=⟨x,2,none⟩) (World.block_lt_of_cell? _ _ c2)).trans c2⟩
 clear hT0 hT1 hD z0 z1 z2 z3
 go_enter Tryz.func29,Tryz.ntmps29
 go_wp2_with fail
 refine (FC.out _).mono ?_
 rintro e w1 ⟨rfl,hw1⟩
 subst w1
 go_wp2_with fail
 go_quiet ((go_at_call 47;exact Calls.quiet_of_same (FW3.out _)))
 have K4:Hid (Kept w (w.drewN nq)):=(Kept.refl _).drewN _
 generalize w.drewN nq=w4 at *
 obtain ⟨d3,y0,y1,y2,y3,d2⟩:=HL.out w4 K4.out
 go_wp2_with fail
 go_quiet ((go_at_call 47;exact Calls.quiet_of_same (FW0.out _)))
 have K5:Hid (Kept w (w4.drewN nq)):=K4.out.drewN _
 generalize w4.drewN nq=w5 at *
 obtain ⟨d3,y0,y1,y2,y3,d2⟩:=HL.out w5 K5.out
 go_wp2_with fail
 go_quiet ((go_at_call 47;exact Calls.quiet_of_same (FW1.out _)))
 have K6:Hid (Kept w (w5.drewN nq)):=K5.out.drewN _
 generalize w5.drewN nq=w6 at *
 obtain ⟨d3,y0,y1,y2,y3,d2⟩:=HL.out w6 K6.out
 go_wp2_with fail
 go_quiet ((go_at_call 47;exact Calls.quiet_of_same (FW2.out _)))
 have K7:Hid (Kept w (w6.drewN nq)):=K6.out.drewN _
 generalize w6.drewN nq=w7 at *
 obtain ⟨d3,y0,y1,y2,y3,d2⟩:=HL.out w7 K7.out
 go_wp2_with fail
 go_ret
 refine Four4.of (four4_new K7.out _ _ _ _ _ _ (Kept.refl _)) rfl rfl rfl ?_
 rfl
def entP (t:Tl) (i:Nat):Nat→Int:=if i<256 then pick4 ((t.pal (3*i)*257:Nat):Int) ((t.pal (3*i+1)*257:Nat):Int) ((t.pal (3*i+2)*257:Nat):Int) ((if i<t.clears then t.clear i*257 else 65535:Nat):Int) else fun _=>0
def FourX (w:World) (f:Nat→Int) (e:Ending) (w':World):Prop:=e = .returned (four (f 0) (f 1) (f 2) (f 3))∧Kept w w'
theorem four_pk {v0 v1 v2 v3 a0 a1 a2 a3:Int} (h0:v0=a0) (h1:v1=a1) (h2:v2=a2) (h3:v3=a3):Ending.returned (four (pick4 v0 v1 v2 v3 0) (pick4 v0 v1 v2 v3 1) (pick4 v0 v1 v2 v3 2) (pick4 v0 v1 v2 v3 3)) = .returned (four (pick4 a0 a1 a2 a3 0) (pick4 a0 a1 a2 a3 1) (pick4 a0 a1 a2 a3 2) (pick4 a0 a1 a2 a3 3)):=by rw[h0,h1,h2,h3]
theorem entry_x (b o n i:Nat) (c:Nat→Value) (t:Tl) (w:World) (hB:Blk w b n c) (hV:TlV c o t) (hn:o+1026≤n) (hp:∀ j,t.pal j<256) (hc:∀ j,t.clear j<256) :
  Calls Tryz.prog 147 #[.pointer (some ⟨b,o,none⟩),.int .i64 (i:Int)] w fun e w'=>FourX w (entP t i) e w':=by
 have R0:Hid (FourAt (w.alloc (Obj.cells #[.int .i64 0,.int .i64 0,.int .i64 0,.int .i64 0] 138)) w.heap.size (fun _=>0)):=by
  refine ⟨?_,?_,?_,?_⟩<;>exact (World.cell?_alloc_at _ _ _ _ rfl).trans rfl
 have K0:Hid (Kept w (w.alloc (Obj.cells #[.int .i64 0,.int .i64 0,.int .i64 0,.int .i64 0] 138))):=Below.alloc (Below.refl _ _) (Nat.le_refl _) _
 have Z0:Hid (∀ j,(w.alloc (Obj.cells #[.int .i64 0,.int .i64 0,.int .i64 0,.int .i64 0] 138)).frozen? ⟨w.heap.size,j,none⟩=false):=fun j=>World.frozen?_alloc_at _ _ _ _ rfl
 have i0:¬ (i:Int)<0:=by omega
 by_cases h:256≤i
 ·have h':(256:Int)≤(i:Int):=by omega
  have HE:Hid (entP t i=fun _=>0):=by show entP t i=_;unfold entP;rw[if_neg (by omega)]
  generalize entP t i=EP at *
  clear hp hc
  clear hB hV
  go_enter Tryz.func147,Tryz.ntmps147
  go_wp2_with fail
  exact bodyPost_ret (results_cell1 rfl _ _ _ _ _ rfl (load4 R0.out)) rfl ⟨by rw[HE.out],K0.out⟩
 ·have h':¬ (256:Int)≤(i:Int):=by omega
  have B0:=hB.kept K0.out
  have r0:=B0.at (i:=o+3*i) (by omega) (hV.pal (3*i) (by omega))
  have r1:=B0.at (i:=o+(3*i+1)) (by omega) (hV.pal (3*i+1) (by omega))
  have r2:=B0.at (i:=o+(3*i+2)) (by omega) (hV.pal (3*i+2) (by omega))
  have rc:=B0.at (i:=o+768+i) (by omega) (hV.clear i (by omega))
  have kc:=B0.at (i:=o+1025) (by omega) hV.clears
  obtain ⟨A0,hA0⟩:∃ A,A=3*i:=⟨_,rfl⟩
  obtain ⟨A1,hA1⟩:∃ A,A=3*i+1:=⟨_,rfl⟩
  obtain ⟨A2,hA2⟩:∃ A,A=3*i+2:=⟨_,rfl⟩
  have e0:3*(i:Int)=(A0:Int):=by omega
  have e1:(A0:Int)+1=(A1:Int):=by omega
  have e2:(A0:Int)+2=(A2:Int):=by omega
  have b0:(0:Int)≤(A0:Int):=by omega
  have b0':(A0:Int)<768:=by omega
  have b1:(0:Int)≤(A1:Int):=by omega
  have b1':(A1:Int)<768:=by omega
  have b2:(0:Int)≤(A2:Int):=by omega
  have b2':(A2:Int)<768:=by omega
  have i1:(0:Int)≤(i:Int):=by omega
  have i2:(i:Int)<256:=by omega
  have HE:Hid (entP t i=pick4 ((t.pal A0*257:Nat):Int) ((t.pal A1*257:Nat):Int) ((t.pal A2*257:Nat):Int) ((if i<t.clears then t.clear i*257 else 65535:Nat):Int)):=by show entP t i=_;unfold entP;rw[if_pos (by omega),← hA2,← hA1,← hA0]
  have px0:=hp A0
  have px1:=hp A1
  have px2:=hp A2
  have pxc:=hc i
  clear hp hc
  generalize entP t i=EP at *
  rw[← hA0] at r0
  rw[← hA1] at r1
  rw[← hA2] at r2
  generalize t.pal A0=X0 at *
  generalize t.pal A1=X1 at *
  generalize t.pal A2=X2 at *
  generalize t.clear i=XC at *
  generalize t.clears=CL at *
  clear hA0 hA1 hA2 hB hV B0 h
  have FSc:Hid (∀ W,Calls Tryz.prog 148 #[.int .i64 8] W fun e w'=>e = .returned (.int .i64 257)∧w'=W):=fun W=>scale_x 8 W
  go_enter Tryz.func147,Tryz.ntmps147
  go_upto_region 4 with fail
  generalize w.alloc (Obj.cells #[.int .i64 0,.int .i64 0,.int .i64 0,.int .i64 0] 138)=w1 at *
  go_upto_region 4 with fail
  go_cut [25] from 16 (fun v W=>v = .bool (decide (i<CL))∧W=w1)
  case first=>
   by_cases hcl:i<CL
   ·have hcl':(i:Int)<(CL:Int):=by omega
    go_wp2_with fail
    go_meet
    case rel=>exact ⟨by rw[decide_eq_true hcl],rfl⟩
   ·have hcl':¬ (i:Int)<(CL:Int):=by omega
    go_wp2_with fail
    go_meet
    case rel=>exact ⟨by rw[decide_eq_false hcl],rfl⟩
  case rest=>
   obtain ⟨hvc,hwc⟩:=hcut
   subst hvc
   have HBB:Hid ((if i<CL then XC*257 else 65535:Nat)=if decide (i<CL)=true then XC*257 else 65535):=by
    show (if i<CL then XC*257 else 65535:Nat)=_
    by_cases q:i<CL
    ·rw[if_pos q,if_pos (decide_eq_true q)]
    ·rw[if_neg q,if_neg (by rw[decide_eq_false q];decide)]
   generalize decide (i<CL)=BB at *
   subst wc
   have HAll:Hid (∀ W,Kept w1 W→W.cell? ⟨b,o+A0,none⟩=some (.int .u8 (X0:Int))∧W.cell? ⟨b,o+A1,none⟩=some (.int .u8 (X1:Int))∧W.cell? ⟨b,o+A2,none⟩=some (.int .u8 (X2:Int))):=fun W k=>⟨(k.cell (p:=⟨b,o+A0,none⟩) (World.block_lt_of_cell? _ _ r0)).trans r0,(k.cell (p:=⟨b,o+A1,none⟩) (World.block_lt_of_cell? _ _ r1)).trans r1,(k.cell (p:=⟨b,o+A2,none⟩) (World.block_lt_of_cell? _ _ r2)).trans r2⟩
   have KK:Hid (Kept w1 w1):=Kept.refl _
   cases BB
   case' true=>
    go_wp2_with fail
    go_quiet ((go_at_call 148;exact Calls.quiet_of_same (FSc.out _)))
    replace KK:Hid (Kept w1 (w1.drewN nq)):=(Kept.refl _).drewN _
    generalize w1.drewN nq=w2 at *
   case' false=>
    obtain ⟨w2,hw2⟩:∃ w2,w2=w1:=⟨_,rfl⟩
    rw[← hw2] at KK ⊢
    replace hw2:Hid _:=hw2
    have KK':Hid (Kept w1 w2):=by rw[hw2.out];exact Kept.refl _
    clear KK
    have KK:Hid (Kept w1 w2):=KK'.out
   all_goals
    clear r0 r1 r2 rc kc
    obtain ⟨r0,r1,r2⟩:=HAll.out w2 KK.out
    go_wp2_with fail
    go_quiet ((go_at_call 148;exact Calls.quiet_of_same (FSc.out _)))
    have K3:Hid (Kept w1 (w2.drewN nq)):=KK.out.drewN _
    generalize w2.drewN nq=w3 at *
    clear r0 r1 r2
    obtain ⟨r0,r1,r2⟩:=HAll.out w3 K3.out
    go_wp2_with fail
    go_quiet ((go_at_call 148;exact Calls.quiet_of_same (FSc.out _)))
    have K4:Hid (Kept w1 (w3.drewN nq)):=K3.out.drewN _
    generalize w3.drewN nq=w4 at *
    clear r0 r1 r2
    obtain ⟨r0,r1,r2⟩:=HAll.out w4 K4.out
    go_wp2_with fail
    go_quiet ((go_at_call 148;exact Calls.quiet_of_same (FSc.out _)))
    have K5:Hid (Kept w1 (w4.drewN nq)):=K4.out.drewN _
    generalize w4.drewN nq=w5 at *
    have R5:Hid (FourAt w5 w.heap.size (fun _=>0)):=R0.out.kept K5.out
    have zr:∀ j,w5.frozen? ⟨w.heap.size,j,none⟩=false:=fun j=>(K5.out.frozen (p:=⟨w.heap.size,j,none⟩) (show w.heap.size<w1.heap.size from World.block_lt_of_cell? w1 ⟨w.heap.size,0,none⟩ R0.out.1)).trans (Z0.out j)
    obtain ⟨t0,t1,t2,t3⟩:=R5.out
    go_wp2_with fail
    refine bodyPost_ret (results_cell1 rfl _ _ _ _ _ rfl (load4 (FourAt.put R5.out _ _ _ _))) rfl ⟨?_,?_⟩
    ·rw[HE.out,HBB.out]
     refine four_pk ?_ ?_ ?_ ?_<;>first | omega | (rw[IntKind.wrap_i64];omega) | rfl
    exact (((((K0.out.trans K5.out).setCell (Nat.le_refl _) _).setCell (Nat.le_refl _) _).setCell (Nat.le_refl _) _).setCell (Nat.le_refl _) _)
def alP (t:Tl) (C:Nat) (s:Nat→Int):Int:=if t.clears=0 then 65535 else if (∀ k,k<C→s k=(t.smp k:Int)) then 0 else 65535
theorem alP_none {t:Tl} {C:Nat} {s:Nat→Int} (h:t.clears=0):alP t C s=65535:=if_pos h
theorem alP_all {t:Tl} {C:Nat} {s:Nat→Int} (h:¬ t.clears=0) (k:∀ k,k<C→s k=(t.smp k:Int)):alP t C s=0:=by unfold alP;rw[if_neg h,if_pos k]
theorem alP_not {t:Tl} {C:Nat} {s:Nat→Int} (h:¬ t.clears=0) (j:Nat) (hj:j<C) (k:s j≠(t.smp j:Int)):alP t C s=65535:=by unfold alP;rw[if_neg h,if_neg (fun q=>k (q j hj))]
theorem alpha_x (b o n:Nat) (c:Nat→Value) (t:Tl) (h:Hd) (s0 s1 s2 s3:Int) (w:World) (hB:Blk w b n c) (hV:TlV c o t) (hn:o+1026≤n) (hc:∀ j,t.clear j<256) (hK:h.K≤6) :
  Calls Tryz.prog 149 #[.pointer (some ⟨b,o,none⟩),hdV h,four s0 s1 s2 s3] w fun e w'=>e = .returned (.int .i64 (alP t (chn h.K) (pick4 s0 s1 s2 s3)))∧Kept w w':=by
 unfold hdV four
 obtain ⟨wa,hwa⟩:∃ wa,wa=w.alloc (Obj.cells #[.int .i64 (h.W:Int),.int .i64 (h.H:Int),.int .i64 (h.D:Int),.int .i64 (h.K:Int),.int .i64 (h.L:Int)] 71):=⟨_,rfl⟩
 obtain ⟨wb,hwb⟩:∃ wb,wb=wa.alloc (Obj.cells #[.int .i64 s0,.int .i64 s1,.int .i64 s2,.int .i64 s3] 138):=⟨_,rfl⟩
 have hsa:wa.heap.size=w.heap.size+1:=by rw[hwa];simp
 have Ka:Kept w wa:=by rw[hwa];exact Below.alloc (Below.refl _ _) (Nat.le_refl _) _
 have Kb':Kept wa wb:=by rw[hwb];exact Below.alloc (Below.refl _ _) (Nat.le_refl _) _
 have Kb:Hid (Kept w wb):=Ka.trans Kb'
 have ck:wb.cell? ⟨w.heap.size,3,none⟩=some (.int .i64 (h.K:Int)):=by
  rw[Kb'.cell (p:=⟨w.heap.size,3,none⟩) (by show w.heap.size<wa.heap.size;omega),hwa]
  exact (World.cell?_alloc_at _ _ _ _ rfl).trans rfl
 have S4:Hid (FourAt wb (w.heap.size+1) (pick4 s0 s1 s2 s3)):=by
  rw[hwb,← hsa]
  refine ⟨?_,?_,?_,?_⟩<;>exact (World.cell?_alloc_at _ _ _ _ rfl).trans rfl
 have kc:=(hB.kept Kb.out).at (i:=o+1025) (by omega) hV.clears
 have HB:Hid (Blk wb b n c):=hB.kept Kb.out
 have HV:Hid (TlV c o t):=hV
 have HC:Hid (∀ j,t.clear j<256):=hc
 have FJ:Hid (∀ W':World,Calls Tryz.prog 93 #[.int .i64 (h.K:Int)] W' fun e w'=>e = .returned (.int .i64 (chn h.K:Int))∧w'=W'):=fun W'=>samples_x _ W' (by omega)
 have hch:=chn_le h.K
 have HA1:Hid (t.clears=0→alP t (chn h.K) (pick4 s0 s1 s2 s3)=65535):=alP_none
 have HA2:Hid (¬ t.clears=0→(∀ k,k<chn h.K→pick4 s0 s1 s2 s3 k=(t.smp k:Int))→alP t (chn h.K) (pick4 s0 s1 s2 s3)=0):=alP_all
 have HA3:Hid (¬ t.clears=0→∀ j,j<chn h.K→pick4 s0 s1 s2 s3 j≠(t.smp j:Int)→alP t (chn h.K) (pick4 s0 s1 s2 s3)=65535):=alP_not
 generalize alP t (chn h.K) (pick4 s0 s1 s2 s3)=AL at *
 generalize chn h.K=C at *
 clear hB hV hc Ka Kb'
 generalize hHK:h.K=HK at *
 generalize hHW:h.W=HW at *
 generalize hHH:h.H=HH at *
 generalize hHD:h.D=HD at *
 generalize hHL:h.L=HL at *
 have hkl:HK<1000:=by omega
 clear hHK hHW hHH hHD hHL
 go_enter Tryz.func149,Tryz.ntmps149
 go_upto_region 1 with fail
 rw[← hwa,← hwb]
 replace hwa:Hid _:=hwa
 replace hwb:Hid _:=hwb
 by_cases hcl:t.clears=0
 ·have hcl':((t.clears:Int) == 0)=true:=by rw[beq_iff_eq];omega
  generalize t.clears=CL at *
  replace hcl:Hid _:=hcl
  go_wp2_with fail
  go_ret
  exact ⟨by rw[HA1.out hcl.out];rfl,Kb.out⟩
 ·have hcl':((t.clears:Int) == 0)=false:=by rw[beq_eq_false_iff_ne];omega
  generalize t.clears=CL at *
  replace hcl:Hid _:=hcl
  go_wp2_with fail
  go_loopg [7] 4 (fun m v W=>∃ k:Nat,m=4 - k∧k≤4∧v = .int .i64 (k:Int)∧Kept wb W∧∀ j,j<k→pick4 s0 s1 s2 s3 j=(t.smp j:Int))
  case atStart=>exact ⟨0,by omega,by omega,rfl,Kept.refl _,fun j hj=>by omega⟩
  case round=>
   obtain ⟨k,hgk,hk4,rfl,hkw,hall⟩:=hrel
   replace hall:Hid _:=hall
   replace hgk:Hid _:=hgk
   have HKW:Hid (Kept wb wr):=hkw
   have ck':=(hkw.cell (p:=⟨w.heap.size,3,none⟩) (World.block_lt_of_cell? _ _ ck)).trans ck
   have HS4:Hid (FourAt wr (w.heap.size+1) (pick4 s0 s1 s2 s3)):=S4.out.kept hkw
   clear hkw
   by_cases hlt:k<C
   ·have hlt':(k:Int)<(C:Int):=by omega
    have h4':(k:Int)<4:=by omega
    have k0:(0:Int)≤(k:Int):=by omega
    have kg:=HS4.out.get k (by omega)
    have FC:Hid (∀ q,Calls Tryz.prog 146 #[.pointer (some ⟨b,o,none⟩),.int .i64 (k:Int)] (wr.drewN q) fun e w'=>e = .returned (.int .i64 (t.smp k:Int))∧∃ m,w'=(wr.drewN q).drewN m):=fun q=>clearSample_x b o n k c t (wr.drewN q) ((HB.out.kept HKW.out).kept ((Kept.refl _).drewN q)) HV.out hn (by omega) HC.out
    generalize hV:t.smp k=V at *
    replace hV:Hid _:=hV
    generalize hSK:pick4 s0 s1 s2 s3 k=SK at *
    replace hSK:Hid _:=hSK
    go_wp2_with fail
    refine (FJ.out _).mono ?_
    rintro e w2 ⟨rfl,hw2⟩
    subst w2
    go_wp2_with fail
    go_quiet ((go_at_call 146;exact Calls.quiet_of (FC.out _)))
    cases hne:(SK != (V:Int))
    ·go_wp2_with fail
     go_roundg (4 - (k+1))
     case measure=>rw[hgk.out];omega
     case rel=>exact ⟨k+1,rfl,by omega,by go_num,HKW.out.drewN _,fun j hj=>by
      by_cases q:j=k
      ·subst q
       rw[hSK.out,hV.out]
       simpa using hne
      ·exact hall.out j (by omega)⟩
    ·go_wp2_with fail
     go_ret
     exact ⟨by rw[HA3.out hcl.out k hlt (by rw[hSK.out,hV.out];simpa using hne)];rfl,Kb.out.trans (HKW.out.drewN _)⟩
   ·have hlt':¬ (k:Int)<(C:Int):=by omega
    go_wp2_with fail
    refine (FJ.out _).mono ?_
    rintro e w2 ⟨rfl,hw2⟩
    subst w2
    go_wp2_with fail
    go_ret
    exact ⟨by rw[HA2.out hcl.out (fun j hj=>hall.out j (by omega))];rfl,Kb.out.trans HKW.out⟩
end Go.Proofs.YtmbmecfodigciaaGreatDoor
