import Derived.Test.YtgooinallljbpaaGreatDoorTd21
import Derived.Test.YtgooinallljbpaaGreatDoorTd14
import Derived.Test.YtgooinallljbpaaGreatDoorTd34
import Derived.Test.YtgooinallljbpaaGreatDoorTd26
import Derived.Test.YtgooinallljbpaaGreatDoorTd31
import Derived.Test.YtgooinallljbpaaGreatDoorTd20
set_option maxRecDepth 100000
set_option maxHeartbeats 6400000
namespace Go.Proofs.YtgooinallljbpaaGreatDoor
open Go.RowKit Px
set_option linter.unusedSimpArgs false
set_option linter.unusedVariables false
theorem Hw {k d:Nat} (h:lx k d=true):k<=6/\d<=16/\okD d:=by
 unfold lx at h;unfold okD
 split at h
 ·have:=of_decide_eq_true h;omega
 split at h
 ·have:=of_decide_eq_true h;omega
 split at h
 ·have:=of_decide_eq_true h;omega
 ·cases h
theorem Cf {d:Nat->Nat} (h:(aB d).1=0):(aB d).2.W<=16/\(aB d).2.H<=16/\(aB d).2.D<=16/\(aB d).2.K<=6/\(aB d).2.L<=1/\okD (aB d).2.D:=by
 unfold aB at h ⊢;simp only [] at h ⊢
 split at h
 ·exact absurd h (by show ¬ 7=0;omega)
 rename_i q1
 rw[if_neg q1]
 split at h
 ·exact absurd h (by show ¬ 7=0;omega)
 rename_i q2
 rw[if_neg q2]
 split at h
 ·exact absurd h (by show ¬ 8=0;omega)
 rename_i q3
 rw[if_neg q3];have hl:lx (d 9) (d 8)=true:=by
  cases e:lx (d 9) (d 8) with
  | true=>rfl
  | false=>exact absurd (Or.inr (Or.inr (Or.inr (Or.inr e)))) q1
 obtain ⟨l1,l2,l3⟩:=Hw hl;refine ⟨?_,?_,l2,l1,?_,l3⟩
 ·show ((d 0*256+d 1)*256+d 2)*256+d 3<=16
  omega
 ·show ((d 4*256+d 5)*256+d 6)*256+d 7<=16
  omega
 ·show d 12<=1
  omega
structure RdB (s:Rd):Prop where
 hd:FU s
 dd:s.hd.W≠0->okD s.hd.D
 colours:s.tl.colours<=256
 raw:∀ i,s.raw i<256
 clear:∀ j,s.tl.clear j<256
 str:s.sd=true->StB s.st/\RwJ s.rw
structure RdP (s:Rd):Prop where
 part:s.part<=5
 tk0:s.part=0->s.taken<8
 tkn:s.part=1\/s.part=2\/s.part=4->s.taken<4/\s.number<256^s.taken
 tk3:s.part=3->s.taken<s.length
 tk5:s.part=5->s.taken=0
 sum:s.sum<4294967296
 len:s.length<2147483648
 i3:s.part=3->s.ctype=aY->s.length=13
 p3:s.part=3->s.ctype=cq->s.length<=768
 t3:s.part=3->s.ctype=bZ->s.length<=256
 d3:s.part=3->s.ctype=aJ->s.sd=true
structure RdJ (s:Rd):Prop where
 b:RdB s
 p:RdP s
theorem RdB.same {s t:Rd} (h:RdB s) (e1:t.hd=s.hd) (e2:t.tl=s.tl) (e3:t.raw=s.raw) (e4:t.sd=s.sd) (e5:t.st=s.st) (e6:t.rw=s.rw):RdB t:=by
 obtain ⟨⟨a1,a2,a3,a4,a5⟩,b,c,d,e,f⟩:=h;exact ⟨⟨by rw[e1];exact a1,by rw[e1];exact a2,by rw[e1];exact a3,by rw[e1];exact a4,by rw[e1];exact a5⟩,by rw[e1];exact b,by rw[e2];exact c,by rw[e3];exact d,by rw[e2];exact e,by rw[e4,e5,e6];exact f⟩
theorem GM {n k:Nat} (h:n<256^k) (hk:k<=3):n<16777216:=Nat.lt_of_lt_of_le h (Nat.pow_le_pow_right (n:=256) (by omega) hk)
theorem RdJ.takeOk {s:Rd} {x:Nat} (h:RdJ s) (hx:x<256):CN s x:=by
 have hp:=h.p.part;have hlen:=h.p.len;refine ⟨hp,fun q => ?_,fun q => ?_,h.p.sum,fun q => ?_,h.b.hd,fun q => ?_,fun q => ?_,h.b.raw,h.b.clear⟩
 ·have:s.part=0\/(s.part=1\/s.part=2\/s.part=4)\/s.part=5:=by omega
  rcases this with e | e | e
  ·have:=h.p.tk0 e;omega
  ·have:=(h.p.tkn e).1;omega
  ·have:=h.p.tk5 e;omega
 ·obtain ⟨a,b⟩:=h.p.tkn q
  exact GM b (by omega)
 ·obtain ⟨a,b⟩:=h.p.tkn (Or.inr (Or.inl q))
  have hn:=GM b (by omega);exact ⟨h.b.colours,h.b.hd.K,h.b.hd.D,hlen,by show s.number*256+x<4294967296;omega⟩
 ·have ht:=h.p.tk3 q
  refine ⟨fun c => ?_,fun c => ?_,fun c => ?_,fun c n10 => ?_⟩
  ·have:=h.p.i3 q c;show s.taken<13;omega
  ·have:=h.p.p3 q c;show s.taken<768;omega
  ·have:=h.p.t3 q c;show s.taken<256;omega
  ·obtain ⟨a,b⟩:=h.b.str (h.p.d3 q c)
   exact (C7 (x:=x) a b).1 n10
 ·have ht:=h.p.tk3 q
  have e:((s.summed x).keep x).1.taken=s.taken:=by
   unfold Rd.keep;split
   ·rfl
   split
   ·rfl
   split
   ·rfl
   split
   ·unfold Rd.takeStream
    split
    ·rfl
    split
    ·rfl
    ·rfl
   ·rfl
  rw[e];omega
theorem wE {s:Rd} (h:s.checkType=0):(s.ctype=aY->s.length=13)/\(s.ctype=cq->s.length<=768)/\(s.ctype=bZ->s.tl.colours<=256->s.length<=256)/\(s.ctype≠aY->s.hd.W≠0):=by
 unfold Rd.checkType at h
 split at h
 ·exact absurd h (by omega)
 split at h
 ·rename_i q0
  unfold Rd.checkFirst at h
  split at h
  ·exact absurd h (by omega)
  rename_i q1
  split at h
  ·exact absurd h (by omega)
  rename_i q2
  have c1:s.ctype=aY:=Classical.byContradiction q1;have c2:s.length=13:=Classical.byContradiction q2;exact ⟨fun _=>c2,fun c=>by rw[c2];omega,fun _ _=>by rw[c2];omega,fun n=>absurd c1 n⟩
 rename_i q0
 split at h
 ·exact absurd h (by omega)
 unfold Rd.checkKind at h
 split at h
 ·exact absurd h (by omega)
 rename_i n1
 refine ⟨fun c=>absurd c n1,fun c => ?_,fun c hc => ?_,fun _=>q0⟩
 ·rw[if_pos c] at h
  unfold Rd.checkPalette at h
  split at h
  ·exact absurd h (by omega)
  split at h
  ·exact absurd h (by omega)
  split at h
  ·exact absurd h (by omega)
  omega
 ·rw[if_neg (by rw[c];decide),if_pos c] at h
  unfold Rd.checkClear at h;have hch:=ob s.hd.K
  split at h
  ·exact absurd h (by omega)
  split at h
  ·split at h
   ·exact absurd h (by omega)
   ·omega
  split at h
  ·unfold Rd.checkAlphas at h
   split at h
   ·exact absurd h (by omega)
   split at h
   ·exact absurd h (by omega)
   omega
  ·exact absurd h (by omega)
theorem LQ (s:Rd):s.note.ctype=s.ctype/\s.note.length=s.length/\s.note.sum=s.sum/\(s.ctype=aJ->s.note.sd=true):=by
 have h1:s.note1.ctype=s.ctype/\s.note1.length=s.length/\s.note1.sum=s.sum/\(s.ctype=aJ->s.note1.sd=true):=by
  unfold Rd.note1;split
  ·rename_i c;exact ⟨rfl,rfl,rfl,fun q=>by rw[c] at q;exact absurd q (by decide)⟩
  split
  ·rename_i c;exact ⟨rfl,rfl,rfl,fun q=>by rw[c] at q;exact absurd q (by decide)⟩
  split
  ·unfold Rd.begin
   split
   ·rename_i c;exact ⟨rfl,rfl,rfl,fun _=>c⟩
   ·exact ⟨rfl,rfl,rfl,fun _=>rfl⟩
  ·rename_i c;exact ⟨rfl,rfl,rfl,fun q=>absurd q c⟩
 unfold Rd.note Rd.note2;split
 ·exact h1
 ·exact h1
theorem RdB.note {s:Rd} (b:RdB s) (h:s.checkType=0):RdB s.note:=by
 obtain ⟨z1,z2,z3,z4⟩:=wE h;have h1:RdB s.note1:=by
  unfold Rd.note1;split
  ·rename_i c
   have:=z2 c
   exact ⟨⟨b.hd.W,b.hd.H,b.hd.D,b.hd.K,b.hd.L⟩,b.dd,by show s.length / 3<=256;omega,b.raw,b.clear,b.str⟩
  split
  ·exact ⟨⟨b.hd.W,b.hd.H,b.hd.D,b.hd.K,b.hd.L⟩,b.dd,b.colours,b.raw,b.clear,b.str⟩
  split
  ·rename_i c
   unfold Rd.begin;split
   ·exact b
   ·exact ⟨⟨b.hd.W,b.hd.H,b.hd.D,b.hd.K,b.hd.L⟩,b.dd,b.colours,b.raw,b.clear,fun _=>⟨StB.start,RwJ.start b.hd.W b.hd.H b.hd.D b.hd.K b.hd.L (b.dd (z4 (by rw[c];decide))) b.colours⟩⟩
  ·exact b
 unfold Rd.note Rd.note2;split
 ·exact h1.same rfl rfl rfl rfl rfl rfl
 ·exact h1
theorem LZ (s:Rd) (x:Nat):(s.keep x).1.part=s.part/\(s.keep x).1.taken=s.taken/\(s.keep x).1.length=s.length/\(s.keep x).1.ctype=s.ctype/\(s.keep x).1.sum=s.sum/\(s.keep x).1.hd=s.hd/\(s.keep x).1.sd=s.sd:=by
 unfold Rd.keep;split
 ·exact ⟨rfl,rfl,rfl,rfl,rfl,rfl,rfl⟩
 split
 ·exact ⟨rfl,rfl,rfl,rfl,rfl,rfl,rfl⟩
 split
 ·exact ⟨rfl,rfl,rfl,rfl,rfl,rfl,rfl⟩
 split
 ·unfold Rd.takeStream
  split
  ·exact ⟨rfl,rfl,rfl,rfl,rfl,rfl,rfl⟩
  split
  ·exact ⟨rfl,rfl,rfl,rfl,rfl,rfl,rfl⟩
  ·exact ⟨rfl,rfl,rfl,rfl,rfl,rfl,rfl⟩
 ·exact ⟨rfl,rfl,rfl,rfl,rfl,rfl,rfl⟩
theorem Gc {f:Nat->Nat} {k x:Nat} (hf:∀ i,f i<256) (hx:x<256) (i:Nat):upd f k x i<256:=by
 by_cases e:i=k
 ·rw[e,upd_same];exact hx
 ·rw[upd_ne _ _ _ e];exact hf i
theorem RdB.keep {s:Rd} {x:Nat} (b:RdB s) (hx:x<256) (h3:s.ctype=aJ->s.sd=true) (he:(s.keep x).2=0):RdB (s.keep x).1:=by
 unfold Rd.keep at he ⊢;by_cases c1:s.ctype=aY
 ·rw[if_pos c1]
  exact ⟨⟨b.hd.W,b.hd.H,b.hd.D,b.hd.K,b.hd.L⟩,b.dd,b.colours,Gc b.raw hx,b.clear,b.str⟩
 rw[if_neg c1] at he ⊢;by_cases c2:s.ctype=cq
 ·rw[if_pos c2]
  exact ⟨⟨b.hd.W,b.hd.H,b.hd.D,b.hd.K,b.hd.L⟩,b.dd,b.colours,b.raw,b.clear,b.str⟩
 rw[if_neg c2] at he ⊢;by_cases c3:s.ctype=bZ
 ·rw[if_pos c3]
  exact ⟨⟨b.hd.W,b.hd.H,b.hd.D,b.hd.K,b.hd.L⟩,b.dd,b.colours,b.raw,Gc b.clear hx,b.str⟩
 rw[if_neg c3] at he ⊢;by_cases c4:s.ctype=aJ
 ·rw[if_pos c4] at he ⊢
  obtain ⟨a1,a2⟩:=b.str (h3 c4);unfold Rd.takeStream at he ⊢;by_cases q1:(takeB s.st s.rw x).2.2≠0
  ·rw[if_pos q1] at he;exact absurd he q1
  rw[if_neg q1] at he ⊢;have q2:(takeB s.st s.rw x).2.2=0:=Classical.byContradiction q1;obtain ⟨t1,t2⟩:=(C7 (x:=x) a1 a2).2 q2;by_cases q3:(decide ((takeB s.st s.rw x).1.part=10) && !aR (takeB s.st s.rw x).2.1)=true
  ·rw[if_pos q3] at he;exact absurd he (by show ¬ 18=0;omega)
  rw[if_neg q3];exact ⟨⟨b.hd.W,b.hd.H,b.hd.D,b.hd.K,b.hd.L⟩,b.dd,b.colours,b.raw,b.clear,fun _=>⟨t1,t2⟩⟩
 ·rw[if_neg c4];exact b
theorem Jf (s:Rd):s.accept.1.part=s.part/\s.accept.1.length=s.length/\s.accept.1.ctype=s.ctype/\s.accept.1.sum=s.sum:=by
 unfold Rd.accept;split
 ·unfold Rd.acceptHead
  split
  ·exact ⟨rfl,rfl,rfl,rfl⟩
  ·exact ⟨rfl,rfl,rfl,rfl⟩
 split
 ·exact ⟨rfl,rfl,rfl,rfl⟩
 ·exact ⟨rfl,rfl,rfl,rfl⟩
theorem RdB.accept {s:Rd} (b:RdB s):RdB s.accept.1:=by
 unfold Rd.accept;split
 ·unfold Rd.acceptHead
  split
  ·exact b
  ·rename_i q
   have q':(aB s.raw).1=0:=Classical.byContradiction q;obtain ⟨h1,h2,h3,h4,h5,h6⟩:=Cf q';exact ⟨⟨h1,h2,h3,h4,h5⟩,fun _=>h6,b.colours,b.raw,b.clear,b.str⟩
 split
 ·exact b
 ·exact b
theorem RdP.enter {s:Rd} {p:Nat} (hp:p<=5) (h3:p=3->0<s.length/\(s.ctype=aY->s.length=13)/\(s.ctype=cq->s.length<=768)/\(s.ctype=bZ->s.length<=256)/\(s.ctype=aJ->s.sd=true)) (hs:s.sum<4294967296) (hl:s.length<2147483648):RdP (s.enter p) :=
 ⟨hp,fun _=>by show 0<8;omega,fun _=>⟨by show 0<4;omega,by show 0<256^0;decide⟩,fun q=>(h3 q).1,fun _=>rfl,hs,hl,fun q=>(h3 q).2.1,fun q=>(h3 q).2.2.1,fun q=>(h3 q).2.2.2.1,fun q=>(h3 q).2.2.2.2⟩
theorem BT {n k x:Nat} (h:n<256^k) (hx:x<256):n*256+x<256^(k+1):=by rw[Nat.pow_succ];omega
theorem RdJ.take {s:Rd} {x:Nat} (h:RdJ s) (hx:x<256) (he:(s.take x).2=0):RdJ (s.take x).1:=by
 have hp:=h.p.part;have hlen:=h.p.len;have hsm:=h.p.sum;have hA:cB s.sum x<4294967296:=xn _ _ hsm hx;unfold Rd.take at he ⊢;by_cases p0:s.part=0
 ·rw[if_pos p0] at he ⊢
  have ht:=h.p.tk0 p0;unfold Rd.takeSign at he ⊢;by_cases q:8<=s.taken\/x≠fP s.taken
  ·rw[if_pos q] at he;exact absurd he (by show ¬ 1=0;omega)
  rw[if_neg q];by_cases q2:s.taken+1=8
  ·rw[if_pos q2]
   exact ⟨h.b.same rfl rfl rfl rfl rfl rfl,RdP.enter (s:={ s with taken:=s.taken+1 }) (by omega) (fun e=>by omega) hsm hlen⟩
  ·rw[if_neg q2]
   refine ⟨h.b.same rfl rfl rfl rfl rfl rfl,⟨hp,fun _=>by show s.taken+1<8;omega,fun e => ?_,fun e => ?_,fun e => ?_,hsm,hlen,h.p.i3,h.p.p3,h.p.t3,h.p.d3⟩⟩
   ·replace e:s.part=1\/s.part=2\/s.part=4:=e;omega
   ·replace e:s.part=3:=e;omega
   ·replace e:s.part=5:=e;omega
 rw[if_neg p0] at he ⊢;by_cases p1:s.part=1
 ·rw[if_pos p1] at he ⊢
  obtain ⟨ht,hn⟩:=h.p.tkn (Or.inl p1);unfold Rd.takeLength at he ⊢;by_cases q:s.taken+1≠4
  ·rw[if_pos q]
   refine ⟨h.b.same rfl rfl rfl rfl rfl rfl,⟨hp,fun e=>absurd e p0,fun _=>⟨by show s.taken+1<4;omega,BT hn hx⟩,fun e => ?_,fun e => ?_,hsm,hlen,h.p.i3,h.p.p3,h.p.t3,h.p.d3⟩⟩
   ·replace e:s.part=3:=e;omega
   ·replace e:s.part=5:=e;omega
  rw[if_neg q] at he ⊢;by_cases q2:2147483648<=s.number*256+x
  ·rw[if_pos q2] at he;exact absurd he (by show ¬ 2=0;omega)
  rw[if_neg q2];exact ⟨h.b.same rfl rfl rfl rfl rfl rfl,RdP.enter (by omega) (fun e=>by omega) (by show au<4294967296;decide) (by show s.number*256+x<2147483648;omega)⟩
 rw[if_neg p1] at he ⊢;by_cases p2:s.part=2
 ·rw[if_pos p2] at he ⊢
  obtain ⟨ht,hn⟩:=h.p.tkn (Or.inr (Or.inl p2));unfold Rd.takeType at he ⊢;by_cases q:s.taken+1≠4
  ·rw[if_pos q]
   refine ⟨h.b.same rfl rfl rfl rfl rfl rfl,⟨hp,fun e=>absurd e p0,fun _=>⟨by show s.taken+1<4;omega,BT hn hx⟩,fun e => ?_,fun e => ?_,hA,hlen,fun e => ?_,fun e => ?_,fun e => ?_,fun e => ?_⟩⟩
   ·replace e:s.part=3:=e;omega
   ·replace e:s.part=5:=e;omega
   ·replace e:s.part=3:=e;omega
   ·replace e:s.part=3:=e;omega
   ·replace e:s.part=3:=e;omega
   ·replace e:s.part=3:=e;omega
  rw[if_neg q] at he ⊢;by_cases q2:(s.typed x).checkType≠0
  ·rw[if_pos q2] at he;exact absurd he q2
  rw[if_neg q2] at he ⊢;have q3:(s.typed x).checkType=0:=Classical.byContradiction q2;have bt:RdB (s.typed x):=h.b.same rfl rfl rfl rfl rfl rfl;obtain ⟨z1,z2,z3,z4⟩:=wE q3;obtain ⟨n1,n2,n3,n4⟩:=LQ (s.typed x);have bn:=bt.note q3;have sn:(s.typed x).note.sum<4294967296:=by rw[n3];exact hA
  have ln:(s.typed x).note.length<2147483648:=by rw[n2];exact hlen
  by_cases q4:(s.typed x).note.length=0
  ·rw[if_pos q4]
   exact ⟨bn.same rfl rfl rfl rfl rfl rfl,RdP.enter (by omega) (fun e=>by omega) sn ln⟩
  ·rw[if_neg q4]
   exact ⟨bn.same rfl rfl rfl rfl rfl rfl,RdP.enter (by omega) (fun _=>⟨by omega,fun c=>by rw[n2];exact z1 (by rw[<- n1];exact c),fun c=>by rw[n2];exact z2 (by rw[<- n1];exact c),fun c=>by rw[n2];exact z3 (by rw[<- n1];exact c) bt.colours,fun c=>n4 (by rw[<- n1];exact c)⟩) sn ln⟩
 rw[if_neg p2] at he ⊢;by_cases p3:s.part=3
 ·rw[if_pos p3] at he ⊢
  have ht:=h.p.tk3 p3;unfold Rd.takeData at he ⊢;have bs:RdB (s.summed x):=h.b.same rfl rfl rfl rfl rfl rfl;by_cases q:((s.summed x).keep x).2≠0
  ·rw[if_pos q] at he;exact absurd he q
  rw[if_neg q] at he ⊢;have q1:((s.summed x).keep x).2=0:=Classical.byContradiction q;have bk:=bs.keep hx (fun c=>h.p.d3 p3 c) q1;obtain ⟨f1,f2,f3,f4,f5,f6,f7⟩:=LZ (s.summed x) x;generalize ((s.summed x).keep x).1=k at *;replace f1:k.part=s.part:=f1;replace f2:k.taken=s.taken:=f2;replace f3:k.length=s.length:=f3;replace f4:k.ctype=s.ctype:=f4;replace f5:k.sum=cB s.sum x:=f5;replace f7:k.sd=s.sd:=f7;show RdJ k.dataEnd
  unfold Rd.dataEnd;by_cases q2:k.taken+1=k.length
  ·rw[if_pos q2]
   exact ⟨bk.same rfl rfl rfl rfl rfl rfl,RdP.enter (s:={ k with taken:=k.taken+1 }) (by omega) (fun e=>by omega) (by show k.sum<_;rw[f5];exact hA) (by show k.length<_;rw[f3];exact hlen)⟩
  ·rw[if_neg q2]
   refine ⟨bk.same rfl rfl rfl rfl rfl rfl,⟨by show k.part<=5;omega,fun e => ?_,fun e => ?_,fun _ => ?_,fun e => ?_,by show k.sum<_;rw[f5];exact hA,by show k.length<_;rw[f3];exact hlen,fun _ c => ?_,fun _ c => ?_,fun _ c => ?_,fun _ c => ?_⟩⟩
   ·replace e:k.part=0:=e;omega
   ·replace e:k.part=1\/k.part=2\/k.part=4:=e;omega
   ·show k.taken+1<k.length;omega
   ·replace e:k.part=5:=e;omega
   ·show k.length=13;rw[f3];exact h.p.i3 p3 (by rw[<- f4];exact c)
   ·show k.length<=768;rw[f3];exact h.p.p3 p3 (by rw[<- f4];exact c)
   ·show k.length<=256;rw[f3];exact h.p.t3 p3 (by rw[<- f4];exact c)
   ·show k.sd=true;rw[f7];exact h.p.d3 p3 (by rw[<- f4];exact c)
 rw[if_neg p3] at he ⊢;by_cases p4:s.part=4
 ·rw[if_pos p4] at he ⊢
  obtain ⟨ht,hn⟩:=h.p.tkn (Or.inr (Or.inr p4));unfold Rd.takeSum at he ⊢;by_cases q:s.taken+1≠4
  ·rw[if_pos q]
   refine ⟨h.b.same rfl rfl rfl rfl rfl rfl,⟨hp,fun e=>absurd e p0,fun _=>⟨by show s.taken+1<4;omega,BT hn hx⟩,fun e=>absurd e p3,fun e => ?_,hsm,hlen,fun e=>absurd e p3,fun e=>absurd e p3,fun e=>absurd e p3,fun e=>absurd e p3⟩⟩;replace e:s.part=5:=e;omega
  rw[if_neg q] at he ⊢;by_cases q2:s.number*256+x≠bL s.sum
  ·rw[if_pos q2] at he;exact absurd he (by show ¬ 6=0;omega)
  rw[if_neg q2] at he ⊢;have bn:RdB (s.num x):=h.b.same rfl rfl rfl rfl rfl rfl;by_cases q3:(s.num x).accept.2≠0
  ·rw[if_pos q3] at he;exact absurd he q3
  rw[if_neg q3] at he ⊢;have ba:=bn.accept;obtain ⟨f1,f2,f3,f4⟩:=Jf (s.num x);have sa:(s.num x).accept.1.sum<4294967296:=by rw[f4];exact hsm
  have la:(s.num x).accept.1.length<2147483648:=by rw[f2];exact hlen
  by_cases q4:(s.num x).accept.1.ctype=cS
  ·rw[if_pos q4];exact ⟨ba.same rfl rfl rfl rfl rfl rfl,RdP.enter (by omega) (fun e=>by omega) sa la⟩
  ·rw[if_neg q4];exact ⟨ba.same rfl rfl rfl rfl rfl rfl,RdP.enter (by omega) (fun e=>by omega) sa la⟩
 rw[if_neg p4] at he;exact absurd he (by show ¬ 22=0;omega)
theorem Fi (b n:Nat) (c:Nat->Value) (d:Dc) (w:World) (hB:Blk w b n c) (hV:DcV c 0 d) (hn:5957<=n) (he:d.err=0) (hp:d.file.part≠5) :
  Calls Tryz.prog 16 #[.pointer (some ⟨b,0,none⟩)] w fun e w'=>e = .returned (.tuple #[.int .i64 23,.int .i64 (d.count:Int)])/\rk b n { d with err:=23,at1:=d.count } w w':=by
 have k1:=hB.at (i:=5955) (by omega) hV.err;rw[he] at k1;have FE:Hid (Calls Tryz.prog 25 #[.pointer (some ⟨b,0,none⟩)] w fun e w'=>e = .returned (.bool false)/\w'=w):=by
  have:=xb b 0 n c d.file w hB hV.file (by omega)
  rw[decide_eq_false hp] at this;exact this
 have FF:Hid (Calls Tryz.prog 24 #[.pointer (some ⟨b,0,none⟩),.int .i64 23] w fun e w'=>e = .returned (.tuple #[])/\rk b n { d with err:=23,at1:=d.count } w w'):=Ip b n 23 c d w hB hV hn;clear hB hV;go_enter Tryz.func16,Tryz.ntmps16;go_wp2_with fail;refine FE.out.mono ?_;rintro e w1 ⟨rfl,hw⟩;subst w1;go_wp2_with fail;refine FF.out.mono ?_;rintro e w2 ⟨rfl,c2,hB2,hV2,hF2⟩;have j1:=hB2.at (i:=5955) (by omega) hV2.err;have j2:=hB2.at (i:=5956) (by omega) hV2.at1;replace j1:w2.cell? ⟨b,5955,none⟩=some (.int .i64 23):=j1;replace j2:w2.cell? ⟨b,5956,none⟩=some (.int .i64 (d.count:Int)):=j2;have HB2:Hid (Blk w2 b n c2):=hB2;have HV2:Hid (DcV c2 0 { d with err:=23,at1:=d.count }):=hV2;have HF2:Hid (Fr1 b w w2):=hF2;clear hB2 hV2 hF2 k1;go_wp2_with fail;go_quiet (fail);go_wp2;go_ret2;exact ⟨rfl,c2,HB2.out.kept ((Kept.refl _).drewN _),HV2.out,HF2.out.kept ((Kept.refl _).drewN _)⟩
theorem Fh (b n:Nat) (c:Nat->Value) (d:Dc) (w:World) (hB:Blk w b n c) (hV:DcV c 0 d) (hn:5957<=n) (he:d.err≠0) :
  Calls Tryz.prog 16 #[.pointer (some ⟨b,0,none⟩)] w fun e w'=>e = .returned (.tuple #[.int .i64 (d.err:Int),.int .i64 (d.at1:Int)])/\Kept w w':=by
 have k1:=hB.at (i:=5955) (by omega) hV.err;have k2:=hB.at (i:=5956) (by omega) hV.at1;replace k1:w.cell? ⟨b,5955,none⟩=some (.int .i64 (d.err:Int)):=k1;replace k2:w.cell? ⟨b,5956,none⟩=some (.int .i64 (d.at1:Int)):=k2;have h1:((d.err:Int) == 0)=false:=by rw[beq_eq_false_iff_ne];omega
 generalize d.err=E at *;generalize d.at1=A at *;clear hB hV he;go_enter Tryz.func16,Tryz.ntmps16;go_wp2_with fail;go_quiet (fail);go_wp2;go_ret2;exact ⟨rfl,(Kept.refl _).drewN _⟩
structure DI (w W:World) (g:Nat) (d:Dc):Prop where
 kept:Kept w W
 pos:0<w.heap.size
 lo:w.heap.size<=g
 ex:∃ c,Blk W g 5957 c/\DcV c 0 d
theorem DI.glt {w W:World} {g:Nat} {d:Dc} (h:DI w W g d):g<W.heap.size:=by obtain ⟨c,b,_⟩:=h.ex;exact b.lt
theorem DI.on {w W W':World} {g:Nat} {d:Dc} (h:DI w W g d) (k:Kept W W'):DI w W' g d:=by
 obtain ⟨c,b,v⟩:=h.ex;exact ⟨h.kept.trans k,h.pos,h.lo,c,b.kept k,v⟩
theorem DI.step {w W W':World} {g:Nat} {d d':Dc} (h:DI w W g d) (k:rk g 5957 d' W W'):DI w W' g d':=by
 obtain ⟨e,b,v,f⟩:=k;have h1:=h.lo;exact ⟨Fr.to_kept h.kept f (fun i hi q=>by omega),h.pos,h.lo,e,b,v⟩
theorem M8 {w W:World} (h:Kept w W) (h0:0<w.heap.size):Calls Tryz.prog 8 #[] W fun e W'=>∃ g,e = .returned (.pointer (some ⟨g,0,none⟩))/\DI w W' g dc0:=by
 refine (M7 W).mono ?_;rintro e W' ⟨rfl,c,b,v,k⟩;exact ⟨_,rfl,h.trans k,h0,h.size,c,b,v⟩
theorem wx {d:Dc} (h:d.err≠0) (l:List Nat):uU d l:=by
 intro k x _ e;rw[qS h] at e;exact absurd e h
theorem NC:RdJ rd0:=by
 refine ⟨⟨L4,fun q=>absurd rfl q,by decide,fun i=>by show 0<256;omega,fun j=>by show 0<256;omega,fun q=>by cases q⟩,⟨by decide,fun _=>by decide,fun q => ?_,fun q => ?_,fun q => ?_,by decide,by decide,fun q => ?_,fun q => ?_,fun q => ?_,fun q => ?_⟩⟩
 all_goals first | exact absurd q (by decide)
theorem RdJ.go:∀ (l:List Nat) (s:Rd),RdJ s->(∀ x ∈ l,x<256)->(ak s l).2.1=0->RdJ (ak s l).1
 | [],s,j,_,_=>j
 | x::l,s,j,hx,he=>by
  rw[ak] at he ⊢;by_cases c:(s.take x).2=0
  ·rw[if_pos c] at he ⊢
   exact RdJ.go l _ (j.take (hx x (by simp)) c) (fun y hy=>hx y (by simp [hy])) he
  ·rw[if_neg c] at he;exact absurd he c
def dcL (l:List Nat):Dc:=dc0.feed l
theorem qV (l:List Nat):dcL l=⟨(ak rd0 l).1,(ak rd0 l).2.2,(ak rd0 l).2.1,if (ak rd0 l).2.1=0 then 0 else (ak rd0 l).2.2⟩:=by
 unfold dcL
 have:=DH l rd0 0 0
 rw[Nat.zero_add] at this;exact this
theorem Kz (l m:List Nat):(dcL l).feed m=dcL (l++m):=by unfold dcL Dc.feed;rw[List.foldl_append]
theorem EJ {d:Dc} {l:List Nat} (j:RdJ d.file) (hx:∀ x ∈ l,x<256) (h0:d.err=0) (hc:d.count+l.length<=4294967296):uU d l:=by
 intro k x e he;have hk:k<l.length:=(List.getElem?_eq_some_iff.1 e).1;have hx':∀ y ∈ l.take k,y<256:=fun y hy=>hx y (List.mem_of_mem_take hy)
 have hd:d=⟨d.file,d.count,0,d.at1⟩:=by obtain ⟨a,b,c,e⟩:=d;simp at h0;subst h0;rfl
 have fg:=DH (l.take k) d.file d.count d.at1;rw[<- hd] at fg;rw[fg] at he ⊢;have he':(ak d.file (l.take k)).2.1=0:=he;refine ⟨(RdJ.go _ _ j hx' he').takeOk (hx x (List.mem_of_getElem? e)),?_⟩;show d.count+(ak d.file (l.take k)).2.2<=_
 rw[vR _ _ he',List.length_take];omega
theorem Mi (l m:List Nat) (hl:∀ x ∈ l,x<256) (hm:∀ x ∈ m,x<256) (hc:l.length+m.length<=4294967296):uU (dcL l) m:=by
 by_cases h:(dcL l).err=0
 ·have he:(ak rd0 l).2.1=0:=by rw[qV] at h;exact h
  refine EJ ?_ hm h ?_
  ·rw[qV];exact RdJ.go l rd0 NC hl he
  ·rw[qV]
   show (ak rd0 l).2.2+_<=_
   rw[vR _ _ he];exact hc
 ·exact wx h m
theorem Fg (b n:Nat) (c:Nat->Value) (d:Dc) (w:World) (hB:Blk w b n c) (hV:DcV c 0 d) (hn:5957<=n) (he:d.err=0) (ha:d.at1=0) (hp:d.file.part=5) :
  Calls Tryz.prog 16 #[.pointer (some ⟨b,0,none⟩)] w fun e w'=>e = .returned (.tuple #[.int .i64 0,.int .i64 0])/\Kept w w':=by
 have k1:=hB.at (i:=5955) (by omega) hV.err;have k2:=hB.at (i:=5956) (by omega) hV.at1;rw[he] at k1;rw[ha] at k2;replace k1:w.cell? ⟨b,5955,none⟩=some (.int .i64 0):=k1;replace k2:w.cell? ⟨b,5956,none⟩=some (.int .i64 0):=k2;have FE:Hid (Calls Tryz.prog 25 #[.pointer (some ⟨b,0,none⟩)] w fun e w'=>e = .returned (.bool true)/\w'=w):=by
  have:=xb b 0 n c d.file w hB hV.file (by omega)
  rw[decide_eq_true hp] at this;exact this
 clear hB hV;go_enter Tryz.func16,Tryz.ntmps16;go_wp2_with fail;refine FE.out.mono ?_;rintro e w1 ⟨rfl,hw⟩;subst w1;go_wp2_with fail;go_quiet (fail);go_wp2;go_ret2;exact ⟨rfl,(Kept.refl _).drewN _⟩
def dcZ (l:List Nat):Dc:=if (dcL l).err=0/\(dcL l).file.part≠5 then { dcL l with err:=23,at1:=(dcL l).count } else dcL l
theorem Mj {l:List Nat} (h:(dcL l).err=0):(dcL l).at1=0:=by
 rw[qV] at h ⊢;exact if_pos h
structure StX (W:World) (base fb sb mb:Nat) (l:List Nat):Prop where
 bf:base<=fb
 ex:∃ (F F':Fl) (er at':Nat) (pv cv zv iv:Value) (out:List One) (dn sm:Bool) (ser sat sen:Nat),fq l F er at'/\fw F F'/\ar W fb F' er at' pv cv zv iv/\se F.z out dn sm ser sat sen/\W.cell? ⟨sb,5,none⟩=some (.int .i64 (ser:Int))/\W.cell? ⟨sb,6,none⟩=some (.int .i64 (sat:Int)) /\
  ∃ me ma:Nat,W.cell? ⟨mb,5,none⟩=some (.int .i64 (me:Int))/\W.cell? ⟨mb,6,none⟩=some (.int .i64 (ma:Int))/\(me,ma)=if F.on=true then imE (aN F.hd (F.pal.length / 3) (az F.hd (aF F.hd.L) 0) (fun _=>0) out) dn sm sen else (0,0)
theorem JW (im:ImR) (dn sm:Bool) (en:Nat):ofE im dn sm en=imE im dn sm en:=by cases im using ImR.cs<;>rfl
theorem Dh {z:List One} (h:good z) (a:Nat):ay z a<=1048576:=by
 unfold ay pAt;rw[List.getD_eq_getElem?_getD];cases e:z[(a - 1) / 8]? with
 | none=>simp
 | some x=>exact h.2.2 x (List.mem_of_getElem? e)
theorem JP {z out:List One} {dn sm:Bool} {er at' en:Nat} (hg:good z) (h:se z out dn sm er at' en):en<=1048576:=by
 rcases h with ⟨t,_,_,_,e,_⟩ | ⟨a,s1,_,_,_,_,_,_,_,_,e⟩ | ⟨a,s1,_,_,_,_,_,_,e,_⟩
 ·omega
 ·rw[e];exact Dh hg _
 ·rw[e];exact Dh hg _
theorem ar.fd {w:World} {b:Nat} {f:Fl} {er at':Nat} {pv cv zv iv:Value} (h:ar w b f er at' pv cv zv iv):sf w b f.hd f.pal.length:=by
 obtain ⟨p,c,e⟩:=h.pal.form;refine ⟨h.cell 1 (by omega),h.cell 2 (by omega),h.cell 3 (by omega),h.cell 4 (by omega),h.cell 5 (by omega),p,c,?_⟩;rw[<- e];exact h.cell 8 (by omega)
theorem D2 (t:ByteArray) (w:World) (hs:t.size<=1048576) :
  Calls Tryz.prog 26 #[.string t] w fun r w'=>(∃ fb sb mb,r = .returned (.tuple #[.pointer (some ⟨fb,0,none⟩),.pointer (some ⟨sb,0,none⟩),.pointer (some ⟨mb,0,none⟩)])/\StX w' w.heap.size fb sb mb (af t))/\Kept w w':=by
 have HF:Hid (Calls Tryz.prog 40 _ w _):=F9 t w hs;have hbs:=lK t;have hbl:(af t).length<=1048576:=by rw[aw];exact hs
 have HB:Hid (∀ x ∈ af t,x<256):=hbs;have HBL:Hid ((af t).length<=1048576):=hbl;generalize af t=l at *;clear hbs hbl;go_enter Tryz.func26,Tryz.ntmps26;go_wp2_with fail;refine HF.out.mono ?_;rintro r w1 ⟨rfl,⟨F,F',er,at',pv,cv,zv,iv,hwe,hsf,hfx,hbd⟩,hk1⟩;obtain ⟨zp,zc,rfl⟩:=aq hfx.z;have c10:w1.cell? ⟨w.heap.size,10,none⟩=some (.slice zp F'.z.length zc):=hfx.cell 10 (by omega);have hg:=hbd.good HBL.out;have HR:Hid (Calls Tryz.prog 41 _ w1 _):=vQ _ F'.z w1 (x8 hfx.z) hg hfx.readable;have HX:Hid (ar w1 w.heap.size F' er at' pv cv (.slice zp F'.z.length zc) iv):=hfx;have HW:Hid (fq l F er at'):=hwe;have HS:Hid (fw F F'):=hsf;have HD:Hid (FBd l.length F'):=hbd;have HK1:Hid (Kept w w1):=hk1;clear hfx hwe hsf hbd hk1;generalize hZN:F'.z.length=ZN at *;clear hZN;go_wp2_with fail;refine HR.out.mono ?_;rintro r w2 ⟨rfl,ov,out,dn,sm,ser,sat,sen,hrp⟩;have hf2:=HX.out.kept hrp.kept;have d0:w2.cell? ⟨w.heap.size,0,none⟩=some (.bool F'.on):=hf2.cell 0 (by omega);have hs0:=hrp.oat.c0;have hfl:w.heap.size<w2.heap.size:=hf2.lt;have HF2:Hid (ar w2 w.heap.size F' er at' pv cv _ iv):=hf2;have HRP:Hid (lB w1 w2 F'.z w1.heap.size ov out dn sm ser sat sen):=hrp;have hz1:=HK1.out.size;have hsl:w1.heap.size<w2.heap.size:=World.block_lt_of_cell? _ _ hs0;have hK2:Hid (Kept w w2):=HK1.out.trans hrp.kept;clear hf2 hrp c10 HX HR hs0;cases hon:F'.on
 ·rw[hon] at d0
  have HON:Hid (F'.on=false):=hon;clear hon;go_wp2;go_ret3
  have ka:∀ o,Kept w2 (w2.alloc o):=fun o=>(Below.refl _ _).alloc (Nat.le_refl _) o
  refine ⟨⟨_,_,_,rfl,⟨Nat.le_refl _,F,F',er,at',pv,cv,_,iv,out,dn,sm,ser,sat,sen,HW.out,HS.out,HF2.out.kept (ka _),?_,?_,?_,0,0,?_,?_,?_⟩⟩,hK2.out.trans (ka _)⟩
  ·have:=HRP.out.st
   obtain ⟨o,p,e⟩:=HS.out;rw[e] at this;exact this
  ·exact ((ka _).cell (p:=⟨w1.heap.size,5,none⟩) hsl).trans HRP.out.sc.c5
  ·exact ((ka _).cell (p:=⟨w1.heap.size,6,none⟩) hsl).trans HRP.out.sc.c6
  ·rw[World.cell?_alloc_at _ _ _ _ rfl];rfl
  ·rw[World.cell?_alloc_at _ _ _ _ rfl];rfl
  ·obtain ⟨o,p,e⟩:=HS.out
   have:F.on=false:=by have:=HON.out;rw[e] at this;exact this
   rw[this];rfl
 ·rw[hon] at d0
  have hFon:F.on=true:=by
   obtain ⟨o,p,e⟩:=HS.out;rw[e] at hon;exact hon
  have hh:=(Is HB.out HW.out).hd hFon;have HO:Hid (∀ W,Kept w2 W->Calls Tryz.prog 42 #[.pointer (some ⟨w.heap.size,0,none⟩),.pointer (some ⟨w1.heap.size,0,none⟩)] W fun r w'=>∃ mb ls im,r = .returned (.pointer (some ⟨mb,0,none⟩))/\OfP F.hd (F.pal.length / 3) W w' w.heap.size mb out dn sm sen ls im):=fun W k=>by
   have hp:=HD.out.pal;have hg:=HD.out.good HBL.out;have hfd:=(HF2.out.kept k).fd;obtain ⟨o,p,e⟩:=HS.out;have e1:F'.hd=F.hd:=by rw[e]
   have e2:F'.pal=F.pal:=by rw[e]
   have hl:=HRP.out.len;have hz:=hg.2.1;have q:=HRP.out.oat.zat.fr (S:=fun _=>False) (Fr.of_kept k) (fun _ _ e=>e);have cs:∀ j,W.cell? ⟨w1.heap.size,j,none⟩=w2.cell? ⟨w1.heap.size,j,none⟩:=fun j=>k.cell (p:=⟨w1.heap.size,j,none⟩) hsl
   rw[e1,e2] at hfd;rw[e2] at hp;exact LO w.heap.size w1.heap.size F.pal.length sen F.hd ov out dn sm W hfd ⟨(cs 0).trans HRP.out.oat.c0,(cs 3).trans HRP.out.sc.c3,(cs 4).trans HRP.out.sc.c4,(cs 7).trans HRP.out.sc.c7,q⟩ hh.W hh.H hh.D hh.K hh.L hh.leg hh.bits HRP.out.by' (by omega) hp (JP hg HRP.out.st) (fun g hg=>by rw[cj ov HRP.out.oat.own] at hg;exact Nat.lt_of_lt_of_le (HRP.out.oat.own.lt g hg).2 k.size)
  have HON:Hid (F.on=true):=hFon;clear hh hFon hon;go_wp2_with fail;refine (HO.out _ ((Below.refl _ _).alloc (Nat.le_refl _) _)).mono ?_;rintro r w3 ⟨mb,ls,im,rfl,hof⟩;have HP:Hid (OfP F.hd (F.pal.length / 3) _ w3 w.heap.size mb out dn sm sen ls im):=hof;clear hof HO;go_wp2;go_ret3
  have ka:Kept w2 w3:=Kept.trans ((Below.refl _ _).alloc (Nat.le_refl _) _) HP.out.kept;obtain ⟨w4,g,rv,hfin,_⟩:=HP.out.fin;refine ⟨⟨_,_,_,rfl,⟨Nat.le_refl _,F,F',er,at',pv,cv,_,iv,out,dn,sm,ser,sat,sen,HW.out,HS.out,HF2.out.kept ka,?_,?_,?_,_,_,hfin.c5,hfin.c6,?_⟩⟩,hK2.out.trans ka⟩
  ·have:=HRP.out.st
   obtain ⟨o,p,e⟩:=HS.out;rw[e] at this;exact this
  ·exact (ka.cell (p:=⟨w1.heap.size,5,none⟩) hsl).trans HRP.out.sc.c5
  ·exact (ka.cell (p:=⟨w1.heap.size,6,none⟩) hsl).trans HRP.out.sc.c6
  ·rw[if_pos HON.out,HP.out.iq,JW]
def rdE (l:List Nat):Nat:=(dcL l).err
def rdA (l:List Nat):Nat:=(dcL l).at1
theorem BM (l:List Nat):rdE l=(ak rd0 l).2.1:=by unfold rdE;rw[qV]
theorem LJ (l:List Nat):rdA l=if (ak rd0 l).2.1=0 then 0 else (ak rd0 l).2.2:=by unfold rdA;rw[qV]
theorem JN {l:List Nat} (hb:∀ x ∈ l,x<256) {F:Fl} {er at':Nat} (h:fq l F er at') {out:List One} {dn sm:Bool} {ser sat sen:Nat} (q:se F.z out dn sm ser sat sen) :
  wM F er at' (aN F.hd (F.pal.length / 3) (az F.hd (aF F.hd.L) 0) (fun _=>0) out) dn sm ser sat sen=(rdE l,rdA l):=by
 have V:=sw hb h q (fun _=>0);have P:=wK hb h q (fun _=>0);rw[BM,LJ];by_cases c:(ak rd0 l).2.1=0
 ·rw[if_pos c]
  exact Prod.ext V.1 (P c)
 ·rw[if_neg c]
  exact Prod.ext V.1 (V.2.1 c)
theorem zd (base fb sb mb:Nat) (l:List Nat) (w:World) (hl:∀ x ∈ l,x<256) (h:StX w base fb sb mb l) :
  Calls Tryz.prog 27 #[.pointer (some ⟨fb,0,none⟩),.pointer (some ⟨sb,0,none⟩),.pointer (some ⟨mb,0,none⟩)] w fun r w'=>r = .returned (.tuple #[.int .i64 (rdE l:Int),.int .i64 (rdA l:Int)])/\Kept w w':=by
 obtain ⟨F,F',er,at',pv,cv,zv,iv,out,dn,sm,ser,sat,sen,hwe,hsf,hfx,hrs,s5,s6,me,ma,m5,m6,hm⟩:=h.ex;have c15:w.cell? ⟨fb,15,none⟩=some (.int .i64 (er:Int)):=hfx.cell 15 (by omega);have c16:w.cell? ⟨fb,16,none⟩=some (.int .i64 (at':Int)):=hfx.cell 16 (by omega);have R:=JN hl hwe hrs;unfold wM at R;generalize imE (aN F.hd (F.pal.length / 3) (az F.hd (aF F.hd.L) 0) (fun _=>0) out) dn sm sen=E at *;obtain ⟨E1,E2⟩:=E;have R2:(if me≠0 then (me,ma) else if ser≠0 then (ser,sat) else (er,at'))=(rdE l,rdA l):=by
  rw[<- R];by_cases on:F.on=true
  ·rw[if_pos on] at hm
   injection hm with a1 a2
   subst a1;subst a2;by_cases c:me≠0
   ·rw[if_pos c,if_pos ⟨on,c⟩]
   ·rw[if_neg c,if_neg (show ¬ (F.on=true/\(me,ma).1≠0) from fun q=>c q.2)]
  ·rw[if_neg on] at hm
   injection hm with a1 a2
   rw[a1,if_neg (fun q=>q rfl),if_neg (show ¬ (F.on=true/\(E1,E2).1≠0) from fun q=>on q.1)]
 have HR:Hid _:=R2;generalize rdE l=EE at *;generalize rdA l=AA at *;clear hfx hwe hsf hrs hm R R2 h hl;by_cases k1:me=0
 ·subst k1
  by_cases k2:ser=0
  ·subst k2
   have e:(er,at')=(EE,AA):=HR.out
   injection e with e1 e2
   subst e1;subst e2;clear HR;go_enter Tryz.func27,Tryz.ntmps27;go_wp2;go_quiet (fail);go_wp2;go_ret2;exact ⟨rfl,(Kept.refl _).drewN _⟩
  ·have e:(ser,sat)=(EE,AA):=by have:=HR.out;rw[if_neg (fun q=>q rfl),if_pos k2] at this;exact this
   injection e with e1 e2
   subst e1;subst e2;have k3:((ser:Int) != 0)=true:=by rw[bne_iff_ne];omega
   clear HR k2;go_enter Tryz.func27,Tryz.ntmps27;go_wp2;go_quiet (fail);go_wp2;go_ret2;exact ⟨rfl,(Kept.refl _).drewN _⟩
 ·have e:(me,ma)=(EE,AA):=by have:=HR.out;rw[if_pos k1] at this;exact this
  injection e with e1 e2
  subst e1;subst e2;have k3:((me:Int) != 0)=true:=by rw[bne_iff_ne];omega
  clear HR k1;go_enter Tryz.func27,Tryz.ntmps27;go_wp2;go_quiet (fail);go_wp2;go_ret2;exact ⟨rfl,(Kept.refl _).drewN _⟩
def MM (c:Nat->Value) (j:Nat) (v:Value):Nat->Value:=fun k=>if k=j then v else c k
structure P6 (w:World) (b:Nat) (c:Nat->Value):Prop where
 cell:∀ k,k<6->w.cell? ⟨b,k,none⟩=some (c k)
 fz:∀ k,w.frozen? ⟨b,k,none⟩=false
theorem P6.lt {w:World} {b:Nat} {c:Nat->Value} (h:P6 w b c):b<w.heap.size:=World.block_lt_of_cell? _ _ (h.cell 0 (by omega))
theorem P6.same {w w':World} {b:Nat} {c:Nat->Value} (h:P6 w b c) (e:w'.heap[b]? = w.heap[b]?):P6 w' b c:=⟨fun k hk=>(World.cell?_of_block (w:=w) e).trans (h.cell k hk),fun k=>(World.frozen?_of_block (w:=w) e).trans (h.fz k)⟩
theorem P6.kept {w w':World} {b:Nat} {c:Nat->Value} (h:P6 w b c) (k:Kept w w'):P6 w' b c:=h.same (k.block b h.lt)
theorem P6.set {w:World} {b:Nat} {c:Nat->Value} (h:P6 w b c) (j:Nat) (hj:j<6) (v:Value):P6 (w.setCell ⟨b,j,none⟩ v) b (MM c j v):=by
 refine ⟨fun k hk => ?_,fun k=>(World.frozen?_setCell _ _ _ _).trans (h.fz k)⟩;unfold MM;by_cases e:k=j
 ·subst e;rw[if_pos rfl];exact aj (h.cell k hk) _
 ·rw[if_neg e,aa _ _ _ _ _ (fun q=>e q.symm)];exact h.cell k hk
def du (t:ByteArray) (cut:Bool):Nat:=if rdE (af t)=0/\cut=true then 23 else rdE (af t)
def mF (t:ByteArray) (cut:Bool):Nat:=if rdE (af t)=0/\cut=true then t.size else rdA (af t)
def yS (w:World) (fb:Nat) (l:List Nat):Prop:=∃ dn:Bool,w.cell? ⟨fb,14,none⟩=some (.bool dn)/\(rdE l=0->(dn=true ↔ (dcL l).file.part=5))
structure de (w:World) (b:Nat) (t:ByteArray) (cut:Bool):Prop where
 ex:∃ c,P6 w b c/\c 0 = .string t/\c 1 = .bool cut/\c 4 = .int .i64 (du t cut:Int)/\c 5 = .int .i64 (mF t cut:Int)/\∃ fb,c 2 = .pointer (some ⟨fb,0,none⟩)/\b<fb/\yS w fb (af t)
theorem yS.lt {w:World} {fb:Nat} {l:List Nat} (h:yS w fb l):fb<w.heap.size:=by obtain ⟨dn,h1,_⟩:=h;exact World.block_lt_of_cell? _ _ h1
theorem yS.same {w w':World} {fb:Nat} {l:List Nat} (h:yS w fb l) (e:w'.heap[fb]? = w.heap[fb]?):yS w' fb l:=by
 obtain ⟨dn,h1,h2⟩:=h;exact ⟨dn,(World.cell?_of_block (w:=w) e).trans h1,h2⟩
theorem de.kept {w w':World} {b:Nat} {t:ByteArray} {cut:Bool} (h:de w b t cut) (k:Kept w w'):de w' b t cut:=by
 obtain ⟨c,h1,h2,h3,h4,h5,fb,h6,h7,h8⟩:=h.ex;exact ⟨c,h1.kept k,h2,h3,h4,h5,fb,h6,h7,h8.same (k.block fb h8.lt)⟩
theorem de.oth {w w':World} {b d:Nat} {t:ByteArray} {cut:Bool} (h:de w b t cut) (k:Fr1 d w w') (hd:d<b):de w' b t cut:=by
 obtain ⟨c,h1,h2,h3,h4,h5,fb,h6,h7,h8⟩:=h.ex;exact ⟨c,h1.same (k.block b h1.lt (by omega)),h2,h3,h4,h5,fb,h6,h7,h8.same (k.block fb h8.lt (by omega))⟩
theorem StX.dn {W:World} {base fb sb mb:Nat} {l:List Nat} (hl:∀ x ∈ l,x<256) (h:StX W base fb sb mb l):yS W fb l:=by
 obtain ⟨F,F',er,at',pv,cv,zv,iv,out,dn,sm,ser,sat,sen,hwe,hsf,hfx,hrs,_⟩:=h.ex;refine ⟨F'.done,hfx.cell 14 (by omega),fun e => ?_⟩;obtain ⟨o,p,e2⟩:=hsf;have V:=(sw hl hwe hrs (fun _=>0)).2.2;rw[BM] at e;rw[e2,qV];exact (V e).symm
theorem wi (b:Nat) (t:ByteArray) (cut:Bool) (c:Nat->Value) (w:World) (h:P6 w b c) (h0:c 0 = .string t) (h1:c 1 = .bool cut) (hs:t.size<=1048576) :
  Calls Tryz.prog 18 #[.pointer (some ⟨b,0,none⟩)] w fun r w'=>r = .returned (.tuple #[])/\de w' b t cut/\Fr1 b w w':=by
 have c0:=h.cell 0 (by omega);rw[h0] at c0;have hbl:b<w.heap.size:=h.lt;have HF:Hid (Calls Tryz.prog 26 _ w _):=D2 t w hs;have HL:Hid (∀ x ∈ af t,x<256):=lK t;have HP:Hid (P6 w b c):=h;have H0:Hid (c 0 = .string t):=h0;have H1:Hid (c 1 = .bool cut):=h1;have HE:Hid (du t cut=if rdE (af t)=0/\cut=true then 23 else rdE (af t)):=rfl;have HA:Hid (mF t cut=if rdE (af t)=0/\cut=true then t.size else rdA (af t)):=rfl;have HV:Hid (∀ W base fb sb mb,StX W base fb sb mb (af t)->Calls Tryz.prog 27 #[.pointer (some ⟨fb,0,none⟩),.pointer (some ⟨sb,0,none⟩),.pointer (some ⟨mb,0,none⟩)] W fun r w'=>r = .returned (.tuple #[.int .i64 (rdE (af t):Int),.int .i64 (rdA (af t):Int)])/\Kept W w'):=fun W base fb sb mb hst=>zd base fb sb mb _ W HL.out hst
 generalize rdE (af t)=E at *;generalize rdA (af t)=A at *;clear h h0 h1;go_enter Tryz.func18,Tryz.ntmps18;go_wp2_with fail;refine HF.out.mono ?_;rintro r w1 ⟨⟨fb,sb,mb,rfl,hst⟩,hk1⟩;go_wp2_with fail;refine (HV.out _ _ _ _ _ hst).mono ?_;rintro r w2 ⟨rfl,hk2⟩;have hdn:yS w2 fb (af t):=by
  have:=hst.dn HL.out
  exact this.same (hk2.block fb this.lt)
 have hfb:b<fb:=Nat.lt_of_lt_of_le hbl hst.bf;have kk:=hk1.trans hk2;have hp2:=HP.out.kept kk;have d0:=hp2.cell 0 (by omega);rw[H0.out] at d0;have d1:=hp2.cell 1 (by omega);rw[H1.out] at d1;have d2:=hp2.cell 2 (by omega);have d3:=hp2.cell 3 (by omega);have d4:=hp2.cell 4 (by omega);have d5:=hp2.cell 5 (by omega);have hf2:=hp2.fz;have HP2:Hid (P6 w2 b c):=hp2;have HDN:Hid (yS w2 fb (af t)):=hdn;have HK:Hid (Fr1 b w w2):=Fr.of_kept kk;have HFB:Hid (b<fb):=hfb;clear hst hk1 hk2 kk hp2 hdn c0 hfb;have fin:Hid (∀ (W:World) (c':Nat->Value),P6 W b c'->Fr1 b w2 W->c' 0 = .string t->c' 1 = .bool cut->c' 2 = .pointer (some ⟨fb,0,none⟩)->c' 4 = .int .i64 (du t cut:Int)->c' 5 = .int .i64 (mF t cut:Int)->de W b t cut/\Fr1 b w W):=fun W c' a1 a2 a3 a4 a5 a6 a7=>⟨⟨c',a1,a3,a4,a6,a7,fb,a5,HFB.out,HDN.out.same (a2.block fb HDN.out.lt (by have:=HFB.out;omega))⟩,HK.out.trans a2⟩
 cases hz:((E:Int) == 0)
 ·have HEE:Hid (du t cut=E/\mF t cut=A):=by
   have:E≠0:=by rw[beq_eq_false_iff_ne] at hz;omega
   exact ⟨by rw[HE.out,if_neg (fun q=>this q.1)],by rw[HA.out,if_neg (fun q=>this q.1)]⟩
  go_wp2;go_end0
  refine ⟨rfl,fin.out _ _ ((((HP2.out.set 2 (by omega) _).set 3 (by omega) _).set 4 (by omega) _).set 5 (by omega) _) (((((Fr1.refl _ _).set _ _).set _ _).set _ _).set _ _) H0.out H1.out rfl ?_ ?_⟩
  ·rw[HEE.out.1];rfl
  ·rw[HEE.out.2];rfl
 ·have hz0:E=0:=by rw[beq_iff_eq] at hz;omega
  subst hz0;cases cut
  ·have HEE:Hid (du t false=0/\mF t false=A):=⟨by rw[HE.out,if_neg (fun q=>by cases q.2)],by rw[HA.out,if_neg (fun q=>by cases q.2)]⟩
   go_wp2;go_end0
   refine ⟨rfl,fin.out _ _ ((((HP2.out.set 2 (by omega) _).set 3 (by omega) _).set 4 (by omega) _).set 5 (by omega) _) (((((Fr1.refl _ _).set _ _).set _ _).set _ _).set _ _) H0.out H1.out rfl ?_ ?_⟩
   ·rw[HEE.out.1];rfl
   ·rw[HEE.out.2];rfl
  ·have HEE:Hid (du t true=23/\mF t true=t.size):=⟨by rw[HE.out,if_pos ⟨rfl,rfl⟩],by rw[HA.out,if_pos ⟨rfl,rfl⟩]⟩
   go_wp2;go_end0
   refine ⟨rfl,fin.out _ _ ((((((HP2.out.set 2 (by omega) _).set 3 (by omega) _).set 4 (by omega) _).set 5 (by omega) _).set 4 (by omega) _).set 5 (by omega) _) (((((((Fr1.refl _ _).set _ _).set _ _).set _ _).set _ _).set _ _).set _ _) H0.out H1.out rfl ?_ ?_⟩
   ·rw[HEE.out.1];rfl
   ·rw[HEE.out.2];rfl
def R0c:Nat->Value
 | 0 => .string ⟨#[]⟩
 | 1 => .bool false
 | 2 => .pointer none
 | 3 => .pointer none
 | _ => .int .i64 0
theorem M3 (w:World):P6 (w.alloc (.cells #[.string ⟨#[]⟩,.bool false,.pointer none,.pointer none,.int .i64 0,.int .i64 0] 78)) w.heap.size R0c:=by
 refine ⟨fun k hk => ?_,fun k=>World.frozen?_alloc_at _ _ _ _ rfl⟩;rw[World.cell?_alloc_at _ _ _ _ rfl]
 match k,hk with
 | 0,_=>rfl
 | 1,_=>rfl
 | 2,_=>rfl
 | 3,_=>rfl
 | 4,_=>rfl
 | 5,_=>rfl
 | k+6,h=>omega
theorem Hc (w:World) :
  Calls Tryz.prog 9 #[] w fun r w'=>r = .returned (.pointer (some ⟨w.heap.size,0,none⟩))/\de w' w.heap.size ⟨#[]⟩ false/\Kept w w':=by
 have HP:Hid (P6 (w.alloc _) w.heap.size R0c):=M3 w;go_enter Tryz.func9,Tryz.ntmps9;go_wp2_with fail;refine (wi _ ⟨#[]⟩ false R0c _ HP.out rfl rfl (by decide)).mono ?_;rintro r w1 ⟨rfl,h1,hw1⟩;go_wp2;go_ret;exact ⟨rfl,h1,Fr.to_kept ((Below.refl _ _).alloc (Nat.le_refl _) _) hw1 (fun i hi e=>by omega)⟩
theorem xl (b:Nat) (t p:ByteArray) (cut:Bool) (w:World) (h:de w b t cut) (hs:(t++p).size<=1048576) (hc:du t cut=0->cut=false) :
  Calls Tryz.prog 15 #[.pointer (some ⟨b,0,none⟩),.string p] w fun r w'=>
   (du t cut=0->r = .returned (.tuple #[.int .i64 (du (t++p) false:Int),.int .i64 (mF (t++p) false:Int)])/\de w' b (t++p) false)/\(du t cut≠0->r = .returned (.tuple #[.int .i64 (du t cut:Int),.int .i64 (mF t cut:Int)])/\de w' b t cut)/\Fr1 b w w':=by
 obtain ⟨c,hp,h0,h1,h4,h5,fb,h6,h7,h8⟩:=h.ex;have c0:=hp.cell 0 (by omega);rw[h0] at c0;have c4:=hp.cell 4 (by omega);rw[h4] at c4;have c5:=hp.cell 5 (by omega);rw[h5] at c5;have hf:=hp.fz;have hss:t.size+p.size<=1048576:=by rw[ByteArray.size_append] at hs;exact hs
 cases hz:((du t cut:Int) == 0)
 ·have hz0:du t cut≠0:=by rw[beq_eq_false_iff_ne] at hz;omega
  have HZ:Hid (du t cut≠0):=hz0;have HH:Hid (de w b t cut):=h;clear hz0 hc h hp h0 h1 h4 h5 h6 h7 h8;go_enter Tryz.func15,Tryz.ntmps15;go_wp2;go_quiet (fail);go_wp2;go_ret2;exact ⟨fun h0=>absurd h0 HZ.out,fun _=>⟨rfl,HH.out.kept ((Kept.refl _).drewN _)⟩,(Fr1.refl _ _).drewN _⟩
 ·have hz0:du t cut=0:=by rw[beq_iff_eq] at hz;omega
  have HZ:Hid (du t cut=0):=hz0;have hcf:=hc hz0;subst hcf;have HF:Hid (Calls Tryz.prog 18 #[.pointer (some ⟨b,0,none⟩)] (w.setCell ⟨b,0,none⟩ (.string (t++p))) fun r w'=>r = .returned (.tuple #[])/\de w' b (t++p) false/\Fr1 b (w.setCell ⟨b,0,none⟩ (.string (t++p))) w'):=wi b (t++p) false _ _ (hp.set 0 (by omega) (.string (t++p))) rfl h1 hs;clear hz0 hc h hp h0 h1 h4 h5 h6 h7 h8;go_enter Tryz.func15,Tryz.ntmps15;go_wp2_with fail;refine HF.out.mono ?_;rintro r w1 ⟨rfl,h1,hw1⟩;obtain ⟨c',hp',g0,g1,g4,g5,gr⟩:=h1.ex;have e4:=hp'.cell 4 (by omega);rw[g4] at e4;have e5:=hp'.cell 5 (by omega);rw[g5] at e5;have HH:Hid (de w1 b (t++p) false):=h1;have HW:Hid (Fr1 b w w1):=((Fr1.refl _ _).set _ _).trans hw1;clear c0 c4 c5 hz h1 hw1 hp' g0 g1 g4 g5 gr HF;go_wp2;go_quiet (fail);go_wp2;go_ret2;exact ⟨fun _=>⟨rfl,HH.out.kept ((Kept.refl _).drewN _)⟩,fun h0=>absurd HZ.out h0,HW.out.drewN _⟩
theorem Cz (b:Nat) (t:ByteArray) (w:World) (h:de w b t false) (hs:t.size<=1048576) :
  Calls Tryz.prog 17 #[.pointer (some ⟨b,0,none⟩)] w fun r w'=>∃ cut,cut=decide (rdE (af t)=0/\(dcL (af t)).file.part≠5)/\r = .returned (.tuple #[.int .i64 (du t cut:Int),.int .i64 (mF t cut:Int)])/\de w' b t cut/\Fr1 b w w':=by
 obtain ⟨c,hp,h0,h1,h4,h5,fb,h6,h7,dn,h8,h9⟩:=h.ex;have c1:=hp.cell 1 (by omega);rw[h1] at c1;have c2:=hp.cell 2 (by omega);rw[h6] at c2;have c4:=hp.cell 4 (by omega);rw[h4] at c4;have c5:=hp.cell 5 (by omega);rw[h5] at c5;have hf:=hp.fz;have e0:du t false=rdE (af t):=by unfold du;rw[if_neg (fun q=>by cases q.2)]
 cases hz:((du t false:Int) == 0)
 ·have hz0:rdE (af t)≠0:=by rw[beq_eq_false_iff_ne] at hz;omega
  have HZ:Hid (false=decide (rdE (af t)=0/\(dcL (af t)).file.part≠5)):=by
   show _=_
   rw[decide_eq_false (fun q=>hz0 q.1)]
  have HH:Hid (de w b t false):=h;clear hz0 h hp h0 h1 h4 h5 h6 h7 h8 h9 e0;go_enter Tryz.func17,Tryz.ntmps17;go_wp2;go_quiet (fail);go_wp2;go_ret2;exact ⟨false,HZ.out,rfl,HH.out.kept ((Kept.refl _).drewN _),(Fr1.refl _ _).drewN _⟩
 ·have hz0:rdE (af t)=0:=by rw[beq_iff_eq] at hz;omega
  have h9':=h9 hz0;cases dn
  ·have HZ:Hid (true=decide (rdE (af t)=0/\(dcL (af t)).file.part≠5)):=by
    show _=_
    rw[decide_eq_true ⟨hz0,fun q=>by have:=h9'.2 q;cases this⟩]
   have HF:Hid (Calls Tryz.prog 18 #[.pointer (some ⟨b,0,none⟩)] (w.setCell ⟨b,1,none⟩ (.bool true)) fun r w'=>r = .returned (.tuple #[])/\de w' b t true/\Fr1 b (w.setCell ⟨b,1,none⟩ (.bool true)) w'):=wi b t true _ _ (hp.set 1 (by omega) (.bool true)) h0 rfl hs;clear hz0 h hp h0 h1 h4 h5 h6 h7 h9 e0 h9';go_enter Tryz.func17,Tryz.ntmps17;go_wp2_with fail;refine HF.out.mono ?_;rintro r w1 ⟨rfl,h1,hw1⟩;obtain ⟨c',hp',g0,g1,g4,g5,gr⟩:=h1.ex;have e4:=hp'.cell 4 (by omega);rw[g4] at e4;have e5:=hp'.cell 5 (by omega);rw[g5] at e5;have HH:Hid (de w1 b t true):=h1;have HW:Hid (Fr1 b w w1):=((Fr1.refl _ _).set _ _).trans hw1;clear c1 c2 c4 c5 hz h1 hw1 hp' g0 g1 g4 g5 gr HF h8;go_wp2;go_quiet (fail);go_wp2;go_ret2;exact ⟨true,HZ.out,rfl,HH.out.kept ((Kept.refl _).drewN _),HW.out.drewN _⟩
  ·have HZ:Hid (false=decide (rdE (af t)=0/\(dcL (af t)).file.part≠5)):=by
    show _=_
    rw[decide_eq_false (fun q=>q.2 (h9'.1 rfl))]
   have HH:Hid (de w b t false):=h;clear hz0 h hp h0 h1 h4 h5 h6 h7 h9 e0 h9';go_enter Tryz.func17,Tryz.ntmps17;go_wp2;go_quiet (fail);go_wp2;go_ret2;exact ⟨false,HZ.out,rfl,HH.out.kept ((Kept.refl _).drewN _),(Fr1.refl _ _).drewN _⟩
theorem yI (s t:ByteArray):af (s++t)=af s++af t:=by
 unfold af;simp [ByteArray.data_append]
theorem Ll {w W:World} {g:Nat} {d:Dc} (t:ByteArray) (h:DI w W g d) (hk:uU d (af t)) (hs:t.size<=2147483648) (hG:bg w) :
  Calls Tryz.prog 14 #[.pointer (some ⟨g,0,none⟩),.string t] W fun e W'=>e = .returned (.tuple #[.int .i64 ((d.feed (af t)).err:Int),.int .i64 ((d.feed (af t)).at1:Int)])/\DI w W' g (d.feed (af t))/\Fr1 g W W':=by
 obtain ⟨c,b,v⟩:=h.ex;refine (Me g 5957 t c d W b v (Nat.le_refl _) hk hs (hG.kept h.kept) (hG.new h.lo)).mono ?_;rintro e W' ⟨rfl,k⟩;refine ⟨rfl,h.step k,?_⟩;obtain ⟨_,_,_,f⟩:=k;exact f
theorem Mk {w W:World} {g:Nat} {l:List Nat} (h:DI w W g (dcL l)) :
  Calls Tryz.prog 16 #[.pointer (some ⟨g,0,none⟩)] W fun e W'=>e = .returned (.tuple #[.int .i64 ((dcZ l).err:Int),.int .i64 ((dcZ l).at1:Int)])/\DI w W' g (dcZ l)/\Fr1 g W W':=by
 obtain ⟨c,b,v⟩:=h.ex;unfold dcZ;by_cases he:(dcL l).err=0
 ·by_cases hp:(dcL l).file.part=5
  ·rw[if_neg (fun q=>q.2 hp)]
   have ha:=Mj he;refine (Fg g 5957 c (dcL l) W b v (Nat.le_refl _) he ha hp).mono ?_;rintro e W' ⟨rfl,k⟩;rw[he,ha];exact ⟨rfl,h.on k,Fr.of_kept k⟩
  ·rw[if_pos ⟨he,hp⟩]
   refine (Fi g 5957 c (dcL l) W b v (Nat.le_refl _) he hp).mono ?_;rintro e W' ⟨rfl,k⟩;refine ⟨rfl,h.step k,?_⟩;obtain ⟨_,_,_,f⟩:=k;exact f
 ·rw[if_neg (fun q=>he q.1)]
  refine (Fh g 5957 c (dcL l) W b v (Nat.le_refl _) he).mono ?_;rintro e W' ⟨rfl,k⟩;exact ⟨rfl,h.on k,Fr.of_kept k⟩
theorem DI.oth {w W W':World} {g b:Nat} {d:Dc} (h:DI w W g d) (k:Fr1 b W W') (hgb:g<b):DI w W' g d:=by
 obtain ⟨c,bl,v⟩:=h.ex;have h1:=h.lo;refine ⟨Fr.to_kept h.kept k (fun i hi q=>by omega),h.pos,h.lo,c,?_,v⟩;exact bl.fr k (by omega)
structure sv (w0 W:World) (d b:Nat) (t:ByteArray) (cut:Bool):Prop where
 di:DI w0 W d (if cut=true then dcZ (af t) else dcL (af t))
 ref:de W b t cut
 lt:d<b
 cz:cut=true->rdE (af t)=0/\(dcL (af t)).file.part≠5
theorem xZ (t:ByteArray):du t false=rdE (af t):=by unfold du;rw[if_neg (fun q=>by cases q.2)]
theorem x6 (t:ByteArray):mF t false=rdA (af t):=by unfold mF;rw[if_neg (fun q=>by cases q.2)]
theorem Kx {l:List Nat} (h:rdE l=0/\(dcL l).file.part≠5):dcZ l={ dcL l with err:=23,at1:=(dcL l).count }:=if_pos h
theorem Ix {l:List Nat} (h:¬ (rdE l=0/\(dcL l).file.part≠5)):dcZ l=dcL l:=if_neg h
theorem EW {l:List Nat} (h:rdE l=0):(dcL l).count=l.length:=by
 rw[BM] at h;rw[qV];exact vR _ _ h
theorem M1 (t:ByteArray):du t (decide (rdE (af t)=0/\(dcL (af t)).file.part≠5))=(dcZ (af t)).err/\mF t (decide (rdE (af t)=0/\(dcL (af t)).file.part≠5))=(dcZ (af t)).at1:=by
 by_cases c:rdE (af t)=0/\(dcL (af t)).file.part≠5
 ·rw[Kx c,decide_eq_true c]
  unfold du mF;rw[if_pos ⟨c.1,rfl⟩,if_pos ⟨c.1,rfl⟩];refine ⟨rfl,?_⟩;show t.size=(dcL (af t)).count
  rw[EW c.1,aw]
 ·rw[Ix c,decide_eq_false c,xZ,x6]
  exact ⟨rfl,rfl⟩
def Ms (w0 W':World) (d b:Nat) (t p:ByteArray) (cut:Bool):Prop:=∃ t',t'.size<=t.size+p.size/\sv w0 W' d b t' cut
theorem DJ (w0 W:World) (d b:Nat) (t p:ByteArray) (cut:Bool) (h:sv w0 W d b t cut) (hs:t.size+p.size<=1048576) (hG:bg w0) :
  Calls Tryz.prog 10 #[.pointer (some ⟨d,0,none⟩),.pointer (some ⟨b,0,none⟩),.string p] W fun r W'=>r = .returned (.bool true)/\Ms w0 W' d b t p cut:=by
 have hss:(t++p).size<=1048576:=by rw[ByteArray.size_append];exact hs
 by_cases he:du t cut=0
 ·have hcf:cut=false:=by
   cases cut
   ·rfl
   ·have:=h.cz rfl
    unfold du at he;rw[if_pos ⟨this.1,rfl⟩] at he;cases he
  subst hcf;have hdi:DI w0 W d (dcL (af t)):=h.di;have hk:=Mi (af t) (af p) (lK t) (lK p) (by rw[aw,aw];omega);have F1:=Ll p hdi hk (by omega) hG;rw[Kz,<- yI] at F1;have HF1:Hid (Calls Tryz.prog 14 #[.pointer (some ⟨d,0,none⟩),.string p] W fun e W'=>e = .returned (.tuple #[.int .i64 (du (t++p) false:Int),.int .i64 (mF (t++p) false:Int)])/\DI w0 W' d (dcL (af (t++p)))/\Fr1 d W W'):=by
   rw[xZ,x6];exact F1
  have HF2:Hid (∀ W1,Fr1 d W W1->Calls Tryz.prog 15 #[.pointer (some ⟨b,0,none⟩),.string p] W1 fun r W2=>r = .returned (.tuple #[.int .i64 (du (t++p) false:Int),.int .i64 (mF (t++p) false:Int)])/\de W2 b (t++p) false/\Fr1 b W1 W2):=fun W1 k=>by
   refine (xl b t p false W1 (h.ref.oth k h.lt) hss (fun _=>rfl)).mono ?_;rintro r W2 ⟨a1,_,a3⟩;exact ⟨(a1 he).1,(a1 he).2,a3⟩
  have HLT:Hid (d<b):=h.lt;generalize du (t++p) false=E at *;generalize mF (t++p) false=A at *;clear h F1 hk hdi he;go_enter Tryz.func10,Tryz.ntmps10;go_wp2_with fail;refine HF1.out.mono ?_;rintro r w1 ⟨rfl,d1,k1⟩;go_wp2_with fail;refine (HF2.out w1 k1).mono ?_;rintro r w2 ⟨rfl,r2,k2⟩;have HB:Hid (sv w0 w2 d b (t++p) false):=⟨d1.oth k2 HLT.out,r2,HLT.out,(fun q=>by cases q)⟩;clear d1 k1 k2 r2 HF1 HF2;go_wp2;go_ret;exact ⟨rfl,t++p,by rw[ByteArray.size_append];omega,HB.out⟩
 ·obtain ⟨D,hD⟩:∃ D,D=(if cut=true then dcZ (af t) else dcL (af t)):=⟨_,rfl⟩
  have hdi:=h.di;rw[<- hD] at hdi;have hDe:D.err=du t cut/\D.at1=mF t cut:=by
   cases cut
   ·rw[hD,xZ,x6];exact ⟨rfl,rfl⟩
   ·have c:=h.cz rfl
    have z:=M1 t;rw[decide_eq_true c] at z;rw[hD];exact ⟨z.1.symm,z.2.symm⟩
  have hne:D.err≠0:=by rw[hDe.1];exact he
  have F1:=Ll p hdi (wx hne _) (by omega) hG;rw[qS hne,hDe.1,hDe.2] at F1;have HF1:Hid (Calls Tryz.prog 14 #[.pointer (some ⟨d,0,none⟩),.string p] W fun e W'=>e = .returned (.tuple #[.int .i64 (du t cut:Int),.int .i64 (mF t cut:Int)])/\DI w0 W' d D/\Fr1 d W W'):=F1;have HF2:Hid (∀ W1,Fr1 d W W1->Calls Tryz.prog 15 #[.pointer (some ⟨b,0,none⟩),.string p] W1 fun r W2=>r = .returned (.tuple #[.int .i64 (du t cut:Int),.int .i64 (mF t cut:Int)])/\de W2 b t cut/\Fr1 b W1 W2):=fun W1 k=>by
   refine (xl b t p cut W1 (h.ref.oth k h.lt) hss (fun q=>absurd q he)).mono ?_;rintro r W2 ⟨_,a2,a3⟩;exact ⟨(a2 he).1,(a2 he).2,a3⟩
  have HLT:Hid (d<b):=h.lt;have HCZ:Hid _:=h.cz;have HD:Hid _:=hD;generalize du t cut=E at *;generalize mF t cut=A at *;clear h F1 hdi he hDe hne hD;go_enter Tryz.func10,Tryz.ntmps10;go_wp2_with fail;refine HF1.out.mono ?_;rintro r w1 ⟨rfl,d1,k1⟩;go_wp2_with fail;refine (HF2.out w1 k1).mono ?_;rintro r w2 ⟨rfl,r2,k2⟩;have d2:=d1.oth k2 HLT.out;rw[HD.out] at d2;have HB:Hid (sv w0 w2 d b t cut):=⟨d2,r2,HLT.out,HCZ.out⟩;clear d1 d2 k1 k2 r2 HF1 HF2;go_wp2;go_ret;exact ⟨rfl,t,by omega,HB.out⟩
def Nt (w0 W':World) (d b:Nat) (t:ByteArray):Prop:=∃ cut,sv w0 W' d b t cut
theorem Cy (w0 W:World) (d b:Nat) (t:ByteArray) (h:sv w0 W d b t false) (hs:t.size<=1048576) :
  Calls Tryz.prog 12 #[.pointer (some ⟨d,0,none⟩),.pointer (some ⟨b,0,none⟩)] W fun r W'=>r = .returned (.bool true)/\Nt w0 W' d b t:=by
 have hdi:DI w0 W d (dcL (af t)):=h.di;have z:=M1 t;obtain ⟨cut,hcut⟩:∃ cut,cut=decide (rdE (af t)=0/\(dcL (af t)).file.part≠5):=⟨_,rfl⟩;rw[<- hcut] at z;have F1:=Mk hdi;rw[<- z.1,<- z.2] at F1;have HF1:Hid (Calls Tryz.prog 16 #[.pointer (some ⟨d,0,none⟩)] W fun e W'=>e = .returned (.tuple #[.int .i64 (du t cut:Int),.int .i64 (mF t cut:Int)])/\DI w0 W' d (dcZ (af t))/\Fr1 d W W'):=F1;have HF2:Hid (∀ W1,Fr1 d W W1->Calls Tryz.prog 17 #[.pointer (some ⟨b,0,none⟩)] W1 fun r W2=>r = .returned (.tuple #[.int .i64 (du t cut:Int),.int .i64 (mF t cut:Int)])/\de W2 b t cut/\Fr1 b W1 W2):=fun W1 k=>by
  refine (Cz b t W1 (h.ref.oth k h.lt) hs).mono ?_;rintro r W2 ⟨c2,e2,a1,a2,a3⟩;rw[<- hcut] at e2;subst e2;exact ⟨a1,a2,a3⟩
 have HLT:Hid (d<b):=h.lt;have HC:Hid (DI w0 W d (dcL (af t))->cut=true->rdE (af t)=0/\(dcL (af t)).file.part≠5):=fun _ q=>by rw[hcut] at q;exact of_decide_eq_true q
 have HZ:Hid (dcZ (af t)=if cut=true then dcZ (af t) else dcL (af t)):=by
  show dcZ (af t)=_
  by_cases c:rdE (af t)=0/\(dcL (af t)).file.part≠5
  ·rw[hcut,if_pos (decide_eq_true c)]
  ·rw[hcut,if_neg (by rw[decide_eq_false c];decide)];exact Ix c
 have HDI:Hid (DI w0 W d (dcL (af t))):=hdi;generalize du t cut=E at *;generalize mF t cut=A at *;clear h F1 z hcut hdi;go_enter Tryz.func12,Tryz.ntmps12;go_wp2_with fail;refine HF1.out.mono ?_;rintro r w1 ⟨rfl,d1,k1⟩;go_wp2_with fail;refine (HF2.out w1 k1).mono ?_;rintro r w2 ⟨rfl,r2,k2⟩;have d2:=d1.oth k2 HLT.out;rw[HZ.out] at d2;have HB:Hid (sv w0 w2 d b t cut):=⟨d2,r2,HLT.out,fun q=>HC.out HDI.out q⟩;clear d1 d2 k1 k2 r2 HF1 HF2;go_wp2;go_ret;exact ⟨rfl,cut,HB.out⟩
def lu:List ByteArray->Nat
 | []=>0
 | s::l=>s.size+lu l
theorem DV (l:List ByteArray) (s:ByteArray):lu (l++[s])=lu l+s.size:=by
 induction l with
 | nil=>simp [lu]
 | cons x l ih=>rw[List.cons_append,lu,lu,ih];omega
theorem uF (l:List ByteArray) (k:Nat) (h:k<l.length):lu (l.take (k+1))=lu (l.take k)+(l.getD k ByteArray.empty).size:=by
 rw[List.take_succ_eq_append_getElem h,DV,List.getD_eq_getElem?_getD,List.getElem?_eq_getElem h];rfl
theorem DW (l:List ByteArray) (k n:Nat) (h:k<=n):lu (l.take k)<=lu (l.take n):=by
 induction n with
 | zero=>
  have:k=0:=by omega
  subst this;exact Nat.le_refl _
 | succ n ih=>
  by_cases e:k=n+1
  ·rw[e];exact Nat.le_refl _
  ·by_cases c:n<l.length
   ·rw[uF l n c];have:=ih (by omega);omega
   ·have e1:l.take (n+1)=l.take n:=by rw[List.take_of_length_le (show l.length<=n+1 by omega),List.take_of_length_le (show l.length<=n by omega)]
    rw[e1];exact ih (by omega)
structure Jh (w:World) (a:Option Addr) (len:Nat) (ss:List ByteArray):Prop where
 cells:∀ j,j<len->∃ g o,a=some ⟨g,o,none⟩/\w.cell? ⟨g,o+j,none⟩=some (.string (ss.getD j ByteArray.empty))
 ll:len<=ss.length
 lm:len<=140737488351232
 sz:∀ j,j<len->(ss.getD j ByteArray.empty).size<=140737488351232
def Nr (len:Nat) (ss:List ByteArray) (r:Ending):Prop:=∃ F:Bool,r = .returned (.bool F)/\(F=true->len+lu (ss.take len)<=65536)
theorem Kq (a:Option Addr) (len cap:Nat) (ss:List ByteArray) (w:World) (h:Jh w a len ss) :
  Calls Tryz.prog 13 #[.slice a len cap] w fun r w'=>Nr len ss r/\w'=w:=by
 have hl:=h.lm;by_cases c:65536<len
 ·have ci:(65536:Int)<(len:Int):=by omega
  clear h c;go_enter Tryz.func13,Tryz.ntmps13;go_wp2;go_ret;exact ⟨⟨false,rfl,(fun q=>by cases q)⟩,rfl⟩
 ·have ci:¬ (65536:Int)<(len:Int):=by omega
  have H:Hid (Jh w a len ss):=h;have hl6:len<=65536:=by omega
  clear h c;go_enter Tryz.func13,Tryz.ntmps13;go_wp2_with fail;go_loop [3,4] (fun v3 v4=>∃ k n:Nat,k<=len/\v4 = .int .i64 (k:Int)/\v3 = .int .i64 (n:Int)/\n<=65536/\Hid (n=len+lu (ss.take k))) (fun _ v4=>len - (intOf v4).toNat)
  case atStart=>exact ⟨0,len,by omega,rfl,rfl,hl6,by show len=len+lu (ss.take 0);rw[List.take_zero,lu];omega⟩
  case round=>
   obtain ⟨k,n,hk,rfl,rfl,hn,HN⟩:=hrel;by_cases c:k<len
   ·obtain ⟨g,o,rfl,hc⟩:=H.out.cells k c
    have ki:(k:Int)<(len:Int):=by omega
    obtain ⟨s,hs⟩:∃ s,s=ss.getD k ByteArray.empty:=⟨_,rfl⟩;rw[<- hs] at hc;have hss:s.size<=140737488351232:=by rw[hs];exact H.out.sz k c
    have HT:Hid (lu (ss.take (k+1))=lu (ss.take k)+s.size):=by
     show lu (ss.take (k+1))=_
     rw[hs];exact uF ss k (Nat.lt_of_lt_of_le c H.out.ll)
    clear hs;by_cases d:65536<n+s.size
    ·have di:(65536:Int)<(n:Int)+(s.size:Int):=by omega
     go_wp2;go_ret;exact ⟨⟨false,rfl,(fun q=>by cases q)⟩,rfl⟩
    ·have di:¬ (65536:Int)<(n:Int)+(s.size:Int):=by omega
     go_wp2;exact ⟨⟨k+1,n+s.size,by omega,by go_num,by go_num,by omega,by show n+s.size=len+lu (ss.take (k+1));rw[HT.out];have:=HN.out;omega⟩,by simp [intOf];omega⟩
   ·have e:k=len:=by omega
    subst e;have ki:¬ (k:Int)<(k:Int):=by omega
    go_wp2;go_ret;exact ⟨⟨true,rfl,fun _=>by have:=HN.out;omega⟩,rfl⟩
