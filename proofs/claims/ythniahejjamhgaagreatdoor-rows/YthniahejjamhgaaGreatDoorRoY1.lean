import Derived.Test.YthniahejjamhgaaGreatDoorRoD0
import Derived.Test.YthniahejjamhgaaGreatDoorRoS1
import Derived.Deep.CutBlock
set_option maxRecDepth 100000
set_option maxHeartbeats 6400000
namespace Go.Proofs.YthniahejjamhgaaGreatDoor
open Go.RowKit Px
set_option linter.unusedSimpArgs false
set_option linter.unusedVariables false
def OwnB (w:World) (N:Nat) (v:Value) (l:List Int):Prop:=isBytes l/\w.ownsRow N 5 1 v l.length (u8s l)
theorem OwnB.own8 {w:World} {N:Nat} {v:Value} {l:List Int} (h:OwnB w N v l):Own8 w N v l.length:=⟨l,rfl,h.1,h.2⟩
theorem OwnB.slice {w:World} {N:Nat} {v:Value} {l:List Int} (h:OwnB w N v l):∃ p c,v = .slice p l.length c:=own_slice h.2
theorem OwnB.kept {w W:World} {N:Nat} {v:Value} {l:List Int} (h:OwnB w N v l) (k:Kept w W):OwnB W N v l:=⟨h.1,own_kept h.2 k⟩
theorem OwnB.alloc {w:World} {N:Nat} {v:Value} {l:List Int} (h:OwnB w N v l) (o:Obj):OwnB (w.alloc o) N v l:=h.kept ((Below.refl _ _).alloc (Nat.le_refl _) o)
theorem OwnB.drewN {w:World} {N:Nat} {v:Value} {l:List Int} (h:OwnB w N v l) (k:Nat):OwnB (w.drewN k) N v l:=h.kept ((Kept.refl _).drewN k)
theorem OwnB.set {w:World} {N:Nat} {v:Value} {l:List Int} (h:OwnB w N v l) {b:Nat} (hb:b<N) (k:Nat) (u:Value):OwnB (w.setCell ⟨b,k,none⟩ u) N v l:=⟨h.1,ownsRow_setCell_below h.2 hb _⟩
theorem OwnB.ge {w:World} {N:Nat} {v:Value} {l:List Int} (h:OwnB w N v l):∀ k,v.ownBlock=some k->N<=k:=fun k hk=>(h.2.lt k hk).1
theorem OwnB.nil (w:World) (N:Nat):OwnB w N (.slice none 0 0) []:=⟨isBytes.nil,World.ownsRow_nil _ _ _ _⟩
theorem OwnB.lat {w:World} {N:Nat} {v:Value} {l:List Int} (h:OwnB w N v l):LAt w .u8 v l:=own_lat h.2
theorem OwnB.base {w:World} {N M:Nat} {v:Value} {l:List Int} (h:OwnB w N v l) (hb:M<=N):OwnB w M v l:=⟨h.1,own_base h.2 hb⟩
theorem stepB {w:World} {ops:Array Oper} {o:Oper} {a:Act} {K:Act->World->Prop} {Q:Exit->Act->World->Prop} {E:Prop} (hgd:o.guard=none) (s x:Operand)
  (hop:o.op=Op.call { callee:=Callee.builtin Builtin.append,args:=#[s,x],argTypes:=#[105,105] })
  (N:Nat) (v:Value) (l:List Int) (hs:a.eval s=v) (hown:OwnB w N v l)
  (g:Nat) (m c:Nat) (es:List Int) (hx:a.eval x = .slice (some ⟨g,0,none⟩) m c) (hm:m=es.length) (h0:0<m) (hE:isBytes es) (hc:∀ j,j<m->w.cell? ⟨g,j,none⟩=some (.int .u8 (es.getD j 0))) (hb:l.length+m<=1099511627776) (hbase:N<=w.heap.size)
  (hK:∀ g' cap w',OwnB w' N (.slice (some ⟨g',0,none⟩) (l.length+m) cap) (l++es)->Fr (fun k=>v.ownBlock=some k) w w'->K (a.put o.dst (.slice (some ⟨g',0,none⟩) (l.length+m) cap)) w') :
  if Region.wanted o (yielded ops a.tmps)=true then Oper.wp Tryz.prog o a w K Q else E:=by
 obtain ⟨hB,ho⟩:=hown;subst hm;obtain ⟨i0,hi,hz0,hz1,hz2⟩:=info_parts' infoU8;refine step_append_lies w hgd s x 105 hop N 5 i0 (.int .u8 0) 1 1 Tryz.underlying105 hi hz0 hz1 hz2 rfl (by omega) v l.length (u8s l) hs ho ⟨g,0,none⟩ es.length c (u8s es) hx (by simp [u8s]) ?_ ?_ h0 (by unfold maxLen;omega) (by omega) hbase w.heap.size rfl ?_
 ·intro j u hj
  have hlt:j<es.length:=by
   have:=(List.getElem?_eq_some_iff.1 hj).1
   simpa [u8s] using this
  have e:(Addr.add ⟨g,0,none⟩ j)=⟨g,j,none⟩:=by unfold Addr.add;split<;>simp_all
  rw[e,hc j hlt];simp [u8s,List.getElem?_map,List.getElem?_eq_getElem hlt] at hj
  rw[<- hj];simp [List.getD_eq_getElem?_getD,List.getElem?_eq_getElem hlt]
 ·intro u hu;simp [u8s] at hu;obtain ⟨y,_,rfl⟩:=hu;rfl
 ·intro g' cap w' h1 h2 h3 h4
  refine hK g' cap w' ⟨hB.app hE,by simpa [u8s] using h1⟩ ⟨h2.os,h2.tape,h2.output,h2.size,fun k hk hn=>h2.block k hk (fun e=>hn e.symm)⟩
theorem stepB_1 {w:World} {ops:Array Oper} {o:Oper} {a:Act} {K:Act->World->Prop} {Q:Exit->Act->World->Prop} {E:Prop} (hgd:o.guard=none) (s x:Operand)
  (hop:o.op=Op.call { callee:=Callee.builtin Builtin.append,args:=#[s,x],argTypes:=#[105,105] })
  (N:Nat) (v:Value) (l:List Int) (hs:a.eval s=v) (hown:OwnB w N v l)
  (g:Nat) (c:Nat) (e:Int) (hx:a.eval x = .slice (some ⟨g,0,none⟩) 1 c) (he0:0<=e) (he1:e<256) (hc:w.cell? ⟨g,0,none⟩=some (.int .u8 e)) (hb:l.length+1<=1099511627776) (hbase:N<=w.heap.size)
  (hK:∀ g' cap w',OwnB w' N (.slice (some ⟨g',0,none⟩) (l.length+1) cap) (l++[e])->Fr (fun k=>v.ownBlock=some k) w w'->K (a.put o.dst (.slice (some ⟨g',0,none⟩) (l.length+1) cap)) w') :
  if Region.wanted o (yielded ops a.tmps)=true then Oper.wp Tryz.prog o a w K Q else E:=
 stepB hgd s x hop N v l hs hown g 1 c [e] hx rfl (by omega) (fun y hy=>by simp at hy;subst hy;exact ⟨he0,he1⟩) (fun j hj=>match j,hj with | 0,_=>hc) hb hbase hK
def leB:Nat->Nat->List Int
 | 0,_=>[]
 | k+1,r=>((r % 256:Nat):Int)::leB k (r / 256)
theorem leB_len:∀ (k r:Nat),(leB k r).length=k
 | 0,_=>rfl
 | k+1,r=>congrArg (·+1) (leB_len k (r / 256))
theorem leB_snoc:∀ (k r:Nat),leB (k+1) r=leB k r++[((r / 256^k % 256:Nat):Int)]
 | 0,r=>by show [((r % 256:Nat):Int)]=[((r / 256^0 % 256:Nat):Int)];rw[Nat.pow_zero,Nat.div_one]
 | k+1,r=>by
  show ((r % 256:Nat):Int)::leB (k+1) (r / 256)=(((r % 256:Nat):Int)::leB k (r / 256))++_
  rw[leB_snoc k (r / 256),List.cons_append,Nat.div_div_eq_div_mul,show 256*256^k=256^(k+1) from by rw[Nat.pow_succ,Nat.mul_comm]]
structure BitY (W:World) (x N:Nat) (l:List Int) (r m:Nat):Prop where
 lt:x<N
 size:N<=W.heap.size
 fz:∀ k,W.frozen? ⟨x,k,none⟩=false
 out:∃ ov,W.cell? ⟨x,0,none⟩=some ov/\OwnB W N ov l
 rest:W.cell? ⟨x,1,none⟩=some (.int .u32 (r:Int))
 sz:W.cell? ⟨x,2,none⟩=some (.int .u64 (m:Int))
theorem u32_or_shl (a g t:Nat) (ha:a<2^g) (h:a+t*2^g<4294967296):bits .or .u32 (a:Int) ((t*2^g:Nat):Int)=((a+t*2^g:Nat):Int):=by
 rw[u32_or_nat _ _ (by omega) (by omega)]
 have:=Nat.shiftLeft_add_eq_or_of_lt (b:=a) (i:=g) ha t
 rw[Nat.shiftLeft_eq] at this;rw[Nat.or_comm,<- this,Nat.add_comm]
def putR (r m n s:Nat):Nat:=r+n % 2^s*2^m
theorem putR_lt {r m n s:Nat} (hr:r<2^m):putR r m n s<2^(m+s):=by
 unfold putR;have h1:n % 2^s<2^s:=Nat.mod_lt _ (Nat.two_pow_pos s);have h2:(n % 2^s+1)*2^m<=2^s*2^m:=Nat.mul_le_mul_right _ h1;rw[Nat.add_mul,Nat.one_mul] at h2;rw[Nat.pow_add,Nat.mul_comm (2^m)];omega
theorem pow24 {k:Nat} (h:k<=23):2^k<=8388608:=Nat.le_trans (Nat.pow_le_pow_right (by omega) h) (by decide)
theorem number_y (x N:Nat) (l:List Int) (r m n s:Nat) (w:World) (h:BitY w x N l r m) (hr:r<2^m) (hm7:m<=7) (hs:s<=16) (hn1:n<4294967296) (hl:l.length<=1073741824) :
  Calls Tryz.prog 101 #[.pointer (some ⟨x,0,none⟩),.int .u32 (n:Int),.int .u64 (s:Int)] w fun e w'=>e = .returned (.tuple #[])/\BitY w' x N (l++leB ((m+s) / 8) (putR r m n s)) (putR r m n s / 256^((m+s) / 8)) ((m+s) % 8)/\FrN x N w w'/\(∀ j,3<=j->w'.cell? ⟨x,j,none⟩=w.cell? ⟨x,j,none⟩):=by
 obtain ⟨hlt,hsz,hfz,⟨ov,h0,hown⟩,h1,h2⟩:=h;obtain ⟨p,c,rfl⟩:=hown.slice;have hfa:=hfz 0;have hfb:=hfz 1;have hfc:=hfz 2;have HO:Hid (OwnB w N (.slice p l.length c) l):=hown;have hpR:=putR_lt (n:=n) (s:=s) hr;have hp24:=pow24 (k:=m+s) (by omega);obtain ⟨PR,hPR⟩:∃ PR,PR=putR r m n s:=⟨_,rfl⟩;have HR:Hid (∀ q:Int,q=bits BinOp.or IntKind.u32 (r:Int) (bits BinOp.and IntKind.u32 (n:Int) ((2^s - 1) % 4294967296)*2^m % 4294967296)->q=(PR:Int)):=fun q hq=>by
  have hp:=pow24 (k:=s) (by omega);have hs1:1<=2^s:=Nat.one_le_two_pow;have e1:((2:Int)^s - 1) % 4294967296=((2^s - 1:Nat):Int):=by
   have:(2:Int)^s=((2^s:Nat):Int):=by simp
   rw[this];omega
  have hnm:n % 2^s*2^m<=putR r m n s:=by unfold putR;omega
  have e2:((n % 2^s:Nat):Int)*2^m % 4294967296=((n % 2^s*2^m:Nat):Int):=by
   have:((n % 2^s:Nat):Int)*2^m=((n % 2^s*2^m:Nat):Int):=by simp
   rw[this];obtain ⟨Z,hZ⟩:∃ Z,Z=n % 2^s*2^m:=⟨_,rfl⟩;rw[<- hZ] at hnm ⊢;omega
  rw[hq,e1,u32_and_mask n s hn1 (by omega),e2,u32_or_shl r m _ hr (by show putR r m n s<_;omega),hPR];rfl
 rw[<- hPR] at hpR ⊢;have hPRb:PR<8388608:=by omega
 clear hown hPR hpR hp24;obtain ⟨MS,hMS⟩:∃ MS,MS=m+s:=⟨_,rfl⟩;have eMS:(m:Int)+(s:Int)=(MS:Int):=by omega
 have hMS23:MS<=23:=by omega
 rw[<- hMS];clear hMS;go_enter Tryz.func101,Tryz.ntmps101;go_wp2;go_region
 rw[HR.out _ rfl];have hD:((w.setCell { block:=x,off:=1 } (Value.int IntKind.u32 (PR:Int))).drew)=((w.setCell { block:=x,off:=1 } (Value.int IntKind.u32 (PR:Int))).drewN 1):=rfl;rw[hD];clear hD;have a0:((w.setCell ⟨x,1,none⟩ (Value.int IntKind.u32 (PR:Int))).drewN 1).cell? ⟨x,0,none⟩=some (Value.slice p l.length c):=(cell_set_other _ _ _ _ _ (by omega)).trans h0;have a1:((w.setCell ⟨x,1,none⟩ (Value.int IntKind.u32 (PR:Int))).drewN 1).cell? ⟨x,1,none⟩=some (Value.int IntKind.u32 (PR:Int)):=cell_set_same h1 _;have a2:((w.setCell ⟨x,1,none⟩ (Value.int IntKind.u32 (PR:Int))).drewN 1).cell? ⟨x,2,none⟩=some (Value.int IntKind.u64 (m:Int)):=(cell_set_other _ _ _ _ _ (by omega)).trans h2;have af:∀ k,((w.setCell ⟨x,1,none⟩ (Value.int IntKind.u32 (PR:Int))).drewN 1).frozen? ⟨x,k,none⟩=false:=fun k=>by show (w.setCell _ _).frozen? _=false;rw[World.frozen?_setCell];exact hfz k
 have HO1:Hid (OwnB ((w.setCell ⟨x,1,none⟩ (Value.int IntKind.u32 (PR:Int))).drewN 1) N (.slice p l.length c) l):=(HO.out.set hlt _ _).drewN _;have HF1:Hid (FrN x N w ((w.setCell ⟨x,1,none⟩ (Value.int IntKind.u32 (PR:Int))).drewN 1)):=((Fr.refl _ _).setCell (Or.inl (Or.inl rfl)) _ _).drewN _;have HJ1:Hid (∀ j,3<=j->((w.setCell ⟨x,1,none⟩ (Value.int IntKind.u32 (PR:Int))).drewN 1).cell? ⟨x,j,none⟩=w.cell? ⟨x,j,none⟩):=fun j hj=>cell_set_other _ _ _ _ _ (by omega)
 generalize (w.setCell ⟨x,1,none⟩ (Value.int IntKind.u32 (PR:Int))).drewN 1=w1 at *;clear h0 h1 h2 hfa hfb hfc;have hfa:=af 0;have hfb:=af 1;have hfc:=af 2;go_wp2;generalize ((2:Int)^s % 4294967296 - 1) % 4294967296=Z1;go_loopw [] (fun W=>∃ k q:Nat,∃ ov:Value,8*q+k=MS/\W.cell? ⟨x,2,none⟩=some (.int .u64 (k:Int))/\W.cell? ⟨x,0,none⟩=some ov/\OwnB W N ov (l++leB q PR)/\W.cell? ⟨x,1,none⟩=some (.int .u32 ((PR / 256^q:Nat):Int))/\(∀ k,W.frozen? ⟨x,k,none⟩=false)/\FrN x N w W/\(∀ j,3<=j->W.cell? ⟨x,j,none⟩=w.cell? ⟨x,j,none⟩)) (fun W=>szOf W x)
 case atStart=>
  refine ⟨MS,0,_,by omega,?_,(cell_set_other _ _ _ _ _ (by omega)).trans a0,?_,?_,?_,HF1.out.setCell (Or.inl (Or.inl rfl)) _ _,?_⟩
  ·exact cell_set_same a2 _
  ·rw[show leB 0 PR=[] from rfl,List.append_nil];exact HO1.out.set hlt _ _
  ·rw[Nat.pow_zero,Nat.div_one];exact (cell_set_other _ _ _ _ _ (by omega)).trans a1
  ·intro k;rw[World.frozen?_setCell];exact af k
  ·intro j hj;rw[cell_set_other _ _ _ _ _ (by omega)];exact HJ1.out j hj
 case round=>
  obtain ⟨k,q,ov,he,c2,c0,ho,c1,ff,hF,hJ⟩:=hrel;obtain ⟨p2,cc,rfl⟩:=ho.slice;have f0:=ff 0;have f1:=ff 1;have f2:=ff 2;have hN:N<=wr.heap.size:=Nat.le_trans hsz hF.size;have HF:Hid (FrN x N w wr):=hF;have HJ:Hid (∀ j,3<=j->wr.cell? ⟨x,j,none⟩=w.cell? ⟨x,j,none⟩):=hJ;obtain ⟨LL,hLL⟩:∃ LL,LL=l++leB q PR:=⟨_,rfl⟩;have hLLl:LL.length=l.length+q:=by rw[hLL,List.length_append,leB_len]
  rw[<- hLL] at ho c0;have HO2:Hid (OwnB wr N (.slice p2 LL.length cc) LL):=ho;replace ff:Hid (∀ k,wr.frozen? ⟨x,k,none⟩=false):=ff;obtain ⟨RQ,hRQ⟩:∃ RQ,RQ=PR / 256^q:=⟨_,rfl⟩;have hRQb:RQ<=PR:=by rw[hRQ];exact Nat.div_le_self _ _
  rw[<- hRQ] at c1;obtain ⟨QL,hQL⟩:∃ QL,QL=LL.length:=⟨_,rfl⟩;rw[<- hQL] at HO2 c0;have hQLb:QL<=1073741824+3:=by omega
  have hLLb:LL.length<=1073741824+3:=by omega
  replace hLLl:Hid _:=hLLl;clear ho hF hJ af HO HO1 HF1 HJ1;by_cases hge:8<=k
  ·have hge':(8:Int)<=(k:Int):=by omega
   have e8:IntKind.u8.wrap (RQ:Int)=((RQ % 256:Nat):Int):=u8_wrap RQ;have e0:0<=IntKind.u8.wrap (RQ:Int):=by rw[e8];omega
   have e1:IntKind.u8.wrap (RQ:Int)<256:=by rw[e8];omega
   have HLq:Hid (LL++[IntKind.u8.wrap (RQ:Int)]=l++leB (q+1) PR):=by
    show LL++[IntKind.u8.wrap (RQ:Int)]=l++leB (q+1) PR
    rw[e8,hLL,leB_snoc,hRQ,List.append_assoc]
   have HRq:Hid (RQ / 256=PR / 256^(q+1)):=by
    show RQ / 256=PR / 256^(q+1)
    rw[hRQ,Nat.div_div_eq_div_mul,Nat.pow_succ]
   have hne:¬ (Value.slice p2 QL cc).ownBlock=some x:=fun e=>by have:=HO2.out.ge x e;omega
   have hxs:x<wr.heap.size:=by omega
   have HQ:Hid (QL=LL.length):=hQL;have HO2':Hid (OwnB wr N (.slice p2 QL cc) LL):=HO2.out;clear e8 hLL hRQ hQL;go_wp2;go_region_law ((refine stepB_1 (by rfl) _ _ (by rfl) N (.slice p2 QL cc) LL (by rfl) (by first | exact HO2.out.alloc _ | exact (HO2.out.drewN _).alloc _ | exact (HO2.out.alloc _).drewN _) wr.heap.size 1 (IntKind.u8.wrap (RQ:Int)) (by rfl) e0 e1 (by simp) (by omega) (by simp;omega) ?_;intro g' cap w2 ho2 hf2;have fk:Fr (fun k=>(Value.slice p2 QL cc).ownBlock=some k) wr w2:=(((Fr.refl _ wr).drewN 1).alloc _).trans hf2;have k0:=(fk.cell (k:=0) hxs hne).trans c0;have k1:=(fk.cell (k:=1) hxs hne).trans c1;have k2:=(fk.cell (k:=2) hxs hne).trans c2;have g0:=(fk.frozen (k:=0) hxs hne).trans f0;have g1:=(fk.frozen (k:=1) hxs hne).trans f1;have g2:=(fk.frozen (k:=2) hxs hne).trans f2))
   all_goals
    have HO3:Hid (OwnB (w2.setCell ⟨x,0,none⟩ (Value.slice (some ⟨g',0,none⟩) (LL.length+1) cap)) N (Value.slice (some ⟨g',0,none⟩) (LL.length+1) cap) (l++leB (q+1) PR)):=by rw[<- HLq.out];exact ho2.set hlt _ _
    have HF3:Hid (FrN x N w (w2.setCell ⟨x,0,none⟩ (Value.slice (some ⟨g',0,none⟩) (LL.length+1) cap))):=(HF.out.trans' fk (fun i _ e=>Or.inr (HO2.out.ge i e))).setCell (Or.inl (Or.inl rfl)) _ _;have HJ3:Hid (∀ j,3<=j->(w2.setCell ⟨x,0,none⟩ (Value.slice (some ⟨g',0,none⟩) (LL.length+1) cap)).cell? ⟨x,j,none⟩=w.cell? ⟨x,j,none⟩):=fun j hj=>(cell_set_other _ _ _ _ _ (by omega)).trans ((fk.cell hxs hne).trans (HJ.out j hj))
    have HG3:Hid (∀ k,(w2.setCell ⟨x,0,none⟩ (Value.slice (some ⟨g',0,none⟩) (LL.length+1) cap)).frozen? ⟨x,k,none⟩=false):=fun k=>by rw[World.frozen?_setCell];exact (fk.frozen hxs hne).trans (ff.out k)
    have m0:=cell_set_same k0 (Value.slice (some ⟨g',0,none⟩) (LL.length+1) cap);have m1:=(cell_set_other w2 x 0 1 (Value.slice (some ⟨g',0,none⟩) (LL.length+1) cap) (by omega)).trans k1;have m2:=(cell_set_other w2 x 0 2 (Value.slice (some ⟨g',0,none⟩) (LL.length+1) cap) (by omega)).trans k2;have hsz':szOf wr x=k:=by unfold szOf;rw[c2];simp
    generalize w2.setCell ⟨x,0,none⟩ (Value.slice (some ⟨g',0,none⟩) (LL.length+1) cap)=w3 at *;have n0:=HG3.out 0;have n1:=HG3.out 1;have n2:=HG3.out 2;clear fk hf2 ho2 HO2 HO2' HF HJ k0 k1 k2 g0 g1 g2 c0 c1 c2 f0 f1 f2;go_wp2;refine ⟨⟨k - 8,q+1,_,by omega,?_,(cell_set_other _ _ _ _ _ (by omega)).trans ((cell_set_other _ _ _ _ _ (by omega)).trans m0),(HO3.out.set hlt _ _).set hlt _ _,?_,?_,(HF3.out.setCell (Or.inl (Or.inl rfl)) _ _).setCell (Or.inl (Or.inl rfl)) _ _,?_⟩,?_⟩
    ·rw[cell_set_same ((cell_set_other _ _ _ _ _ (by omega)).trans m2)]
     exact congrArg some (val_int (by omega))
    ·rw[cell_set_other _ _ _ _ _ (by omega),cell_set_same m1]
     exact congrArg some (val_int (by rw[<- HRq.out];omega))
    ·intro k;rw[World.frozen?_setCell,World.frozen?_setCell];exact HG3.out k
    ·intro j hj;rw[cell_set_other _ _ _ _ _ (by omega),cell_set_other _ _ _ _ _ (by omega)];exact HJ3.out j hj
    ·rw[hsz']
     unfold szOf;rw[cell_set_same ((cell_set_other _ _ _ _ _ (by omega)).trans m2)];show ((k:Int) - 8).toNat<k
     omega
  ·have hge':¬ (8:Int)<=(k:Int):=by omega
   have HL:Hid (LL=l++leB q PR):=hLL;have HRQ:Hid (RQ=PR / 256^q):=hRQ;clear hLL hRQ hQL;go_wp2;go_end0
   have hq:MS / 8=q:=by omega
   have hk:MS % 8=k:=by omega
   rw[hq,hk,<- HRQ.out,<- HL.out];exact ⟨rfl,⟨hlt,hN,ff.out,⟨_,c0,HO2.out⟩,c1,c2⟩,HF.out,HJ.out⟩
structure WroteB (x N:Nat) (l:List Int) (r m:Nat) (w w':World):Prop where
 bits:BitY w' x N l r m
 fr:FrN x N w w'
 far:∀ j,3<=j->w'.cell? ⟨x,j,none⟩=w.cell? ⟨x,j,none⟩
theorem WroteB.refl {x N:Nat} {l:List Int} {r m:Nat} {w:World} (h:BitY w x N l r m):WroteB x N l r m w w:=⟨h,Fr.refl _ _,fun _ _=>rfl⟩
theorem WroteB.trans {x N:Nat} {l l':List Int} {r m r' m':Nat} {a b c:World} (h:WroteB x N l r m a b) (k:WroteB x N l' r' m' b c):WroteB x N l' r' m' a c:=⟨k.bits,h.fr.trans k.fr,fun j hj=>(k.far j hj).trans (h.far j hj)⟩
theorem BitY.kept {x N:Nat} {l:List Int} {r m:Nat} {w w':World} (h:BitY w x N l r m) (k:Kept w w'):BitY w' x N l r m:=by
 have hx:x<w.heap.size:=Nat.lt_of_lt_of_le h.lt h.size;obtain ⟨ov,h0,ho⟩:=h.out;exact ⟨h.lt,Nat.le_trans h.size k.size,fun j=>(k.frozen (p:=⟨x,j,none⟩) hx).trans (h.fz j),⟨ov,(k.cell (p:=⟨x,0,none⟩) hx).trans h0,ho.kept k⟩,(k.cell (p:=⟨x,1,none⟩) hx).trans h.rest,(k.cell (p:=⟨x,2,none⟩) hx).trans h.sz⟩
theorem WroteB.kept {x N:Nat} {l:List Int} {r m:Nat} {a b c:World} (h:WroteB x N l r m a b) (k:Kept b c):WroteB x N l r m a c:=by
 have hx:x<b.heap.size:=Nat.lt_of_lt_of_le h.bits.lt h.bits.size;exact ⟨h.bits.kept k,h.fr.kept k,fun j hj=>(k.cell (p:=⟨x,j,none⟩) hx).trans (h.far j hj)⟩
theorem number_wb (x N:Nat) (l:List Int) (r m n s:Nat) (l':List Int) (r' m':Nat) (w:World) (h:BitY w x N l r m) (hr:r<2^m) (hm7:m<=7) (hs:s<=16) (hn1:n<4294967296) (hl:l.length<=1073741824) (e1:l'=l++leB ((m+s) / 8) (putR r m n s)) (e2:r'=putR r m n s / 256^((m+s) / 8)) (e3:m'=(m+s) % 8) :
  Calls Tryz.prog 101 #[.pointer (some ⟨x,0,none⟩),.int .u32 (n:Int),.int .u64 (s:Int)] w fun e w'=>e = .returned (.tuple #[])/\WroteB x N l' r' m' w w':=by
 subst e1;subst e2;subst e3;exact (number_y x N l r m n s w h hr hm7 hs hn1 hl).mono (fun e w' ⟨q1,q2,q3,q4⟩=>⟨q1,q2,q3,q4⟩)
theorem byte_b (x N:Nat) (l:List Int) (n:Nat) (w:World) (h:BitY w x N l 0 0) (hn1:n<4294967296) (hl:l.length<=1073741824) :
  Calls Tryz.prog 101 #[.pointer (some ⟨x,0,none⟩),.int .u32 (n:Int),.int .u64 8] w fun e w'=>e = .returned (.tuple #[])/\WroteB x N (l++[((n % 256:Nat):Int)]) 0 0 w w':=by
 refine number_wb x N l 0 0 n 8 _ 0 0 w h (by omega) (by omega) (by omega) hn1 hl ?_ ?_ rfl
 ·show _=l++[(((0+n % 256*1) % 256:Nat):Int)]
  rw[Nat.zero_add,Nat.mul_one,Nat.mod_mod]
 ·show 0=(0+n % 256*1) / 256
  omega
theorem pair_b (x N:Nat) (l:List Int) (n:Nat) (w:World) (h:BitY w x N l 0 0) (hn1:n<4294967296) (hl:l.length<=1073741824) :
  Calls Tryz.prog 101 #[.pointer (some ⟨x,0,none⟩),.int .u32 (n:Int),.int .u64 16] w fun e w'=>e = .returned (.tuple #[])/\WroteB x N (l++[((n % 256:Nat):Int),((n / 256 % 256:Nat):Int)]) 0 0 w w':=by
 refine number_wb x N l 0 0 n 16 _ 0 0 w h (by omega) (by omega) (by omega) hn1 hl ?_ ?_ rfl
 ·show _=l++[(((0+n % 65536*1) % 256:Nat):Int),(((0+n % 65536*1) / 256 % 256:Nat):Int)]
  rw[show (0+n % 65536*1) % 256=n % 256 from by omega,show (0+n % 65536*1) / 256 % 256=n / 256 % 256 from by omega]
 ·show 0=(0+n % 65536*1) / 65536
  omega
def zFlg (v:Nat):Nat:=(31 - 256*(8+16*v) % 31) % 31
theorem head_b (x N v:Nat) (l:List Int) (w:World) (h:BitY w x N l 0 0) (hv:v<=7) (hl:l.length<=1000000) :
  Calls Tryz.prog 69 #[.pointer (some ⟨x,0,none⟩),.int .i64 (v:Int)] w fun e w'=>e = .returned (.tuple #[])/\WroteB x N (l++[((8+16*v:Nat):Int),(zFlg v:Int)]) 0 0 w w':=by
 have F1:Hid (∀ n:Nat,n<4294967296->Calls Tryz.prog 101 #[.pointer (some ⟨x,0,none⟩),.int .u32 (n:Int),.int .u64 8] w fun e w'=>e = .returned (.tuple #[])/\WroteB x N (l++[((n % 256:Nat):Int)]) 0 0 w w'):=fun n hn=>byte_b x N l n w h hn (by omega)
 have F2:Hid (∀ (W:World) (l1:List Int) (n:Nat),n<4294967296->l1.length<=1000001->BitY W x N l1 0 0->Calls Tryz.prog 101 #[.pointer (some ⟨x,0,none⟩),.int .u32 (n:Int),.int .u64 8] W fun e w'=>e = .returned (.tuple #[])/\WroteB x N (l1++[((n % 256:Nat):Int)]) 0 0 W w'):=fun W l1 n hn hl1 hb=>byte_b x N l1 n W hb hn (by omega)
 clear h;have hv':v=0\/v=1\/v=2\/v=3\/v=4\/v=5\/v=6\/v=7:=by omega
 rcases hv' with rfl | rfl | rfl | rfl | rfl | rfl | rfl | rfl
 ·clear hv
  have e1:(zFlg 0:Int)=29:=by decide
  have e2:((8+16*0:Nat):Int)=8:=by decide
  rw[e1,e2];clear e1 e2;have G1:=F1.out 8 (by decide);have G2:=fun W l1=>F2.out W l1 29 (by decide)
  replace G1:Hid (Calls Tryz.prog 101 #[.pointer (some ⟨x,0,none⟩),.int .u32 8,.int .u64 8] w fun e w'=>e = .returned (.tuple #[])/\WroteB x N (l++[8]) 0 0 w w'):=G1;replace G2:Hid (∀ (W:World) (l1:List Int),l1.length<=1000001->BitY W x N l1 0 0->Calls Tryz.prog 101 #[.pointer (some ⟨x,0,none⟩),.int .u32 29,.int .u64 8] W fun e w'=>e = .returned (.tuple #[])/\WroteB x N (l1++[29]) 0 0 W w'):=G2;clear F1 F2;go_enter Tryz.func69,Tryz.ntmps69;go_wp2_with fail;refine G1.out.mono ?_;rintro e w1 ⟨rfl,hw1⟩;go_wp2_with fail;refine (G2.out _ _ (by simp;omega) hw1.bits).mono ?_;rintro e w2 ⟨rfl,hw2⟩;go_wp2;go_end0
  refine ⟨rfl,?_⟩
  have:=hw1.trans hw2
  rw[List.append_assoc] at this;exact this
 ·clear hv
  have e1:(zFlg 1:Int)=25:=by decide
  have e2:((8+16*1:Nat):Int)=24:=by decide
  rw[e1,e2];clear e1 e2;have G1:=F1.out 24 (by decide);have G2:=fun W l1=>F2.out W l1 25 (by decide)
  replace G1:Hid (Calls Tryz.prog 101 #[.pointer (some ⟨x,0,none⟩),.int .u32 24,.int .u64 8] w fun e w'=>e = .returned (.tuple #[])/\WroteB x N (l++[24]) 0 0 w w'):=G1;replace G2:Hid (∀ (W:World) (l1:List Int),l1.length<=1000001->BitY W x N l1 0 0->Calls Tryz.prog 101 #[.pointer (some ⟨x,0,none⟩),.int .u32 25,.int .u64 8] W fun e w'=>e = .returned (.tuple #[])/\WroteB x N (l1++[25]) 0 0 W w'):=G2;clear F1 F2;go_enter Tryz.func69,Tryz.ntmps69;go_wp2_with fail;refine G1.out.mono ?_;rintro e w1 ⟨rfl,hw1⟩;go_wp2_with fail;refine (G2.out _ _ (by simp;omega) hw1.bits).mono ?_;rintro e w2 ⟨rfl,hw2⟩;go_wp2;go_end0
  refine ⟨rfl,?_⟩
  have:=hw1.trans hw2
  rw[List.append_assoc] at this;exact this
 ·clear hv
  have e1:(zFlg 2:Int)=21:=by decide
  have e2:((8+16*2:Nat):Int)=40:=by decide
  rw[e1,e2];clear e1 e2;have G1:=F1.out 40 (by decide);have G2:=fun W l1=>F2.out W l1 21 (by decide)
  replace G1:Hid (Calls Tryz.prog 101 #[.pointer (some ⟨x,0,none⟩),.int .u32 40,.int .u64 8] w fun e w'=>e = .returned (.tuple #[])/\WroteB x N (l++[40]) 0 0 w w'):=G1;replace G2:Hid (∀ (W:World) (l1:List Int),l1.length<=1000001->BitY W x N l1 0 0->Calls Tryz.prog 101 #[.pointer (some ⟨x,0,none⟩),.int .u32 21,.int .u64 8] W fun e w'=>e = .returned (.tuple #[])/\WroteB x N (l1++[21]) 0 0 W w'):=G2;clear F1 F2;go_enter Tryz.func69,Tryz.ntmps69;go_wp2_with fail;refine G1.out.mono ?_;rintro e w1 ⟨rfl,hw1⟩;go_wp2_with fail;refine (G2.out _ _ (by simp;omega) hw1.bits).mono ?_;rintro e w2 ⟨rfl,hw2⟩;go_wp2;go_end0
  refine ⟨rfl,?_⟩
  have:=hw1.trans hw2
  rw[List.append_assoc] at this;exact this
 ·clear hv
  have e1:(zFlg 3:Int)=17:=by decide
  have e2:((8+16*3:Nat):Int)=56:=by decide
  rw[e1,e2];clear e1 e2;have G1:=F1.out 56 (by decide);have G2:=fun W l1=>F2.out W l1 17 (by decide)
  replace G1:Hid (Calls Tryz.prog 101 #[.pointer (some ⟨x,0,none⟩),.int .u32 56,.int .u64 8] w fun e w'=>e = .returned (.tuple #[])/\WroteB x N (l++[56]) 0 0 w w'):=G1;replace G2:Hid (∀ (W:World) (l1:List Int),l1.length<=1000001->BitY W x N l1 0 0->Calls Tryz.prog 101 #[.pointer (some ⟨x,0,none⟩),.int .u32 17,.int .u64 8] W fun e w'=>e = .returned (.tuple #[])/\WroteB x N (l1++[17]) 0 0 W w'):=G2;clear F1 F2;go_enter Tryz.func69,Tryz.ntmps69;go_wp2_with fail;refine G1.out.mono ?_;rintro e w1 ⟨rfl,hw1⟩;go_wp2_with fail;refine (G2.out _ _ (by simp;omega) hw1.bits).mono ?_;rintro e w2 ⟨rfl,hw2⟩;go_wp2;go_end0
  refine ⟨rfl,?_⟩
  have:=hw1.trans hw2
  rw[List.append_assoc] at this;exact this
 ·clear hv
  have e1:(zFlg 4:Int)=13:=by decide
  have e2:((8+16*4:Nat):Int)=72:=by decide
  rw[e1,e2];clear e1 e2;have G1:=F1.out 72 (by decide);have G2:=fun W l1=>F2.out W l1 13 (by decide)
  replace G1:Hid (Calls Tryz.prog 101 #[.pointer (some ⟨x,0,none⟩),.int .u32 72,.int .u64 8] w fun e w'=>e = .returned (.tuple #[])/\WroteB x N (l++[72]) 0 0 w w'):=G1;replace G2:Hid (∀ (W:World) (l1:List Int),l1.length<=1000001->BitY W x N l1 0 0->Calls Tryz.prog 101 #[.pointer (some ⟨x,0,none⟩),.int .u32 13,.int .u64 8] W fun e w'=>e = .returned (.tuple #[])/\WroteB x N (l1++[13]) 0 0 W w'):=G2;clear F1 F2;go_enter Tryz.func69,Tryz.ntmps69;go_wp2_with fail;refine G1.out.mono ?_;rintro e w1 ⟨rfl,hw1⟩;go_wp2_with fail;refine (G2.out _ _ (by simp;omega) hw1.bits).mono ?_;rintro e w2 ⟨rfl,hw2⟩;go_wp2;go_end0
  refine ⟨rfl,?_⟩
  have:=hw1.trans hw2
  rw[List.append_assoc] at this;exact this
 ·clear hv
  have e1:(zFlg 5:Int)=9:=by decide
  have e2:((8+16*5:Nat):Int)=88:=by decide
  rw[e1,e2];clear e1 e2;have G1:=F1.out 88 (by decide);have G2:=fun W l1=>F2.out W l1 9 (by decide)
  replace G1:Hid (Calls Tryz.prog 101 #[.pointer (some ⟨x,0,none⟩),.int .u32 88,.int .u64 8] w fun e w'=>e = .returned (.tuple #[])/\WroteB x N (l++[88]) 0 0 w w'):=G1;replace G2:Hid (∀ (W:World) (l1:List Int),l1.length<=1000001->BitY W x N l1 0 0->Calls Tryz.prog 101 #[.pointer (some ⟨x,0,none⟩),.int .u32 9,.int .u64 8] W fun e w'=>e = .returned (.tuple #[])/\WroteB x N (l1++[9]) 0 0 W w'):=G2;clear F1 F2;go_enter Tryz.func69,Tryz.ntmps69;go_wp2_with fail;refine G1.out.mono ?_;rintro e w1 ⟨rfl,hw1⟩;go_wp2_with fail;refine (G2.out _ _ (by simp;omega) hw1.bits).mono ?_;rintro e w2 ⟨rfl,hw2⟩;go_wp2;go_end0
  refine ⟨rfl,?_⟩
  have:=hw1.trans hw2
  rw[List.append_assoc] at this;exact this
 ·clear hv
  have e1:(zFlg 6:Int)=5:=by decide
  have e2:((8+16*6:Nat):Int)=104:=by decide
  rw[e1,e2];clear e1 e2;have G1:=F1.out 104 (by decide);have G2:=fun W l1=>F2.out W l1 5 (by decide)
  replace G1:Hid (Calls Tryz.prog 101 #[.pointer (some ⟨x,0,none⟩),.int .u32 104,.int .u64 8] w fun e w'=>e = .returned (.tuple #[])/\WroteB x N (l++[104]) 0 0 w w'):=G1;replace G2:Hid (∀ (W:World) (l1:List Int),l1.length<=1000001->BitY W x N l1 0 0->Calls Tryz.prog 101 #[.pointer (some ⟨x,0,none⟩),.int .u32 5,.int .u64 8] W fun e w'=>e = .returned (.tuple #[])/\WroteB x N (l1++[5]) 0 0 W w'):=G2;clear F1 F2;go_enter Tryz.func69,Tryz.ntmps69;go_wp2_with fail;refine G1.out.mono ?_;rintro e w1 ⟨rfl,hw1⟩;go_wp2_with fail;refine (G2.out _ _ (by simp;omega) hw1.bits).mono ?_;rintro e w2 ⟨rfl,hw2⟩;go_wp2;go_end0
  refine ⟨rfl,?_⟩
  have:=hw1.trans hw2
  rw[List.append_assoc] at this;exact this
 ·clear hv
  have e1:(zFlg 7:Int)=1:=by decide
  have e2:((8+16*7:Nat):Int)=120:=by decide
  rw[e1,e2];clear e1 e2;have G1:=F1.out 120 (by decide);have G2:=fun W l1=>F2.out W l1 1 (by decide)
  replace G1:Hid (Calls Tryz.prog 101 #[.pointer (some ⟨x,0,none⟩),.int .u32 120,.int .u64 8] w fun e w'=>e = .returned (.tuple #[])/\WroteB x N (l++[120]) 0 0 w w'):=G1;replace G2:Hid (∀ (W:World) (l1:List Int),l1.length<=1000001->BitY W x N l1 0 0->Calls Tryz.prog 101 #[.pointer (some ⟨x,0,none⟩),.int .u32 1,.int .u64 8] W fun e w'=>e = .returned (.tuple #[])/\WroteB x N (l1++[1]) 0 0 W w'):=G2;clear F1 F2;go_enter Tryz.func69,Tryz.ntmps69;go_wp2_with fail;refine G1.out.mono ?_;rintro e w1 ⟨rfl,hw1⟩;go_wp2_with fail;refine (G2.out _ _ (by simp;omega) hw1.bits).mono ?_;rintro e w2 ⟨rfl,hw2⟩;go_wp2;go_end0
  refine ⟨rfl,?_⟩
  have:=hw1.trans hw2
  rw[List.append_assoc] at this;exact this
theorem fill_y (x N M:Nat) (l:List Int) (w:World) (h:BitY w x N l M 3) (hM:M<=1) (hl:l.length<=1000000) :
  Calls Tryz.prog 74 #[.pointer (some ⟨x,0,none⟩)] w fun e w'=>e = .returned (.tuple #[])/\WroteB x N (l++[(M:Int)]) 0 0 w w':=by
 have k:=h.sz;have F:Hid (Calls Tryz.prog 101 #[.pointer (some ⟨x,0,none⟩),.int .u32 0,.int .u64 5] w fun e w'=>e = .returned (.tuple #[])/\WroteB x N (l++[(M:Int)]) 0 0 w w'):=by
  refine number_wb x N l M 3 0 5 _ 0 0 w h (by show M<8;omega) (by omega) (by omega) (by omega) (by omega) ?_ ?_ rfl
  ·show _=l++[(((M+0 % 2^5*2^3) % 256:Nat):Int)]
   rw[show (M+0 % 2^5*2^3) % 256=M from by omega]
  ·show 0=(M+0 % 2^5*2^3) / 256
   omega
 clear h;go_enter Tryz.func74,Tryz.ntmps74;go_wp2_with fail;refine F.out.mono ?_;rintro e w1 ⟨rfl,hw1⟩;go_wp2;go_end0
 exact ⟨rfl,hw1⟩
theorem fill0_b (x N:Nat) (l:List Int) (w:World) (h:BitY w x N l 0 0) :
  Calls Tryz.prog 74 #[.pointer (some ⟨x,0,none⟩)] w fun e w'=>e = .returned (.tuple #[])/\WroteB x N l 0 0 w w':=by
 have k:=h.sz;have H:Hid (BitY w x N l 0 0):=h;clear h;go_enter Tryz.func74,Tryz.ntmps74;go_wp2_with fail;go_end0
 exact ⟨rfl,WroteB.refl H.out⟩
def stB (M:Nat) (d:List Int):List Int:=(M:Int)::((d.length % 256:Nat):Int)::((d.length / 256 % 256:Nat):Int)::(((4294967295 - d.length) % 256:Nat):Int)::(((4294967295 - d.length) / 256 % 256:Nat):Int)::d
theorem u32_not (n:Nat) (h:n<4294967296):bits BinOp.xor IntKind.u32 IntKind.u32.max (n:Int)=((4294967295 - n:Nat):Int):=by
 rw[show IntKind.u32.max=((4294967295:Nat):Int) from rfl,u32_xor_nat 4294967295 n (by omega) h]
 have:4294967295 ^^^ n=4294967295 - n:=by
  have e:(BitVec.allOnes 32 ^^^ BitVec.ofNat 32 n).toNat=(~~~ BitVec.ofNat 32 n).toNat:=by rw[BitVec.allOnes_xor]
  rw[BitVec.toNat_xor,BitVec.toNat_not,BitVec.toNat_allOnes,BitVec.toNat_ofNat,Nat.mod_eq_of_lt (by omega)] at e;exact e
 rw[this]
theorem stored_b (x N M:Nat) (l:List Int) (v:Value) (d:List Int) (w:World) (h:BitY w x N l M 1) (hM:M<=1) (hl:LAt w .u8 v d) (hB:isBytes d) (hS:∀ g,sliceBlock v=some g->¬ (g=x\/N<=g)) (hn:d.length<=65535) (hll:l.length<=1000) :
  Calls Tryz.prog 102 #[.pointer (some ⟨x,0,none⟩),v,.int .i64 0] w fun e w'=>e = .returned (.tuple #[])/\WroteB x N (l++stB M d) 0 0 w w':=by
 obtain ⟨p,c,rfl⟩:=hl.form;have F1:Hid (Calls Tryz.prog 101 #[.pointer (some ⟨x,0,none⟩),.int .u32 0,.int .u64 2] w fun e w'=>e = .returned (.tuple #[])/\WroteB x N l M 3 w w'):=by
  refine number_wb x N l M 1 0 2 _ M 3 w h (by show M<2;omega) (by omega) (by omega) (by omega) (by omega) ?_ ?_ rfl
  ·show l=l++[]
   rw[List.append_nil]
  ·show M=(M+0 % 2^2*2^1) / 1
   omega
 have F2:Hid (∀ W,BitY W x N l M 3->Calls Tryz.prog 74 #[.pointer (some ⟨x,0,none⟩)] W fun e w'=>e = .returned (.tuple #[])/\WroteB x N (l++[(M:Int)]) 0 0 W w'):=fun W hb=>fill_y x N M l W hb hM (by omega)
 have F3:Hid (∀ (W:World) (l1:List Int) (n:Nat),n<4294967296->l1.length<=100000->BitY W x N l1 0 0->Calls Tryz.prog 101 #[.pointer (some ⟨x,0,none⟩),.int .u32 (n:Int),.int .u64 16] W fun e w'=>e = .returned (.tuple #[])/\WroteB x N (l1++[((n % 256:Nat):Int),((n / 256 % 256:Nat):Int)]) 0 0 W w'):=fun W l1 n hn hl1 hb=>pair_b x N l1 n W hb hn (by omega)
 have F5:Hid (∀ (W:World) (l1:List Int) (n:Nat),n<4294967296->l1.length<=100000->BitY W x N l1 0 0->Calls Tryz.prog 101 #[.pointer (some ⟨x,0,none⟩),.int .u32 (n:Int),.int .u64 8] W fun e w'=>e = .returned (.tuple #[])/\WroteB x N (l1++[((n % 256:Nat):Int)]) 0 0 W w'):=fun W l1 n hn hl1 hb=>byte_b x N l1 n W hb hn (by omega)
 have HL:Hid (LAt w .u8 (.slice p d.length c) d):=hl;have HS:Hid (∀ g,sliceBlock (.slice p d.length c)=some g->¬ (g=x\/N<=g)):=hS;have HB:Hid (isBytes d):=hB;have HNot:=u32_not d.length (by omega);clear h hl hS hB;obtain ⟨Y,hY⟩:∃ Y,Y=4294967295 - d.length:=⟨_,rfl⟩;rw[<- hY] at HNot;have hY32:Y<4294967296:=by omega
 have HE:Hid (l++stB M d=l++[(M:Int)]++[((d.length % 256:Nat):Int),((d.length / 256 % 256:Nat):Int)]++[((Y % 256:Nat):Int),((Y / 256 % 256:Nat):Int)]++d):=by
  show l++stB M d=_
  rw[hY];simp [stB]
 have ed:IntKind.u32.wrap (d.length:Int)=(d.length:Int):=by rw[IntKind.wrap_u32];omega
 clear hY;go_enter Tryz.func102,Tryz.ntmps102;go_wp2_with fail;refine F1.out.mono ?_;rintro e w1 ⟨rfl,hw1⟩;replace hw1:Hid (WroteB x N l M 3 w w1):=hw1;go_wp2_with fail;refine (F2.out _ hw1.out.bits).mono ?_;rintro e w2 ⟨rfl,hw2⟩;replace hw2:Hid (WroteB x N (l++[(M:Int)]) 0 0 w w2):=hw1.out.trans hw2;clear hw1;go_wp2_with fail;refine (F3.out _ _ d.length (by omega) (by simp;omega) hw2.out.bits).mono ?_;rintro e w3 ⟨rfl,hw3⟩;replace hw3:Hid (WroteB x N (l++[(M:Int)]++[((d.length % 256:Nat):Int),((d.length / 256 % 256:Nat):Int)]) 0 0 w w3):=hw2.out.trans hw3;clear hw2;go_wp2_with fail;refine (F3.out _ _ Y hY32 (by simp;omega) hw3.out.bits).mono ?_;rintro e w4 ⟨rfl,hw4⟩;replace hw4:Hid (WroteB x N (l++[(M:Int)]++[((d.length % 256:Nat):Int),((d.length / 256 % 256:Nat):Int)]++[((Y % 256:Nat):Int),((Y / 256 % 256:Nat):Int)]) 0 0 w w4):=hw3.out.trans hw4;clear hw3;obtain ⟨L4,hL4⟩:∃ L4,L4=l++[(M:Int)]++[((d.length % 256:Nat):Int),((d.length / 256 % 256:Nat):Int)]++[((Y % 256:Nat):Int),((Y / 256 % 256:Nat):Int)]:=⟨_,rfl⟩;have hL4l:L4.length<=1005:=by rw[hL4];simp;omega
 rw[<- hL4] at hw4 HE;clear hL4;go_wp2_with fail;go_loopg [7] d.length (fun m v W=>∃ k:Nat,m=d.length - k/\k<=d.length/\v = .int .i64 (k:Int)/\WroteB x N (L4++d.take k) 0 0 w W)
 case atStart=>exact ⟨0,by omega,by omega,rfl,by rw[List.take_zero,List.append_nil];exact hw4.out⟩
 case round=>
  obtain ⟨k,hgk,hk,rfl,hW⟩:=hrel;replace hgk:Hid _:=hgk;by_cases hlt:k<d.length
  ·obtain ⟨g,o,rfl,hc⟩:=(HL.out.fr hW.fr HS.out).cellAt k hlt
   have hb:=HB.out _ (getD_mem hlt);obtain ⟨B,hBB⟩:∃ B:Nat,d.getD k 0=(B:Int):=⟨(d.getD k 0).toNat,by omega⟩;have HTk:Hid (L4++d.take (k+1)=L4++d.take k++[(B:Int)]):=by
    show L4++d.take (k+1)=_
    rw[List.take_succ_eq_append_getElem hlt,<- hBB,List.getD_eq_getElem?_getD,List.getElem?_eq_getElem hlt,List.append_assoc];rfl
   rw[hBB] at hc hb;have hb1:B<256:=by omega
   clear hb hBB;have hlt':(k:Int)<(d.length:Int):=by omega
   have hk0:(0:Int)<=(k:Int):=by omega
   replace hW:Hid (WroteB x N (L4++d.take k) 0 0 w wr):=hW;have hWd:Hid (WroteB x N (L4++d.take k) 0 0 w (wr.drewN 1)):=hW.out.kept ((Kept.refl _).drewN 1);have hlk:(L4++d.take k).length<=100000:=by rw[List.length_append,List.length_take];omega
   have eB:Hid (IntKind.u32.wrap (B:Int)=(B:Int)):=by show IntKind.u32.wrap (B:Int)=(B:Int);rw[IntKind.wrap_u32];omega
   replace hlk:Hid _:=hlk;go_wp2_with fail;go_region_held3 (fun W=>W.cell? ⟨g,o+k,none⟩=some (.int .u8 (B:Int))) (first | exact hc | exact hc5 | go_keep) ((go_at_call 101;rw[eB.out];refine (F5.out _ _ B (by omega) hlk.out (by exact hWd.out.bits)).mono ?_;rintro e w5 ⟨rfl,hw5⟩;have hc5:w5.cell? ⟨g,o+k,none⟩=some (.int .u8 (B:Int)):=(hw5.fr.cell (World.block_lt_of_cell? _ _ hc) (HS.out g rfl)).trans hc;replace hw5:Hid (WroteB x N (L4++d.take k++[((B % 256:Nat):Int)]) 0 0 w w5):=hWd.out.trans hw5))
   go_wp2_with fail;go_roundg (d.length - (k+1))
   case measure=>rw[hgk.out];omega
   case rel=>
    refine ⟨k+1,rfl,by omega,by go_num,?_⟩
    have:=hw5.out
    rw[show B % 256=B from by omega] at this;rw[HTk.out];exact this
  ·have hke:k=d.length:=by omega
   have hlt':¬ (k:Int)<(d.length:Int):=by omega
   replace hW:Hid (WroteB x N (L4++d.take k) 0 0 w wr):=hW;replace hke:Hid _:=hke;go_wp2_with fail;go_end0
   refine ⟨rfl,?_⟩
   have:=hW.out
   rw[hke.out,List.take_length] at this;rw[HE.out];exact this
end Go.Proofs.YthniahejjamhgaaGreatDoor
namespace Px
def adlL (s:Nat) (l:List Int):Nat:=l.foldl (fun s x=>adl s x.toNat) s
theorem adlL_lt (s:Nat) (l:List Int) (h:s<4294967296):adlL s l<4294967296:=by
 unfold adlL
 induction l generalizing s with
 | nil=>exact h
 | cons x l ih=>exact ih _ (adl_lt _ _)
end Px
namespace Go.Proofs.YthniahejjamhgaaGreatDoor
open Go.RowKit Px
set_option linter.unusedSimpArgs false
set_option linter.unusedVariables false
theorem bit1_one:bits BinOp.or IntKind.u32 0 (bits BinOp.and IntKind.u32 1 1 % 4294967296)=1:=by decide
theorem num1_y (x N:Nat) (l:List Int) (w:World) (h:BitY w x N l 0 0) :
  Calls Tryz.prog 101 #[.pointer (some ⟨x,0,none⟩),.int .u32 1,.int .u64 1] w fun e w'=>e = .returned (.tuple #[])/\WroteB x N l 1 1 w w'/\Fr1 x w w':=by
 obtain ⟨hlt,hsz,hfz,⟨ov,h0,hown⟩,h1,h2⟩:=h;have h1':w.cell? ⟨x,1,none⟩=some (.int .u32 0):=h1;have h2':w.cell? ⟨x,2,none⟩=some (.int .u64 0):=h2;clear h1 h2;have HO:Hid (OwnB w N ov l):=hown;have HF:Hid (∀ k,w.frozen? ⟨x,k,none⟩=false):=hfz;have H0:Hid (w.cell? ⟨x,0,none⟩=some ov):=h0;have hfb:=hfz 1;have hfc:=hfz 2;clear hown hfz h0;go_enter Tryz.func101,Tryz.ntmps101;go_wp2;go_region
 rw[bit1_one];generalize bits BinOp.and IntKind.u32 1 1 % 4294967296=Y1;generalize bits BinOp.and IntKind.u32 1 1=Y2;have hD:((w.setCell { block:=x,off:=1 } (Value.int IntKind.u32 1)).drew)=((w.setCell { block:=x,off:=1 } (Value.int IntKind.u32 1)).drewN 1):=rfl;rw[hD];clear hD;have a0:Hid (((w.setCell ⟨x,1,none⟩ (Value.int IntKind.u32 1)).drewN 1).cell? ⟨x,0,none⟩=some ov):=(cell_set_other _ _ _ _ _ (by omega)).trans H0.out;have a1:((w.setCell ⟨x,1,none⟩ (Value.int IntKind.u32 1)).drewN 1).cell? ⟨x,1,none⟩=some (Value.int IntKind.u32 1):=cell_set_same h1' _;have a2:((w.setCell ⟨x,1,none⟩ (Value.int IntKind.u32 1)).drewN 1).cell? ⟨x,2,none⟩=some (Value.int IntKind.u64 0):=(cell_set_other _ _ _ _ _ (by omega)).trans h2';have af:Hid (∀ k,((w.setCell ⟨x,1,none⟩ (Value.int IntKind.u32 1)).drewN 1).frozen? ⟨x,k,none⟩=false):=fun k=>by show (w.setCell _ _).frozen? _=false;rw[World.frozen?_setCell];exact HF.out k
 have HO1:Hid (OwnB ((w.setCell ⟨x,1,none⟩ (Value.int IntKind.u32 1)).drewN 1) N ov l):=(HO.out.set hlt _ _).drewN _;have HF1:Hid (Fr1 x w ((w.setCell ⟨x,1,none⟩ (Value.int IntKind.u32 1)).drewN 1)):=((Fr1.refl _ _).set _ _).drewN _;have HJ1:Hid (∀ j,3<=j->((w.setCell ⟨x,1,none⟩ (Value.int IntKind.u32 1)).drewN 1).cell? ⟨x,j,none⟩=w.cell? ⟨x,j,none⟩):=fun j hj=>cell_set_other _ _ _ _ _ (by omega)
 generalize (w.setCell ⟨x,1,none⟩ (Value.int IntKind.u32 1)).drewN 1=w1 at *;clear h1' h2' hfb hfc HO HF H0;have hfb:=af.out 1;have hfc:=af.out 2;go_wp2;go_loopw [] (fun W=>W=w1.setCell ⟨x,2,none⟩ (.int .u64 1)) (fun W=>0)
 case atStart=>rfl
 case round=>
  subst hrel;have b2:(w1.setCell ⟨x,2,none⟩ (.int .u64 1)).cell? ⟨x,2,none⟩=some (.int .u64 1):=cell_set_same a2 _;have HE:Hid (WroteB x N l 1 1 w (w1.setCell ⟨x,2,none⟩ (.int .u64 1))/\Fr1 x w (w1.setCell ⟨x,2,none⟩ (.int .u64 1))):=by
   have f:Fr1 x w (w1.setCell ⟨x,2,none⟩ (.int .u64 1)):=HF1.out.set _ _;refine ⟨⟨⟨hlt,Nat.le_trans hsz f.size,fun k => ?_,⟨ov,(cell_set_other _ _ _ _ _ (by omega)).trans a0.out,HO1.out.set hlt _ _⟩,(cell_set_other _ _ _ _ _ (by omega)).trans a1,b2⟩,f.mono (fun i _ e=>Or.inl e),fun j hj=>(cell_set_other _ _ _ _ _ (by omega)).trans (HJ1.out j hj)⟩,f⟩;rw[World.frozen?_setCell];exact af.out k
  generalize w1.setCell ⟨x,2,none⟩ (.int .u64 1)=w2 at *;clear a0 a1 a2 af HO1 HF1 HJ1 hfb hfc;go_wp2;go_end0
  exact ⟨rfl,HE.out⟩
theorem mark_b (x N:Nat) (l:List Int) (w:World) (h:BitY w x N l 0 0) :
  Calls Tryz.prog 72 #[.pointer (some ⟨x,0,none⟩),.bool true] w fun e w'=>e = .returned (.tuple #[])/\WroteB x N l 1 1 w w'/\Fr1 x w w':=by
 have F:Hid (Calls Tryz.prog 101 #[.pointer (some ⟨x,0,none⟩),.int .u32 1,.int .u64 1] w fun e w'=>e = .returned (.tuple #[])/\WroteB x N l 1 1 w w'/\Fr1 x w w'):=num1_y x N l w h;clear h;go_enter Tryz.func72,Tryz.ntmps72;go_wp2_with fail;refine F.out.mono ?_;rintro e w1 ⟨rfl,h1⟩;replace h1:Hid _:=h1;go_wp2;go_end0
 exact ⟨rfl,h1.out⟩
theorem block_b (x N:Nat) (a b:Int) (l:List Int) (v:Value) (d:List Int) (w:World) (h:BitY w x N l 1 1) (hl:LAt w .u8 v d) (hB:isBytes d) (hS:∀ g,sliceBlock v=some g->¬ (g=x\/N<=g)) (hn:d.length<=65535) (hll:l.length<=1000) :
  Calls Tryz.prog 73 #[.pointer (some ⟨x,0,none⟩),.int .i64 0,v,.int .i64 0,.agg #[.int .i64 a,.int .i64 b]] w fun e w'=>e = .returned (.tuple #[])/\WroteB x N (l++stB 1 d) 0 0 w w':=by
 obtain ⟨w0,hw0⟩:∃ w0,w0=w.alloc (Obj.cells #[.int .i64 a,.int .i64 b] 145):=⟨_,rfl⟩;have K0:Hid (Kept w w0):=by rw[hw0];exact (Below.refl _ _).alloc (Nat.le_refl _) _
 have F2:Hid (Calls Tryz.prog 102 #[.pointer (some ⟨x,0,none⟩),v,.int .i64 0] w0 fun e w'=>e = .returned (.tuple #[])/\WroteB x N (l++stB 1 d) 0 0 w0 w'):=stored_b x N 1 l v d w0 (h.kept K0.out) (by omega) (hl.kept K0.out) hB hS hn hll;have HX:Hid (x<w.heap.size):=Nat.lt_of_lt_of_le h.lt h.size;clear h hl hS hB;go_enter Tryz.func73,Tryz.ntmps73;go_upto_region 1 with fail
 rw[<- hw0];clear hw0;go_wp2_with fail;refine F2.out.mono ?_;rintro e w1 ⟨rfl,hw1⟩;have HW:Hid (WroteB x N (l++stB 1 d) 0 0 w w1):=⟨hw1.bits,(Fr.of_kept K0.out).trans hw1.fr,fun j hj=>(hw1.far j hj).trans (K0.out.cell (p:=⟨x,j,none⟩) HX.out)⟩;clear hw1;go_wp2
 (try simp only [Exit.inBlock,Exit.then]);refine bodyPost_ret (results_none rfl _ _ _) rfl ?_
 exact ⟨rfl,HW.out⟩
def beB (n:Nat):List Int:=[((n / 16777216 % 256:Nat):Int),((n / 65536 % 256:Nat):Int),((n / 256 % 256:Nat):Int),((n % 256:Nat):Int)]
theorem sum_b (x N:Nat) (l:List Int) (v:Value) (d:List Int) (w:World) (h:BitY w x N l 0 0) (hl:LAt w .u8 v d) (hB:isBytes d) (hn:d.length<=65535) (hll:l.length<=100000) :
  Calls Tryz.prog 75 #[.pointer (some ⟨x,0,none⟩),v] w fun e w'=>e = .returned (.tuple #[])/\WroteB x N (l++beB (adlL 1 d)) 0 0 w w':=by
 obtain ⟨p,c,rfl⟩:=hl.form;have F5:Hid (∀ (W:World) (l1:List Int) (n:Nat),n<4294967296->l1.length<=1000000->BitY W x N l1 0 0->Calls Tryz.prog 101 #[.pointer (some ⟨x,0,none⟩),.int .u32 (n:Int),.int .u64 8] W fun e w'=>e = .returned (.tuple #[])/\WroteB x N (l1++[((n % 256:Nat):Int)]) 0 0 W w'):=fun W l1 n hn hl1 hb=>byte_b x N l1 n W hb hn (by omega)
 have HL:Hid (LAt w .u8 (.slice p d.length c) d):=hl;have HB:Hid (isBytes d):=hB;have H0:Hid (BitY w x N l 0 0):=h;clear h hl hB;go_enter Tryz.func75,Tryz.ntmps75;go_wp2_with fail;go_loopg [4,5] d.length (fun m u v W=>∃ k:Nat,m=d.length - k/\k<=d.length/\v = .int .i64 (k:Int)/\u = .int .u32 (adlL 1 (d.take k):Int)/\Kept w W)
 case atStart=>exact ⟨0,by omega,by omega,rfl,rfl,Kept.refl _⟩
 case round=>
  obtain ⟨k,hgk,hk,rfl,rfl,hK⟩:=hrel;replace hgk:Hid _:=hgk;have hq1:adlL 1 (d.take k)<4294967296:=adlL_lt _ _ (by omega);by_cases hlt:k<d.length
  ·obtain ⟨g,o,rfl,hc⟩:=(HL.out.kept hK).cellAt k hlt
   have hb:=HB.out _ (getD_mem hlt);obtain ⟨B,hBB⟩:∃ B:Nat,d.getD k 0=(B:Int):=⟨(d.getD k 0).toNat,by omega⟩;have HTk:Hid (adlL 1 (d.take (k+1))=adl (adlL 1 (d.take k)) B):=by
    show adlL 1 (d.take (k+1))=_
    have hg:d[k]=(B:Int):=by rw[<- hBB,List.getD_eq_getElem?_getD,List.getElem?_eq_getElem hlt];rfl
    rw[List.take_succ_eq_append_getElem hlt,hg];unfold adlL;rw[List.foldl_append];rfl
   rw[hBB] at hc hb;have hb1:B<256:=by omega
   clear hb hBB;have hlt':(k:Int)<(d.length:Int):=by omega
   have hk0:(0:Int)<=(k:Int):=by omega
   obtain ⟨q,hq⟩:∃ q,q=adlL 1 (d.take k):=⟨_,rfl⟩;rw[<- hq] at HTk hq1 ⊢;clear hq;have FA:Hid (∀ W,Calls Tryz.prog 106 #[.int .u32 (q:Int),.int .u8 (B:Int)] W fun e w'=>e = .returned (.int .u32 (adl q B:Int))/\w'=W):=fun W=>adler_x q B W hq1 hb1
   replace hK:Hid (Kept w wr):=hK;go_wp2_with fail;refine (FA.out _).mono ?_;rintro e w5 ⟨rfl,hw5⟩;subst w5;go_wp2_with fail;go_roundg (d.length - (k+1))
   case measure=>rw[hgk.out];omega
   case rel=>exact ⟨k+1,rfl,by omega,by go_num,by rw[HTk.out],hK.out⟩
  ·replace hK:Hid (Kept w wr):=hK
   have hke:k=d.length:=by omega
   have hlt':¬ (k:Int)<(d.length:Int):=by omega
   have HA:Hid (adlL 1 (d.take k)=adlL 1 d):=by show adlL 1 (d.take k)=adlL 1 d;rw[hke,List.take_length]
   obtain ⟨q,hq⟩:∃ q,q=adlL 1 (d.take k):=⟨_,rfl⟩;rw[<- hq] at HA hq1 ⊢;clear hq;replace hke:Hid _:=hke;have H1:Hid (WroteB x N l 0 0 w wr):=(WroteB.refl H0.out).kept hK.out;clear hK;have e24:(q:Int) / 16777216=((q / 16777216:Nat):Int):=by omega
   have e16:(q:Int) / 65536=((q / 65536:Nat):Int):=by omega
   have e8:(q:Int) / 256=((q / 256:Nat):Int):=by omega
   obtain ⟨q3,hq3⟩:∃ q3,q3=q / 16777216:=⟨_,rfl⟩;obtain ⟨q2,hq2⟩:∃ q2,q2=q / 65536:=⟨_,rfl⟩;obtain ⟨qq,hqq⟩:∃ qq,qq=q / 256:=⟨_,rfl⟩;rw[<- hq3] at e24;rw[<- hq2] at e16;rw[<- hqq] at e8;have HBe:Hid (l++beB (adlL 1 d)=l++[((q3 % 256:Nat):Int)]++[((q2 % 256:Nat):Int)]++[((qq % 256:Nat):Int)]++[((q % 256:Nat):Int)]):=by
    show l++beB (adlL 1 d)=_
    rw[<- HA.out,hq3,hq2,hqq];simp [beB]
   have h3:q3<4294967296:=by omega
   have h2:q2<4294967296:=by omega
   have h1':qq<4294967296:=by omega
   clear hq3 hq2 hqq;go_wp2_with fail;go_loopg [6] 4 (fun m v W=>(m=4/\v = .int .i64 32/\WroteB x N l 0 0 w W)\/(m=3/\v = .int .i64 24/\WroteB x N (l++[((q3 % 256:Nat):Int)]) 0 0 w W)\/(m=2/\v = .int .i64 16/\WroteB x N (l++[((q3 % 256:Nat):Int)]++[((q2 % 256:Nat):Int)]) 0 0 w W)\/(m=1/\v = .int .i64 8/\WroteB x N (l++[((q3 % 256:Nat):Int)]++[((q2 % 256:Nat):Int)]++[((qq % 256:Nat):Int)]) 0 0 w W)\/(m=0/\v = .int .i64 0/\WroteB x N (l++[((q3 % 256:Nat):Int)]++[((q2 % 256:Nat):Int)]++[((qq % 256:Nat):Int)]++[((q % 256:Nat):Int)]) 0 0 w W))
   case atStart=>exact Or.inl ⟨rfl,rfl,H1.out⟩
   case round=>
    rcases hrel with ⟨hm,rfl,hW⟩ | ⟨hm,rfl,hW⟩ | ⟨hm,rfl,hW⟩ | ⟨hm,rfl,hW⟩ | ⟨hm,rfl,hW⟩
    ·have FF:Hid (Calls Tryz.prog 101 #[.pointer (some ⟨x,0,none⟩),.int .u32 (q3:Int),.int .u64 8] wr fun e w'=>e = .returned (.tuple #[])/\WroteB x N (l++[((q3 % 256:Nat):Int)]) 0 0 wr w'):=F5.out wr _ q3 h3 (by first | omega | (simp;omega)) hW.bits
     replace hW:Hid (WroteB x N (l) 0 0 w wr):=hW;replace hm:Hid _:=hm;go_wp2_with fail;refine FF.out.mono ?_;rintro e w6 ⟨rfl,hw6⟩;replace hw6:Hid (WroteB x N (l++[((q3 % 256:Nat):Int)]) 0 0 w w6):=hW.out.trans hw6;go_wp2_with fail;go_roundg 3
     case measure=>rw[hm.out];omega
     case rel=>exact Or.inr (Or.inl ⟨rfl,by first | rfl | go_num,hw6.out⟩)
    ·have FF:Hid (Calls Tryz.prog 101 #[.pointer (some ⟨x,0,none⟩),.int .u32 (q2:Int),.int .u64 8] wr fun e w'=>e = .returned (.tuple #[])/\WroteB x N (l++[((q3 % 256:Nat):Int)]++[((q2 % 256:Nat):Int)]) 0 0 wr w'):=F5.out wr _ q2 h2 (by first | omega | (simp;omega)) hW.bits
     replace hW:Hid (WroteB x N (l++[((q3 % 256:Nat):Int)]) 0 0 w wr):=hW;replace hm:Hid _:=hm;go_wp2_with fail;refine FF.out.mono ?_;rintro e w6 ⟨rfl,hw6⟩;replace hw6:Hid (WroteB x N (l++[((q3 % 256:Nat):Int)]++[((q2 % 256:Nat):Int)]) 0 0 w w6):=hW.out.trans hw6;go_wp2_with fail;go_roundg 2
     case measure=>rw[hm.out];omega
     case rel=>exact Or.inr (Or.inr (Or.inl ⟨rfl,by first | rfl | go_num,hw6.out⟩))
    ·have FF:Hid (Calls Tryz.prog 101 #[.pointer (some ⟨x,0,none⟩),.int .u32 (qq:Int),.int .u64 8] wr fun e w'=>e = .returned (.tuple #[])/\WroteB x N (l++[((q3 % 256:Nat):Int)]++[((q2 % 256:Nat):Int)]++[((qq % 256:Nat):Int)]) 0 0 wr w'):=F5.out wr _ qq h1' (by first | omega | (simp;omega)) hW.bits
     replace hW:Hid (WroteB x N (l++[((q3 % 256:Nat):Int)]++[((q2 % 256:Nat):Int)]) 0 0 w wr):=hW;replace hm:Hid _:=hm;go_wp2_with fail;refine FF.out.mono ?_;rintro e w6 ⟨rfl,hw6⟩;replace hw6:Hid (WroteB x N (l++[((q3 % 256:Nat):Int)]++[((q2 % 256:Nat):Int)]++[((qq % 256:Nat):Int)]) 0 0 w w6):=hW.out.trans hw6;go_wp2_with fail;go_roundg 1
     case measure=>rw[hm.out];omega
     case rel=>exact Or.inr (Or.inr (Or.inr (Or.inl ⟨rfl,by first | rfl | go_num,hw6.out⟩)))
    ·have FF:Hid (Calls Tryz.prog 101 #[.pointer (some ⟨x,0,none⟩),.int .u32 (q:Int),.int .u64 8] wr fun e w'=>e = .returned (.tuple #[])/\WroteB x N (l++[((q3 % 256:Nat):Int)]++[((q2 % 256:Nat):Int)]++[((qq % 256:Nat):Int)]++[((q % 256:Nat):Int)]) 0 0 wr w'):=F5.out wr _ q hq1 (by first | omega | (simp;omega)) hW.bits
     replace hW:Hid (WroteB x N (l++[((q3 % 256:Nat):Int)]++[((q2 % 256:Nat):Int)]++[((qq % 256:Nat):Int)]) 0 0 w wr):=hW;replace hm:Hid _:=hm;go_wp2_with fail;refine FF.out.mono ?_;rintro e w6 ⟨rfl,hw6⟩;replace hw6:Hid (WroteB x N (l++[((q3 % 256:Nat):Int)]++[((q2 % 256:Nat):Int)]++[((qq % 256:Nat):Int)]++[((q % 256:Nat):Int)]) 0 0 w w6):=hW.out.trans hw6;go_wp2_with fail;go_roundg 0
     case measure=>rw[hm.out];omega
     case rel=>exact Or.inr (Or.inr (Or.inr (Or.inr ⟨rfl,by first | rfl | go_num,hw6.out⟩)))
    ·replace hW:Hid (WroteB x N (l++[((q3 % 256:Nat):Int)]++[((q2 % 256:Nat):Int)]++[((qq % 256:Nat):Int)]++[((q % 256:Nat):Int)]) 0 0 w wr):=hW
     replace hm:Hid _:=hm;go_wp2_with fail;go_end0
     rw[HBe.out];exact ⟨rfl,hW.out⟩
