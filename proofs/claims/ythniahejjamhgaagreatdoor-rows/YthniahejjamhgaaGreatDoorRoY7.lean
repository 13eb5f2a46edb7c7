import Derived.Test.YthniahejjamhgaaGreatDoorRoY1
import Derived.Test.YthniahejjamhgaaGreatDoorRoG8
import Derived.Test.YthniahejjamhgaaGreatDoorRoS7
set_option maxRecDepth 100000
set_option maxHeartbeats 6400000
namespace Px
def crcI (s:Nat) (l:List Int):Nat:=l.foldl (fun s x=>crcAdd s x.toNat) s
theorem crcI_snoc (s:Nat) (l:List Int) (b:Nat):crcI s (l++[(b:Int)])=crcAdd (crcI s l) b:=by unfold crcI;rw[List.foldl_append];rfl
end Px
namespace Go.Proofs.YthniahejjamhgaaGreatDoor
open Go.RowKit Px
set_option linter.unusedSimpArgs false
set_option linter.unusedVariables false
theorem OwnB.slice' {w:World} {N:Nat} {v:Value} {l:List Int} (h:OwnB w N v l) {n:Nat} (e:l.length=n):∃ p c,v = .slice p n c:=by subst e;exact h.slice
theorem appendB' (w:World) {ops:Array Oper} {rest:List Oper} {o:Oper} {a:Act} {Q:Exit->Act->World->Prop}
  (hg:o.guard=none) (s x:Operand) (hop:o.op=Op.call { callee:=Callee.builtin Builtin.append,args:=#[s,x],argTypes:=#[105,105] })
  (N:Nat) (v:Value) (L:List Int) (hs:a.eval s=v) (hown:OwnB w N v L)
  (g o':Nat) (m c:Nat) (es:List Int) (hx:a.eval x = .slice (some ⟨g,o',none⟩) m c) (hm:m=es.length) (h0:0<m) (hE:isBytes es) (hc:∀ j,j<m->w.cell? ⟨g,o'+j,none⟩=some (.int .u8 (es.getD j 0))) (hb:L.length+m<=1099511627776) (hbase:N<=w.heap.size)
  (hK:∀ v' w',OwnB w' N v' (L++es)->Fr (fun k=>v.ownBlock=some k) w w'->(∀ k,v'.ownBlock=some k->v.ownBlock=some k\/w.heap.size<=k)->wpList Tryz.prog ops Q rest (a.put o.dst v') w') :
  wpList Tryz.prog ops Q (o::rest) a w:=by
 obtain ⟨hB,ho⟩:=hown;subst hm;refine append_own w 105 105 5 1 1 (.int .u8 0) Tryz.underlying105 infoU8 rfl (by omega) hg s x hop N v L.length (u8s L) hs ho ⟨g,o',none⟩ es.length c (u8s es) hx (by simp [u8s]) h0 ?_ ?_ (by unfold maxLen;omega) (by omega) hbase ?_ rfl
 ·intro j u hj
  have hlt:j<es.length:=by
   have:=(List.getElem?_eq_some_iff.1 hj).1
   simpa [u8s] using this
  rw[Addr.add_mid,hc j hlt];simp [u8s,List.getElem?_map,List.getElem?_eq_getElem hlt] at hj
  rw[<- hj];simp [List.getD_eq_getElem?_getD,List.getElem?_eq_getElem hlt]
 ·intro u hu;simp [u8s] at hu;obtain ⟨y,_,rfl⟩:=hu;rfl
 ·intro v' w' h1 h2 h3
  exact hK v' w' ⟨hB.app hE,by simpa [u8s] using h1⟩ ⟨h2.os,h2.tape,h2.output,h2.size,fun k hk hn=>h2.block k hk (fun e=>hn e.symm)⟩ h3
theorem appendBA (w:World) {ops:Array Oper} {rest:List Oper} {o:Oper} {a:Act} {Q:Exit->Act->World->Prop}
  (hg:o.guard=none) (s x:Operand) (hop:o.op=Op.call { callee:=Callee.builtin Builtin.append,args:=#[s,x],argTypes:=#[105,105] })
  (N:Nat) (v:Value) (L:List Int) (hs:a.eval s=v) (hown:OwnB w N v L) (h0:0<L.length)
  (p:Option Addr) (c:Nat) (l:List Int) (hx:a.eval x = .slice p l.length c) (hl:LAt w .u8 (.slice p l.length c) l) (hE:isBytes l) (hpc:p=none->c=0) (hb:L.length+l.length<=1099511627776) (hbase:N<=w.heap.size)
  (hK:∀ v' w',OwnB w' N v' (L++l)->Fr (fun k=>v.ownBlock=some k) w w'->(∀ k,v'.ownBlock=some k->v.ownBlock=some k\/w.heap.size<=k)->wpList Tryz.prog ops Q rest (a.put o.dst v') w') :
  wpList Tryz.prog ops Q (o::rest) a w:=by
 by_cases hl0:l.length=0
 ·obtain ⟨hxb,ho⟩:=hown
  have ho':=ho;rcases ho.2 with ⟨hv,hz⟩ | ⟨g,cap,cur,hv,hgb,hh,hnc,hcm,hcs,htk⟩
  ·omega
  ·subst hv
   have hle:l=[]:=List.eq_nil_of_length_eq_zero hl0;obtain ⟨i0,hi,hz0,hz1,hz2⟩:=info_parts' infoU8;refine wpList_append_fits_any w hg s x 105 hop N 5 i0 1 Tryz.underlying105 hi hz1 g L.length cap (u8s L) hs ho' p l.length c [] hx (by simp [hl0]) (fun e=>⟨hl0,hpc e⟩) (fun ad _ j u hj=>by simp at hj) (fun u hu=>by simp at hu) (by omega) ?_;intro w' h1 h2;refine hK _ w' ?_ ⟨h2.os,h2.tape,h2.output,h2.size,fun k hk hn=>h2.block k hk (fun e=>hn e.symm)⟩ (fun k hk=>Or.inl hk);rw[hle,List.append_nil];refine ⟨hxb,?_⟩
   simpa [hl0] using h1
 ·obtain ⟨g,o',c',e,hc⟩:=hl.addr (by omega)
  injection e with e _ _
  subst e;exact appendB' w hg s x hop N v L hs hown g o' l.length c l hx rfl (by omega) hE hc hb hbase hK
structure WrY (W:World) (x N:Nat) (L:List Int) (S:Nat->Prop):Prop where
 lt:x<N
 size:N<=W.heap.size
 fz:∀ k,W.frozen? ⟨x,k,none⟩=false
 sx:S x
 new:∀ g,W.heap.size<=g->S g
 out:∃ ov,W.cell? ⟨x,0,none⟩=some ov/\OwnB W N ov L/\∀ g,ov.ownBlock=some g->S g
theorem WrY.kept {W W':World} {x N:Nat} {L:List Int} {S:Nat->Prop} (h:WrY W x N L S) (k:Kept W W'):WrY W' x N L S:=by
 obtain ⟨h1,h2,h3,sx,nw,ov,h4,h5,h6⟩:=h;have hx:x<W.heap.size:=by omega
 exact ⟨h1,Nat.le_trans h2 k.size,fun j=>(k.frozen (p:=⟨x,j,none⟩) hx).trans (h3 j),sx,fun g hg=>nw g (Nat.le_trans k.size hg),ov,(k.cell (p:=⟨x,0,none⟩) hx).trans h4,h5.kept k,h6⟩
theorem WrY.turn {W:World} {x N:Nat} {L:List Int} {S S':Nat->Prop} (h:WrY W x N L S) (hS:∀ g,g<W.heap.size->S g->S' g) (hn:∀ g,W.heap.size<=g->S' g):WrY W x N L S':=by
 obtain ⟨h1,h2,h3,sx,nw,ov,h4,h5,h6⟩:=h;exact ⟨h1,h2,h3,hS x (by omega) sx,hn,ov,h4,h5,fun g hg=>hS g (h5.2.lt g hg).2 (h6 g hg)⟩
structure PutB (x N:Nat) (L:List Int) (S:Nat->Prop) (w w':World):Prop where
 at':WrY w' x N L S
 fr:Fr S w w'
theorem PutB.trans {x N:Nat} {L M:List Int} {S:Nat->Prop} {a b c:World} (h:PutB x N L S a b) (k:PutB x N M S b c):PutB x N M S a c:=⟨k.at',h.fr.trans k.fr⟩
theorem PutB.kept {x N:Nat} {L:List Int} {S:Nat->Prop} {a b c:World} (h:PutB x N L S a b) (k:Kept b c):PutB x N L S a c:=⟨h.at'.kept k,h.fr.kept k⟩
theorem beB_int (n:Nat) (h:n<4294967296):[(n:Int) / 16777216,(n:Int) / 65536 % 256,(n:Int) / 256 % 256,(n:Int) % 256]=beB n:=by
 unfold beB;rw[show (n:Int) / 16777216=((n / 16777216 % 256:Nat):Int) from by omega,show (n:Int) / 65536 % 256=((n / 65536 % 256:Nat):Int) from by omega,show (n:Int) / 256 % 256=((n / 256 % 256:Nat):Int) from by omega,show (n:Int) % 256=((n % 256:Nat):Int) from by omega]
theorem beB_len (n:Nat):(beB n).length=4:=rfl
theorem beB_ok (n:Nat):isBytes (beB n):=by
 intro y hy;unfold beB at hy;simp only [List.mem_cons,List.not_mem_nil,or_false] at hy;rcases hy with rfl | rfl | rfl | rfl<;>omega
theorem num4_b (x N n:Nat) (L:List Int) (w:World) (S:Nat->Prop) (h:WrY w x N L S) (hn1:n<4294967296) (hm:L.length<=10000000) :
  Calls Tryz.prog 107 #[.pointer (some ⟨x,0,none⟩),.int .u32 (n:Int)] w fun r w'=>r = .returned (.tuple #[])/\PutB x N (L++beB n) S w w':=by
 obtain ⟨hlt,hsz,hfz,hSx,hSn,ov,h0,hown,hSo⟩:=h;obtain ⟨m,hmL⟩:∃ m,L.length=m:=⟨_,rfl⟩;obtain ⟨p,c,rfl⟩:=hown.slice' hmL;rw[hmL] at hm;have hfa:=hfz 0;have HO:Hid (OwnB w N (.slice p m c) L):=hown;replace hfz:Hid (∀ k,w.frozen? ⟨x,k,none⟩=false):=hfz;have hne:¬ (Value.slice p m c).ownBlock=some x:=fun e=>by have:=HO.out.ge x e;omega
 have hxs:x<w.heap.size:=by omega
 replace hSo:Hid _:=hSo;replace hSn:Hid (∀ g,w.heap.size<=g->S g):=hSn;have HML:Hid (L.length=m):=hmL;have hML4:Hid ((L++beB n).length=m+4):=by show (L++beB n).length=m+4;rw[List.length_append,hmL,beB_len]
 have hbnd:Hid (L.length+4<=1099511627776):=by show L.length+4<=1099511627776;omega
 clear hown hmL;go_enter Tryz.func107,Tryz.ntmps107;have EB:Hid _:=beB_int n hn1;have HE:Hid (isBytes [(n:Int) / 16777216,(n:Int) / 65536 % 256,(n:Int) / 256 % 256,(n:Int) % 256]):=by rw[EB.out];exact beB_ok n
 have HC:Hid (∀ j,j<4->(w.alloc (Obj.cells #[Value.int IntKind.u8 ((n:Int) / 16777216),Value.int IntKind.u8 ((n:Int) / 65536 % 256),Value.int IntKind.u8 ((n:Int) / 256 % 256),Value.int IntKind.u8 ((n:Int) % 256)] 5)).cell? ⟨w.heap.size,0+j,none⟩=some (.int .u8 ([(n:Int) / 16777216,(n:Int) / 65536 % 256,(n:Int) / 256 % 256,(n:Int) % 256].getD j 0))):=by
  intro j hj;rw[Nat.zero_add];rw[World.cell?_alloc_at _ _ _ _ rfl]
  have:j=0\/j=1\/j=2\/j=3:=by omega
  rcases this with rfl | rfl | rfl | rfl<;>rfl
 go_wp2_with (at_builtin;refine appendB' _ rfl _ _ rfl N (.slice p m c) L rfl (HO.out.alloc _) w.heap.size 0 4 4 [(n:Int) / 16777216,(n:Int) / 65536 % 256,(n:Int) / 256 % 256,(n:Int) % 256] rfl rfl (by omega) HE.out HC.out hbnd.out (by simp;omega) ?_)
 intro v' w2 ho2 hf2 hn2;rw[EB.out] at ho2;obtain ⟨p',c',rfl⟩:=ho2.slice' hML4.out;have fk:Fr (fun k=>(Value.slice p m c).ownBlock=some k) w w2:=((Fr.refl _ w).alloc _).trans hf2;have k0:=(fk.cell (k:=0) hxs hne).trans h0;have g0:=(fk.frozen (k:=0) hxs hne).trans hfa;have HO2:Hid (OwnB w2 N (.slice p' (m+4) c') (L++beB n)):=ho2;have HF2:Hid (Fr S w w2):=fk.mono (fun i _ e=>hSo.out i e);have HN2:Hid (∀ k,(Value.slice p' (m+4) c').ownBlock=some k->S k):=fun k hk=>by
  rcases hn2 k hk with h | h
  ·exact hSo.out k h
  ·exact hSn.out k (by first | omega | (simp at h;omega))
 have HG2:Hid (∀ k,w2.frozen? ⟨x,k,none⟩=false):=fun k=>(fk.frozen hxs hne).trans (hfz.out k)
 clear hf2 ho2 fk hn2;go_wp2;go_end0
 have hse:(w2.setCell ⟨x,0,none⟩ (Value.slice p' (m+4) c')).heap.size=w2.heap.size:=by simp [World.setCell]
 exact ⟨rfl,⟨hlt,by rw[hse];exact Nat.le_trans hsz HF2.out.size,fun k=>by rw[World.frozen?_setCell];exact HG2.out k,hSx,fun g hg=>hSn.out g (by rw[hse] at hg;have:=HF2.out.size;omega),⟨_,cell_set_same k0 _,HO2.out.set hlt _ _,HN2.out⟩⟩,HF2.out.setCell (Or.inl hSx) _ _⟩
def chB (T:Nat) (l:List Int):List Int:=beB l.length++(beB T++(l++beB (crcEnd (crcI crcStart (beB T++l)))))
theorem chB_len (T:Nat) (l:List Int):(chB T l).length=l.length+12:=by
 unfold chB;rw[List.length_append,List.length_append,List.length_append,beB_len,beB_len,beB_len];omega
theorem crcI_lt (s:Nat) (l:List Int) (h:s<4294967296) (hb:isBytes l):crcI s l<4294967296:=by
 unfold crcI
 induction l generalizing s with
 | nil=>exact h
 | cons x l ih=>
  have hx:=hb x (by simp);exact ih _ (crcAdd_lt _ _ h (by omega)) (fun y hy=>hb y (by simp [hy]))
theorem crcStart_i:Value.int .u32 4294967295=Value.int .u32 ((crcI crcStart []:Nat):Int):=rfl
theorem add_core_b (x N T:Nat) (L:List Int) (S:Nat->Prop) (v:Value) (l:List Int) (w:World) (h:∀ q:Nat,q<4294967296->Calls Tryz.prog 107 #[.pointer (some ⟨x,0,none⟩),.int .u32 (q:Int)] w fun r w'=>r = .returned (.tuple #[])/\PutB x N (L++beB q) S w w') (hm0:0<L.length) (hl:LAt w .u8 v l) (hB:isBytes l) (hpc:∀ n c,v = .slice none n c->c=0) (hS:∀ g,sliceBlock v=some g->¬ S g) (hm:L.length<=1000000) (hn:l.length<=1000000) (hT:T<4294967296) :
  Calls Tryz.prog 77 #[.pointer (some ⟨x,0,none⟩),.int .u32 (T:Int),v] w fun r w'=>r = .returned (.tuple #[])/\PutB x N (L++chB T l) S w w':=by
 obtain ⟨p,c,rfl⟩:=hl.form;obtain ⟨m,hmL⟩:∃ m,L.length=m:=⟨_,rfl⟩;obtain ⟨n,hnl⟩:∃ n,l.length=n:=⟨_,rfl⟩;have F1:Hid (∀ (W:World) (K:List Int) (q:Nat),q<4294967296->K.length<=10000000->WrY W x N K S->Calls Tryz.prog 107 #[.pointer (some ⟨x,0,none⟩),.int .u32 (q:Int)] W fun r w'=>r = .returned (.tuple #[])/\PutB x N (K++beB q) S W w'):=fun W K q hq hK hW=>num4_b x N q K W S hW hq hK
 have F2:Hid (∀ (W:World) (s b:Nat),s<4294967296->b<256->Calls Tryz.prog 82 #[.int .u32 (s:Int),.int .u8 (b:Int)] W fun r w'=>r = .returned (.int .u32 (crcAdd s b:Nat))/\w'=W):=fun W s b h0 h1=>crcAdd_any s b W h0 h1
 have F3:Hid (∀ (W:World) (s:Nat),s<4294967296->Calls Tryz.prog 86 #[.int .u32 (s:Int)] W fun r w'=>r = .returned (.int .u32 (crcEnd s:Nat))/\w'=W):=fun W s h0=>crcEnd_any s W h0
 have H0:Hid (∀ q:Nat,q<4294967296->Calls Tryz.prog 107 #[.pointer (some ⟨x,0,none⟩),.int .u32 (q:Int)] w fun r w'=>r = .returned (.tuple #[])/\PutB x N (L++beB q) S w w'):=h;have HL:Hid (LAt w .u8 (.slice p l.length c) l):=hl;have HS:Hid (∀ g,sliceBlock (.slice p l.length c)=some g->¬ S g):=hS;have HB:Hid (isBytes l):=hB;have HPC:Hid (p=none->c=0):=fun e=>hpc l.length c (by rw[e])
 rw[hnl] at HL HS hn ⊢;rw[hmL] at hm hm0;have hL1:Hid (L.length<=10000000):=by show L.length<=10000000;omega
 have hL2:Hid ((L++beB n).length=m+4):=by show (L++beB n).length=m+4;rw[List.length_append,hmL,beB_len]
 have hL3:Hid ((L++beB n++beB T).length=m+8):=by show (L++beB n++beB T).length=m+8;rw[List.length_append,List.length_append,hmL,beB_len,beB_len]
 have hL4:Hid ((L++beB n++beB T++l).length=m+8+n):=by show (L++beB n++beB T++l).length=m+8+n;rw[List.length_append,List.length_append,List.length_append,hmL,beB_len,beB_len,hnl]
 obtain ⟨K1,hK1⟩:∃ K1,K1=L++beB n:=⟨_,rfl⟩;obtain ⟨K2,hK2⟩:∃ K2,K2=L++beB n++beB T:=⟨_,rfl⟩;have HNL:Hid (l.length=n):=hnl;have HDr:Hid ((L++beB n++beB T++l).drop (m+4)=beB T++l):=by
  show (L++beB n++beB T++l).drop (m+4)=beB T++l
  rw[List.append_assoc (L++beB n),List.drop_append_of_le_length (by rw[hL2.out];omega),List.drop_of_length_le (by rw[hL2.out];omega),List.nil_append]
 have HBa:Hid (isBytes (beB T++l)):=(beB_ok T).app hB;have HE:Hid (L++chB T l=L++beB n++beB T++l++beB (crcEnd (crcI crcStart (beB T++l)))):=by
  show L++chB T l=_
  unfold chB;rw[hnl];simp only [List.append_assoc]
 rw[<- hK2] at hL3 hL4 HDr HE;rw[<- hK1] at hL2;have HK1:Hid (K1=L++beB n):=hK1;have HK2:Hid (K1++beB T=K2):=by show K1++beB T=K2;rw[hK1,hK2]
 clear h hl hS hB hpc hmL hnl hK1 hK2;have n32:n<4294967296:=by omega
 go_enter Tryz.func77,Tryz.ntmps77;go_wp2_with fail;refine (H0.out n n32).mono ?_;rintro r w1 ⟨rfl,hw1⟩;rw[<- HK1.out] at hw1;obtain ⟨ov1,c01,ho1,hs1⟩:=hw1.at'.out;obtain ⟨p1,cc1,rfl⟩:=ho1.slice' hL2.out;replace hw1:Hid (PutB x N K1 S w w1):=hw1;clear ho1 hs1;go_wp2_with fail;refine (F1.out _ _ T hT (by rw[hL2.out];omega) hw1.out.at').mono ?_;rintro r w2 ⟨rfl,hw2⟩;rw[HK2.out] at hw2;replace hw2:Hid (PutB x N K2 S w w2):=hw1.out.trans hw2;obtain ⟨ov2,c02,ho2,hs2⟩:=hw2.out.at'.out;obtain ⟨p2,cc2,rfl⟩:=ho2.slice' hL3.out;have hf2:=hw2.out.at'.fz 0;have hN2:=hw2.out.at'.size;have hlt:=hw2.out.at'.lt;have hne:¬ (Value.slice p2 (m+8) cc2).ownBlock=some x:=fun e=>by have:=ho2.ge x e;omega
 have hxs:x<w2.heap.size:=by omega
 have HO2:Hid (OwnB w2 N (.slice p2 (m+8) cc2) K2):=ho2;replace hs2:Hid _:=hs2;clear hw1 c01 ho2;have HL2:Hid (LAt w2 .u8 (.slice p n c) l):=HL.out.fr hw2.out.fr HS.out;clear HL;have HX:Hid (Value.slice p n c = .slice p l.length c):=by show Value.slice p n c = .slice p l.length c;rw[HNL.out]
 go_wp2_with (at_builtin;refine appendBA _ rfl _ _ rfl N (.slice p2 (m+8) cc2) K2 rfl HO2.out (by rw[hL3.out];omega) p c l HX.out (by rw[<- HX.out];exact HL2.out) HB.out HPC.out (by rw[hL3.out,HNL.out];omega) (by omega) ?_)
 intro v' w3 ho3 hf3 hn3;obtain ⟨p3,c3,rfl⟩:=ho3.slice' hL4.out;have k0:=(hf3.cell (k:=0) hxs hne).trans c02;have g0:=(hf3.frozen (k:=0) hxs hne).trans hf2;have HP3:Hid (PutB x N (K2++l) S w (w3.setCell ⟨x,0,none⟩ (.slice p3 (m+8+n) c3))):=by
  have hse:(w3.setCell ⟨x,0,none⟩ (Value.slice p3 (m+8+n) c3)).heap.size=w3.heap.size:=by simp [World.setCell]
  have hA:=hw2.out.at';have hz:=hf3.size;refine ⟨⟨hlt,by rw[hse];omega,fun k=>by rw[World.frozen?_setCell];exact (hf3.frozen hxs hne).trans (hA.fz k),hA.sx,fun g hg=>hA.new g (by rw[hse] at hg;omega),⟨_,cell_set_same k0 _,ho3.set hlt _ _,?_⟩⟩,?_⟩
  ·intro g hg
   rcases hn3 g hg with h | h
   ·exact hs2.out g h
   ·exact hA.new g h
  ·exact (hw2.out.fr.trans (hf3.mono (fun i _ e=>hs2.out i e))).setCell (Or.inl hA.sx) _ _
 have kk:=cell_set_same k0 (.slice p3 (m+8+n) c3);clear hf3 ho3 hn3 HL2 hw2 hs2 HO2 HX;go_wp2_with fail;generalize w3.setCell ⟨x,0,none⟩ (.slice p3 (m+8+n) c3)=w4 at *;obtain ⟨LL,hLL⟩:∃ LL,LL=K2++l:=⟨_,rfl⟩;rw[<- hLL] at HP3 hL4 HDr HE;clear hLL;go_loopg [7,8] (n+4) (fun mm u v W=>∃ k:Nat,mm=m+8+n - k/\m+4<=k/\k<=m+8+n/\v = .int .i64 (k:Int)/\u = .int .u32 (crcI crcStart ((LL.drop (m+4)).take (k - (m+4))):Nat)/\Kept w4 W)
 case atStart=>exact ⟨m+4,by omega,by omega,by omega,by go_num,by rw[Nat.sub_self,List.take_zero];exact crcStart_i,Kept.refl _⟩
 case round=>
  obtain ⟨k,hgk,hk0,hk1,rfl,rfl,hK⟩:=hrel;replace hgk:Hid _:=hgk;have hP:Hid (PutB x N LL S w wr):=HP3.out.kept hK;have kw:wr.cell? ⟨x,0,none⟩=some (.slice p3 (m+8+n) c3):=(hK.cell (p:=⟨x,0,none⟩) (World.block_lt_of_cell? _ _ kk)).trans kk;replace hK:Hid (Kept w4 wr):=hK;clear kk HP3;have hq1:crcI crcStart ((LL.drop (m+4)).take (k - (m+4)))<4294967296:=crcI_lt _ _ (by unfold crcStart;omega) (fun y hy=>by rw[HDr.out] at hy;exact HBa.out y (List.mem_of_mem_take hy));by_cases hlt2:k<m+8+n
  ·obtain ⟨ov,e0,ho,_⟩:=hP.out.at'.out
   rw[kw] at e0
   injection e0 with e0
   subst e0;have hLat:=ho.lat;have hLb:=ho.1;obtain ⟨g,o,rfl,hc⟩:∃ g o,p3=some ⟨g,o,none⟩/\wr.cell? ⟨g,o+k,none⟩=some (.int .u8 (LL.getD k 0)):=by
    obtain ⟨g,o,c',e,hc⟩:=hLat.addr (by rw[hL4.out];omega)
    injection e with e _ _
    exact ⟨g,o,e,hc k (by rw[hL4.out];omega)⟩
   have hkL:k<LL.length:=by rw[hL4.out];omega
   have hb:=hLb _ (getD_mem hkL);obtain ⟨B,hBB⟩:∃ B:Nat,LL.getD k 0=(B:Int):=⟨(LL.getD k 0).toNat,by omega⟩;have HNx:Hid (crcI crcStart ((LL.drop (m+4)).take (k+1 - (m+4)))=crcAdd (crcI crcStart ((LL.drop (m+4)).take (k - (m+4)))) B):=by
    show crcI crcStart ((LL.drop (m+4)).take (k+1 - (m+4)))=_
    rw[<- crcI_snoc];have hlt3:k - (m+4)<(LL.drop (m+4)).length:=by rw[List.length_drop,hL4.out];omega
    have hg:(LL.drop (m+4))[k - (m+4)]=(B:Int):=by
     rw[List.getElem_drop,<- hBB,List.getD_eq_getElem?_getD,List.getElem?_eq_getElem hkL];simp only [show m+4+(k - (m+4))=k from by omega,Option.getD_some]
    rw[show k+1 - (m+4)=(k - (m+4))+1 from by omega,List.take_succ_eq_append_getElem hlt3,hg]
   rw[hBB] at hc hb;have hb1:B<256:=by omega
   clear hb ho hLb hLat hBB;replace hkL:Hid _:=hkL;have hlt':(k:Int)<(m:Int)+8+(n:Int):=by omega
   have hk00:(0:Int)<=(k:Int):=by omega
   obtain ⟨q,hq⟩:∃ q,q=crcI crcStart ((LL.drop (m+4)).take (k - (m+4))):=⟨_,rfl⟩;rw[<- hq] at HNx hq1 ⊢;clear hq;go_wp2_with fail;refine (F2.out _ q B hq1 hb1).mono ?_;rintro r w5 ⟨rfl,hw5⟩;subst w5;go_wp2_with fail;go_roundg (m+8+n - (k+1))
   case measure=>rw[hgk.out];omega
   case rel=>exact ⟨k+1,rfl,by omega,by omega,by go_num,by rw[HNx.out],hK.out⟩
  ·have hlt':¬ (k:Int)<(m:Int)+8+(n:Int):=by omega
   have hke:k=m+8+n:=by omega
   have HQ:Hid (crcI crcStart ((LL.drop (m+4)).take (k - (m+4)))=crcI crcStart (beB T++l)):=by
    show crcI crcStart ((LL.drop (m+4)).take (k - (m+4)))=_
    rw[List.take_of_length_le (by rw[List.length_drop,hL4.out];omega),HDr.out]
   obtain ⟨q,hq⟩:∃ q,q=crcI crcStart ((LL.drop (m+4)).take (k - (m+4))):=⟨_,rfl⟩;rw[<- hq] at HQ hq1 ⊢;clear hq;replace hke:Hid _:=hke;have hq5:crcEnd q<4294967296:=by unfold crcEnd;exact Nat.xor_lt_two_pow (n:=32) (by omega) (by omega)
   have HQ5:Hid (crcEnd q=crcEnd (crcI crcStart (beB T++l))):=by show crcEnd q=_;rw[HQ.out]
   have F3q:=F3.out wr q hq1;generalize crcEnd q=q5 at *;replace F3q:Hid (Calls Tryz.prog 86 #[.int .u32 (q:Int)] wr fun r w'=>r = .returned (.int .u32 (q5:Int))/\w'=wr):=F3q;go_wp2_with fail;refine F3q.out.mono ?_;rintro r w5 ⟨rfl,hw5⟩;subst w5;go_wp2_with fail;refine (F1.out _ LL q5 hq5 (by rw[hL4.out];omega) hP.out.at').mono ?_;rintro r w6 ⟨rfl,hw6⟩;have HP6:Hid (PutB x N (L++chB T l) S w w6):=by
    rw[HE.out,<- HQ5.out];exact hP.out.trans hw6
   go_wp2_with fail;go_end0
   exact ⟨rfl,HP6.out⟩
theorem add_b (x N T:Nat) (L:List Int) (S:Nat->Prop) (v:Value) (l:List Int) (w:World) (h:WrY w x N L S) (hm0:0<L.length) (hl:LAt w .u8 v l) (hB:isBytes l) (hpc:∀ n c,v = .slice none n c->c=0) (hS:∀ g,sliceBlock v=some g->¬ S g) (hm:L.length<=1000000) (hn:l.length<=1000000) (hT:T<4294967296) :
  Calls Tryz.prog 77 #[.pointer (some ⟨x,0,none⟩),.int .u32 (T:Int),v] w fun r w'=>r = .returned (.tuple #[])/\PutB x N (L++chB T l) S w w' :=
 add_core_b x N T L S v l w (fun q hq=>num4_b x N q L w S h hq (by omega)) hm0 hl hB hpc hS hm hn hT
theorem palw_b (x N:Nat) (L:List Int) (S:Nat->Prop) (v:Value) (l:List Int) (w:World) (h:WrY w x N L S) (hm0:0<L.length) (hl:LAt w .u8 v l) (hB:isBytes l) (hpc:∀ n c,v = .slice none n c->c=0) (hS:∀ g,sliceBlock v=some g->¬ S g) (hm:L.length<=1000000) (hn:l.length<=1000000) :
  Calls Tryz.prog 47 #[.pointer (some ⟨x,0,none⟩),v] w fun r w'=>r = .returned (.tuple #[])/\PutB x N (L++chB plte l) S w w':=by
 have F:=fun (T:Nat) (hT:T<4294967296)=>add_b x N T L S v l w h hm0 hl hB hpc hS hm hn hT
 have F1:Hid (Calls Tryz.prog 77 #[.pointer (some ⟨x,0,none⟩),.int .u32 1347179589,v] w fun r w'=>r = .returned (.tuple #[])/\PutB x N (L++chB plte l) S w w'):=F plte (by decide);clear F;obtain ⟨p,c,rfl⟩:=hl.form;clear h hl hB hpc hS;go_enter Tryz.func47,Tryz.ntmps47;go_wp2_with fail;refine F1.out.mono ?_;rintro r w1 ⟨rfl,hw1⟩;go_wp2;go_end0
 exact ⟨rfl,hw1⟩
theorem clrw_b (x N:Nat) (L:List Int) (S:Nat->Prop) (v:Value) (l:List Int) (w:World) (h:WrY w x N L S) (hm0:0<L.length) (hl:LAt w .u8 v l) (hB:isBytes l) (hpc:∀ n c,v = .slice none n c->c=0) (hS:∀ g,sliceBlock v=some g->¬ S g) (hm:L.length<=1000000) (hn:l.length<=1000000) :
  Calls Tryz.prog 49 #[.pointer (some ⟨x,0,none⟩),v] w fun r w'=>r = .returned (.tuple #[])/\PutB x N (L++chB trns l) S w w':=by
 have F:=fun (T:Nat) (hT:T<4294967296)=>add_b x N T L S v l w h hm0 hl hB hpc hS hm hn hT
 have F1:Hid (Calls Tryz.prog 77 #[.pointer (some ⟨x,0,none⟩),.int .u32 1951551059,v] w fun r w'=>r = .returned (.tuple #[])/\PutB x N (L++chB trns l) S w w'):=F trns (by decide);clear F;obtain ⟨p,c,rfl⟩:=hl.form;clear h hl hB hpc hS;go_enter Tryz.func49,Tryz.ntmps49;go_wp2_with fail;refine F1.out.mono ?_;rintro r w1 ⟨rfl,hw1⟩;go_wp2;go_end0
 exact ⟨rfl,hw1⟩
theorem dataw_b (x N:Nat) (L:List Int) (S:Nat->Prop) (v:Value) (l:List Int) (w:World) (h:WrY w x N L S) (hm0:0<L.length) (hl:LAt w .u8 v l) (hB:isBytes l) (hpc:∀ n c,v = .slice none n c->c=0) (hS:∀ g,sliceBlock v=some g->¬ S g) (hm:L.length<=1000000) (hn:l.length<=1000000) :
  Calls Tryz.prog 79 #[.pointer (some ⟨x,0,none⟩),v] w fun r w'=>r = .returned (.tuple #[])/\PutB x N (L++chB idat l) S w w':=by
 have F:=fun (T:Nat) (hT:T<4294967296)=>add_b x N T L S v l w h hm0 hl hB hpc hS hm hn hT
 have F1:Hid (Calls Tryz.prog 77 #[.pointer (some ⟨x,0,none⟩),.int .u32 1229209940,v] w fun r w'=>r = .returned (.tuple #[])/\PutB x N (L++chB idat l) S w w'):=F idat (by decide);clear F;obtain ⟨p,c,rfl⟩:=hl.form;clear h hl hB hpc hS;go_enter Tryz.func79,Tryz.ntmps79;go_wp2_with fail;refine F1.out.mono ?_;rintro r w1 ⟨rfl,hw1⟩;go_wp2;go_end0
 exact ⟨rfl,hw1⟩
theorem endw_b (x N:Nat) (L:List Int) (S:Nat->Prop) (w:World) (h:WrY w x N L S) (hm0:0<L.length) (hm:L.length<=1000000) :
  Calls Tryz.prog 52 #[.pointer (some ⟨x,0,none⟩)] w fun r w'=>r = .returned (.tuple #[])/\PutB x N (L++chB iend []) S w w':=by
 have F:=fun (T:Nat) (hT:T<4294967296)=>add_b x N T L S (.slice none 0 0) [] w h hm0 LAt.nil isBytes.nil (fun n c e=>by injection e with _ _ e;exact e.symm) (fun g hg=>by cases hg) hm (by simp) hT
 have F1:Hid (Calls Tryz.prog 77 #[.pointer (some ⟨x,0,none⟩),.int .u32 1229278788,(.slice none 0 0)] w fun r w'=>r = .returned (.tuple #[])/\PutB x N (L++chB iend []) S w w'):=F iend (by decide);clear F;clear h;go_enter Tryz.func52,Tryz.ntmps52;go_wp2_with fail;refine F1.out.mono ?_;rintro r w1 ⟨rfl,hw1⟩;go_wp2;go_end0
 exact ⟨rfl,hw1⟩
def signI:List Int:=[137,80,78,71,13,10,26,10]
theorem signI_len:signI.length=8:=rfl
theorem signI_ok:isBytes signI:=by
 intro y hy;simp [signI] at hy
 rcases hy with rfl | rfl | rfl | rfl | rfl | rfl | rfl | rfl<;>omega
structure WrFB (W:World) (x N g:Nat) (S:Nat->Prop):Prop where
 lt:x<N
 size:N<=W.heap.size
 fz:∀ k,W.frozen? ⟨x,k,none⟩=false
 sx:S x
 new:∀ g,W.heap.size<=g->S g
 out:W.cell? ⟨x,0,none⟩=some (.slice (some ⟨g,0,none⟩) 8 8)
 gx:g≠x
 cl:∀ j,j<8->W.cell? ⟨g,j,none⟩=some (.int .u8 (signI.getD j 0))
theorem appendBF (w:World) {ops:Array Oper} {rest:List Oper} {o:Oper} {a:Act} {Q:Exit->Act->World->Prop}
  (hg:o.guard=none) (s x:Operand) (hop:o.op=Op.call { callee:=Callee.builtin Builtin.append,args:=#[s,x],argTypes:=#[105,105] })
  (N g n:Nat) (hs:a.eval s = .slice (some ⟨g,0,none⟩) n n) (ol:List Int) (hol:ol.length=n) (hob:isBytes ol) (hoc:∀ j,j<n->w.cell? ⟨g,j,none⟩=some (.int .u8 (ol.getD j 0)))
  (g2:Nat) (m c:Nat) (es:List Int) (hx:a.eval x = .slice (some ⟨g2,0,none⟩) m c) (hm:m=es.length) (h0:0<m) (hE:isBytes es) (hc:∀ j,j<m->w.cell? ⟨g2,0+j,none⟩=some (.int .u8 (es.getD j 0))) (hb:n+m<=1099511627776) (hbase:N<=w.heap.size)
  (hK:∀ v' w',OwnB w' N v' (ol++es)->Kept w w'->(∀ k,v'.ownBlock=some k->w.heap.size<=k)->wpList Tryz.prog ops Q rest (a.put o.dst v') w') :
  wpList Tryz.prog ops Q (o::rest) a w:=by
 subst hm;obtain ⟨i0,hi,hz0,hz1,hz2⟩:=info_parts' infoU8;have get8:∀ (L:List Int) (j:Nat) (u:Value),(u8s L)[j]? = some u->j<L.length/\u = .int .u8 (L.getD j 0):=by
  intro L j u hj;have hlt:j<L.length:=by
   have:=(List.getElem?_eq_some_iff.1 hj).1
   simpa [u8s] using this
  refine ⟨hlt,?_⟩;simp [u8s,List.getElem?_map,List.getElem?_eq_getElem hlt] at hj
  rw[<- hj];simp [List.getD_eq_getElem?_getD,List.getElem?_eq_getElem hlt]
 refine wpList_append_grows w hg s x 105 hop 5 i0 (.int .u8 0) 1 1 Tryz.underlying105 hi hz0 hz1 hz2 rfl (by omega) (some ⟨g,0,none⟩) n n (u8s ol) hs (fun e=>by cases e) (by simp [u8s,hol]) ?_ ⟨g2,0,none⟩ es.length c (u8s es) hx (by simp [u8s]) ?_ ?_ (by omega) (by unfold maxLen;omega) (by omega) ?_
 ·intro b hb j u hj
  cases hb
  obtain ⟨h1,rfl⟩:=get8 ol j u hj;rw[Addr.add_mid,Nat.zero_add];exact hoc j (by omega)
 ·intro j u hj
  obtain ⟨h1,rfl⟩:=get8 es j u hj;rw[Addr.add_mid];exact hc j h1
 ·intro u hu;simp [u8s] at hu;obtain ⟨y,_,rfl⟩:=hu;rfl
 ·intro v' w' h1 h2
  have h1':OwnB w' w.heap.size v' (ol++es):=⟨hob.app hE,by simpa [u8s,hol] using h1⟩;exact hK v' w' ⟨h1'.1,own_base h1'.2 hbase⟩ ⟨h2.os,h2.tape,h2.output,h2.size,fun k hk=>h2.block k hk (by simp)⟩ h1'.ge
theorem num4_full_b (x N g n:Nat) (w:World) (S:Nat->Prop) (h:WrFB w x N g S) (hn1:n<4294967296) :
  Calls Tryz.prog 107 #[.pointer (some ⟨x,0,none⟩),.int .u32 (n:Int)] w fun r w'=>r = .returned (.tuple #[])/\PutB x N (signI++beB n) S w w':=by
 obtain ⟨hlt,hsz,hfz,hSx,hSn,h0,hgx,hoc⟩:=h;have hfa:=hfz 0;replace hfz:Hid (∀ k,w.frozen? ⟨x,k,none⟩=false):=hfz;replace hSn:Hid (∀ g,w.heap.size<=g->S g):=hSn;have hxs:x<w.heap.size:=by omega
 have HOC:Hid (∀ j,j<8->(w.alloc (Obj.cells #[Value.int IntKind.u8 ((n:Int) / 16777216),Value.int IntKind.u8 ((n:Int) / 65536 % 256),Value.int IntKind.u8 ((n:Int) / 256 % 256),Value.int IntKind.u8 ((n:Int) % 256)] 5)).cell? ⟨g,j,none⟩=some (.int .u8 (signI.getD j 0))):=by
  intro j hj;rw[World.cell?_alloc_lt _ _ _ (World.block_lt_of_cell? w _ (hoc j hj))];exact hoc j hj
 clear hoc;have HE:Hid (isBytes [(n:Int) / 16777216,(n:Int) / 65536 % 256,(n:Int) / 256 % 256,(n:Int) % 256]):=by
  intro y hy;simp at hy;rcases hy with rfl | rfl | rfl | rfl<;>omega
 have HC:Hid (∀ j,j<4->(w.alloc (Obj.cells #[Value.int IntKind.u8 ((n:Int) / 16777216),Value.int IntKind.u8 ((n:Int) / 65536 % 256),Value.int IntKind.u8 ((n:Int) / 256 % 256),Value.int IntKind.u8 ((n:Int) % 256)] 5)).cell? ⟨w.heap.size,0+j,none⟩=some (.int .u8 ([(n:Int) / 16777216,(n:Int) / 65536 % 256,(n:Int) / 256 % 256,(n:Int) % 256].getD j 0))):=by
  intro j hj;rw[Nat.zero_add];rw[World.cell?_alloc_at _ _ _ _ rfl]
  have:j=0\/j=1\/j=2\/j=3:=by omega
  rcases this with rfl | rfl | rfl | rfl<;>rfl
 have EB:Hid _:=beB_int n hn1;have hML4:Hid ((signI++beB n).length=8+4):=rfl;go_enter Tryz.func107,Tryz.ntmps107;go_wp2_with (at_builtin;refine appendBF _ rfl _ _ rfl N g 8 rfl signI signI_len signI_ok HOC.out w.heap.size 4 4 [(n:Int) / 16777216,(n:Int) / 65536 % 256,(n:Int) / 256 % 256,(n:Int) % 256] rfl rfl (by omega) HE.out HC.out (by omega) (by simp;omega) ?_)
 intro v' w2 ho2 hf2 hn2;rw[EB.out] at ho2;obtain ⟨p',c',rfl⟩:=ho2.slice' hML4.out;have fk:Kept w w2:=Kept.trans (Below.alloc (Below.refl _ _) (Nat.le_refl _) _) hf2;have k0:=(fk.cell (p:=⟨x,0,none⟩) hxs).trans h0;have g0:=(fk.frozen (p:=⟨x,0,none⟩) hxs).trans hfa;have HO2:Hid (OwnB w2 N (.slice p' (8+4) c') (signI++beB n)):=ho2;have HF2:Hid (Fr S w w2):=Fr.of_kept fk;have HN2:Hid (∀ k,(Value.slice p' (8+4) c').ownBlock=some k->S k):=fun k hk=>hSn.out k (by have:=hn2 k hk;first | omega | (simp at this;omega))
 have HG2:Hid (∀ k,w2.frozen? ⟨x,k,none⟩=false):=fun k=>(fk.frozen (p:=⟨x,k,none⟩) hxs).trans (hfz.out k)
 clear hf2 ho2 fk hn2;go_wp2;go_end0
 have hse:(w2.setCell ⟨x,0,none⟩ (Value.slice p' (8+4) c')).heap.size=w2.heap.size:=by simp [World.setCell]
 exact ⟨rfl,⟨hlt,by rw[hse];exact Nat.le_trans hsz HF2.out.size,fun k=>by rw[World.frozen?_setCell];exact HG2.out k,hSx,fun g hg=>hSn.out g (by rw[hse] at hg;have:=HF2.out.size;omega),⟨_,cell_set_same k0 _,HO2.out.set hlt _ _,HN2.out⟩⟩,HF2.out.setCell (Or.inl hSx) _ _⟩
theorem begin_b (w:World) :
  Calls Tryz.prog 45 #[] w fun r w'=>∃ g,r = .returned (.agg #[.slice (some ⟨g,0,none⟩) 8 8])/\w.heap.size<=g/\(∀ j,j<8->w'.cell? ⟨g,j,none⟩=some (.int .u8 (signI.getD j 0)))/\Kept w w':=by
 have kc:=fun (w:World) (C:Array Value) (n c g:Nat) (hg:g=w.heap.size)=>Joins.run_convert_bytes_const_at (P:=Tryz.prog) w 105 5 C n c g hg Tryz.underlying105 Tryz.underlying5
 go_enter Tryz.func45,Tryz.ntmps45;have hi:(Tryz.prog.info? 109).map (·.size)=some 1:=by kernel_rfl
 go_wp2;refine bodyPost_ret (v := .agg #[.slice (some ⟨w.heap.size+1,0,none⟩) 8 8]) (results_cell1 rfl _ _ w.heap.size 0 _ rfl ?_) rfl ?_
 ·refine run_loadVar_row _ _ 109 109 _ (0,0) _ ?_ Tryz.underlying109 rfl hi
  rw[heap_alloc_old _ _ (by simp)];exact heap_alloc_at _ _ _ rfl
 ·refine ⟨w.heap.size+1,rfl,by omega,?_,Below.alloc (Below.alloc (Below.refl _ _) (Nat.le_refl _) _) (by simp) _⟩
  ·intro j hj
   rw[Joins.cell_alloc_mark_at _ _ _ _ _ _ (by simp)]
   have:j=0\/j=1\/j=2\/j=3\/j=4\/j=5\/j=6\/j=7:=by omega
   rcases this with rfl | rfl | rfl | rfl | rfl | rfl | rfl | rfl<;>rfl
def hdI (W H D K L:Nat):List Int:=[0,0,0,(W:Int),0,0,0,(H:Int),(D:Int),(K:Int),0,0,(L:Int)]
theorem hdI_ok (W H D K L:Nat) (h1:W<=16) (h2:H<=16) (h3:D<=16) (h4:K<=6) (h5:L<=1):isBytes (hdI W H D K L):=by
 intro y hy;simp only [hdI,List.mem_cons,List.not_mem_nil,or_false] at hy;omega
theorem hdata_b (W H D K L:Nat) (w:World) (h1:W<=16) (h2:H<=16) (h3:D<=16) (h4:K<=6) (h5:L<=1) :
  Calls Tryz.prog 76 #[.agg #[.int .i64 (W:Int),.int .i64 (H:Int),.int .i64 (D:Int),.int .i64 (K:Int),.int .i64 (L:Int)]] w fun r w'=>r = .returned (.agg (u8s (hdI W H D K L)).toArray)/\Kept w w':=by
 have hi:(Tryz.prog.info? 67).map (·.size)=some 13:=by kernel_rfl
 go_enter Tryz.func76,Tryz.ntmps76;go_wp2;refine bodyPost_ret (v := .agg #[.int .u8 ((W:Int) / 16777216),.int .u8 ((W:Int) / 65536),.int .u8 ((W:Int) / 256),.int .u8 (W:Int),.int .u8 ((H:Int) / 16777216),.int .u8 ((H:Int) / 65536),.int .u8 ((H:Int) / 256),.int .u8 (H:Int),.int .u8 (D:Int),.int .u8 (K:Int),.int .u8 0,.int .u8 0,.int .u8 (L:Int)]) (results_cell1 rfl _ _ (w.heap.size+1) 0 _ rfl ?_) rfl ?_
 ·refine run_loadVar_row _ _ 67 67 _ (0,0) _ ?_ Tryz.underlying67 rfl hi
  exact heap_alloc_at _ _ _ (by simp)
 ·refine ⟨?_,Below.alloc (Below.alloc (Below.refl _ _) (Nat.le_refl _) _) (by simp) _⟩
  rw[show (W:Int) / 16777216=0 from by omega,show (W:Int) / 65536=0 from by omega,show (W:Int) / 256=0 from by omega,show (H:Int) / 16777216=0 from by omega,show (H:Int) / 65536=0 from by omega,show (H:Int) / 256=0 from by omega];rfl
theorem text_b (x N:Nat) (L:List Int) (S:Nat->Prop) (w:World) (h:WrY w x N L S) (hm0:0<L.length) (hm:L.length<=1000000) :
  Calls Tryz.prog 53 #[.pointer (some ⟨x,0,none⟩)] w fun r w'=>r = .returned (.string (strOfNums L))/\Kept w w':=by
 obtain ⟨hlt,hsz,hfz,sx,nw,ov,h0,h5,h6⟩:=h;have hLat:=h5.lat;obtain ⟨m,hmL⟩:∃ m,L.length=m:=⟨_,rfl⟩;obtain ⟨g,o,c,rfl,hc⟩:=hLat.addr (by omega);have hcv:=run_convert_bytes_arg (P:=Tryz.prog) w 105 5 Tryz.underlying105 Tryz.underlying5 g o L.length c L rfl hc 9 Tryz.underlying9;clear h5 h6 hLat hc;rw[hmL] at hm0 hm h0 hcv;replace hmL:Hid (L.length=m):=hmL;obtain ⟨sL,hsL⟩:∃ s,s=strOfNums L:=⟨_,rfl⟩;rw[<- hsL] at hcv ⊢;clear hsL;go_enter Tryz.func53,Tryz.ntmps53;go_wp2;go_ret;exact ⟨rfl,Kept.refl _⟩
theorem PutB.widen {x N:Nat} {n:List Int} {S S':Nat->Prop} {w w':World} (h:PutB x N n S' w w') (hS:∀ g,S' g->S g) (hn:∀ g,w'.heap.size<=g->S g):PutB x N n S w w' :=
 ⟨h.at'.turn (fun g _ e=>hS g e) hn,h.fr.mono (fun g _ e=>hS g e)⟩
theorem WrFB.turn {W:World} {x N g:Nat} {S S':Nat->Prop} (h:WrFB W x N g S) (hx:S' x) (hn:∀ g,W.heap.size<=g->S' g):WrFB W x N g S':=⟨h.lt,h.size,h.fz,hx,hn,h.out,h.gx,h.cl⟩
theorem WrFB.kept {W W':World} {x N g:Nat} {S:Nat->Prop} (h:WrFB W x N g S) (k:Kept W W'):WrFB W' x N g S:=by
 obtain ⟨h1,h2,h3,sx,nw,o,gx,c⟩:=h;have hx:x<W.heap.size:=by omega
 exact ⟨h1,Nat.le_trans h2 k.size,fun j=>(k.frozen (p:=⟨x,j,none⟩) hx).trans (h3 j),sx,fun g hg=>nw g (Nat.le_trans k.size hg),(k.cell (p:=⟨x,0,none⟩) hx).trans o,gx,fun j hj=>(k.cell (p:=⟨g,j,none⟩) (World.block_lt_of_cell? _ _ (c j hj))).trans (c j hj)⟩
theorem headC_b (x N g W H D K L:Nat) (w:World) (h:WrFB w x N g (S0 x N)) (h1:W<=16) (h2:H<=16) (h3:D<=16) (h4:K<=6) (h5:L<=1) :
  Calls Tryz.prog 46 #[.pointer (some ⟨x,0,none⟩),.agg #[.int .i64 (W:Int),.int .i64 (H:Int),.int .i64 (D:Int),.int .i64 (K:Int),.int .i64 (L:Int)]] w fun r w'=>r = .returned (.tuple #[])/\PutB x N (signI++chB ihdr (hdI W H D K L)) (S0 x N) w w':=by
 have F1:Hid (∀ W':World,Calls Tryz.prog 76 #[.agg #[.int .i64 (W:Int),.int .i64 (H:Int),.int .i64 (D:Int),.int .i64 (K:Int),.int .i64 (L:Int)]] W' fun r w'=>r = .returned (.agg (u8s (hdI W H D K L)).toArray)/\Kept W' w'):=fun W'=>hdata_b W H D K L W' h1 h2 h3 h4 h5
 have hk0:Hid (Kept w (w.alloc (Obj.cells #[.int .i64 (W:Int),.int .i64 (H:Int),.int .i64 (D:Int),.int .i64 (K:Int),.int .i64 (L:Int)] 66))):=Below.alloc (Below.refl _ _) (Nat.le_refl _) _;have HDO:Hid (isBytes (hdI W H D K L)):=hdI_ok W H D K L h1 h2 h3 h4 h5;have HDL:Hid ((hdI W H D K L).length=13):=rfl;generalize hdI W H D K L=hd at *;have H0:Hid (WrFB w x N g (S0 x N)):=h;have hlt:=h.lt;have hsz:=h.size;clear h;go_enter Tryz.func46,Tryz.ntmps46;go_wp2_with fail;generalize (w.alloc (Obj.cells #[.int .i64 (W:Int),.int .i64 (H:Int),.int .i64 (D:Int),.int .i64 (K:Int),.int .i64 (L:Int)] 66))=w0 at *;refine (F1.out _).mono ?_;rintro r w1 ⟨rfl,hk1⟩;have hcl:(u8s hd).length=13:=by rw[<- HDL.out];simp [u8s]
 have hcz:∀ j,j<13->∃ z:Int,0<=z/\z<256/\(u8s hd)[j]? = some (.int .u8 z):=by
  intro j hj;have hj':j<hd.length:=by rw[HDL.out];exact hj
  have:=HDO.out hd[j] (List.getElem_mem hj')
  exact ⟨hd[j],by omega,by omega,by simp [u8s,List.getElem?_map,List.getElem?_eq_getElem hj']⟩
 have hcE:Hid (∀ j,j<13->(u8s hd)[j]? = some (.int .u8 (hd.getD j 0))):=by
  intro j hj;have hj':j<hd.length:=by rw[HDL.out];exact hj
  simp [u8s,List.getElem?_map,List.getElem?_eq_getElem hj',List.getD_eq_getElem?_getD]
 generalize u8s hd=cs at *;have hone:Hid (∀ v ∈ cs,v.oneCell'=true):=ints_one hcl hcz;have hT:Hid ((w1.alloc (Obj.cells #[Value.int .u8 0,.int .u8 0,.int .u8 0,.int .u8 0,.int .u8 0,.int .u8 0,.int .u8 0,.int .u8 0,.int .u8 0,.int .u8 0,.int .u8 0,.int .u8 0,.int .u8 0] 67)).there w1.heap.size 0 cs.length):=by
  intro j hj;refine ⟨?_,World.frozen?_alloc_at _ _ _ _ rfl⟩;rw[World.cell?_alloc_at _ _ _ _ rfl,Nat.zero_add]
  have:j<13:=by omega
  rw[Array.getElem?_eq_getElem (by simpa using this)];rfl
 have hsc:(storeCells ⟨w1.heap.size,0,none⟩ cs).run Tryz.prog (w1.alloc (Obj.cells #[Value.int .u8 0,.int .u8 0,.int .u8 0,.int .u8 0,.int .u8 0,.int .u8 0,.int .u8 0,.int .u8 0,.int .u8 0,.int .u8 0,.int .u8 0,.int .u8 0,.int .u8 0] 67)) = .ok () ((w1.alloc (Obj.cells #[Value.int .u8 0,.int .u8 0,.int .u8 0,.int .u8 0,.int .u8 0,.int .u8 0,.int .u8 0,.int .u8 0,.int .u8 0,.int .u8 0,.int .u8 0,.int .u8 0,.int .u8 0] 67)).setCells w1.heap.size 0 cs):=store_there hT.out hone.out;have hr2:Hid (LAt ((w1.alloc (Obj.cells #[Value.int .u8 0,.int .u8 0,.int .u8 0,.int .u8 0,.int .u8 0,.int .u8 0,.int .u8 0,.int .u8 0,.int .u8 0,.int .u8 0,.int .u8 0,.int .u8 0,.int .u8 0] 67)).setCells w1.heap.size 0 cs) .u8 (.slice (some ⟨w1.heap.size,0,none⟩) 13 13) hd):=by
  refine ⟨⟨some ⟨w1.heap.size,0,none⟩,13,by rw[HDL.out]⟩,?_⟩;intro p c hv i hi;rw[HDL.out] at hi hv
  injection hv with hp _ _
  exact ⟨w1.heap.size,0,hp.symm,World.rangeAt_setCells_same _ _ _ _ hT.out i _ (hcE.out i hi)⟩
 have hk2:Hid (Kept w1 ((w1.alloc (Obj.cells #[Value.int .u8 0,.int .u8 0,.int .u8 0,.int .u8 0,.int .u8 0,.int .u8 0,.int .u8 0,.int .u8 0,.int .u8 0,.int .u8 0,.int .u8 0,.int .u8 0,.int .u8 0] 67)).setCells w1.heap.size 0 cs)):=Kept.setCells (Nat.le_refl _) _ _ (Below.alloc (Below.refl _ _) (Nat.le_refl _) _);have hsz2:Hid (((w1.alloc (Obj.cells #[Value.int .u8 0,.int .u8 0,.int .u8 0,.int .u8 0,.int .u8 0,.int .u8 0,.int .u8 0,.int .u8 0,.int .u8 0,.int .u8 0,.int .u8 0,.int .u8 0,.int .u8 0] 67)).setCells w1.heap.size 0 cs).heap.size=w1.heap.size+1):=by show _=_;rw[setCells_size];simp
 have HK:Hid (Kept w ((w1.alloc (Obj.cells #[Value.int .u8 0,.int .u8 0,.int .u8 0,.int .u8 0,.int .u8 0,.int .u8 0,.int .u8 0,.int .u8 0,.int .u8 0,.int .u8 0,.int .u8 0,.int .u8 0,.int .u8 0] 67)).setCells w1.heap.size 0 cs)):=(hk0.out.trans hk1).trans hk2.out;have hsw:w.heap.size<=w1.heap.size:=(hk0.out.trans hk1).size;clear hcz hT hone;have hcl':=hcl;go_wp2_with fail;generalize (w1.alloc (Obj.cells #[Value.int .u8 0,.int .u8 0,.int .u8 0,.int .u8 0,.int .u8 0,.int .u8 0,.int .u8 0,.int .u8 0,.int .u8 0,.int .u8 0,.int .u8 0,.int .u8 0,.int .u8 0] 67)).setCells w1.heap.size 0 cs=w2 at *;clear hsc;have hla:=hr2.out;have HF:WrFB w2 x N g (S1 x N w1.heap.size):=(H0.out.kept HK.out).turn ⟨Or.inl rfl,by omega⟩ (fun g' hg'=>⟨Or.inr (by rw[hsz2.out] at hg';omega),by rw[hsz2.out] at hg';omega⟩);have FA:=fun (T:Nat) (hT:T<4294967296)=>add_core_b x N T signI (S1 x N w1.heap.size) (.slice (some ⟨w1.heap.size,0,none⟩) 13 13) hd w2 (fun q h1=>num4_full_b x N g q w2 _ HF h1) (by decide) hla HDO.out (fun n c e=>by injection e with e _ _;cases e) (fun b hb e=>by
  have:w1.heap.size=b:=by injection hb
  exact e.2 this.symm) (by decide) (by rw[HDL.out];decide) hT
 replace FA:Hid _:=FA;refine Calls.mono (FA.out ihdr ?_) ?_
 rotate_left
 ·rintro r w3 ⟨rfl,hw3⟩
  have H3:Hid (PutB x N (signI++chB ihdr hd) (S0 x N) w w3):=by
   have hz:=hw3.fr.size;have hz2:=hsz2.out
   have:=hw3.widen (S:=S0 x N) (fun g e=>e.1) (fun g hg=>Or.inr (by omega))
   exact ⟨this.at',Fr.trans (Fr.of_kept HK.out) this.fr⟩
  go_wp2;go_end0
  exact ⟨rfl,H3.out⟩
 ·decide
