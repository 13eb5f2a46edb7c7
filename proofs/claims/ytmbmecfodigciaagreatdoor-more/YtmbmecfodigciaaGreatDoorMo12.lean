import Derived.Test.YtmbmecfodigciaaGreatDoorMo11
import Derived.Laws.BitsAllLaws
import Derived.Test.YtmbmecfodigciaaGreatDoorMo08
set_option maxRecDepth 100000
set_option maxHeartbeats 6400000
namespace Px
def crcBit (s:Nat):Nat:=if s % 2=1 then (s / 2) ^^^ 3988292384 else s / 2
def crcBits:Nat→Nat→Nat
 | 0,s=>s
 | k+1,s=>crcBit (crcBits k s)
def crcAdd (s b:Nat):Nat:=crcBits 8 (s ^^^ b)
def crcL (s:Nat) (l:List Nat):Nat:=l.foldl crcAdd s
def crcStart:Nat:=4294967295
def crcEnd (s:Nat):Nat:=s ^^^ 4294967295
def capB (b:Nat):Bool:=decide (65≤b∧b≤90)
def lowB (b:Nat):Bool:=decide (97≤b∧b≤122)
def letB (b:Nat):Bool:=capB b || lowB b
def tyB (n:Nat):Bool:=letB (n / 16777216 % 256) && letB (n / 65536 % 256) && capB (n / 256 % 256) && letB (n % 256)
def legB (k d:Nat):Bool:=
 if k=0 then decide (d=1∨d=2∨d=4∨d=8∨d=16)
 else if k=3 then decide (d=1∨d=2∨d=4∨d=8)
 else if k=2∨k=4∨k=6 then decide (d=8∨d=16)
 else false
def ihdr:Nat:=1229472850
def plte:Nat:=1347179589
def trns:Nat:=1951551059
def idat:Nat:=1229209940
def iend:Nat:=1229278788
def signB (i:Nat):Nat:=[137,80,78,71,13,10,26,10].getD i 0
end Px
namespace Go.Proofs.YtmbmecfodigciaaGreatDoor
open Go.RowKit
set_option linter.unusedSimpArgs false
set_option linter.unusedVariables false
theorem isCapital_any (b:Nat) (w:World) :
  Calls Tryz.prog 115 #[.int .u8 (b:Int)] w fun e w'=>e = .returned (.bool (Px.capB b))∧w'=w:=by
 go_enter Tryz.func115,Tryz.ntmps115
 go_wp2
 all_goals go_ret
 all_goals exact ⟨ret_bool (by unfold Px.capB;first | (symm;rw[decide_eq_false_iff_not];omega) | (rw[Bool.eq_iff_iff,decide_eq_true_iff,decide_eq_true_iff];omega)),rfl⟩
theorem isLetter_any (b:Nat) (w:World) :
  Calls Tryz.prog 138 #[.int .u8 (b:Int)] w fun e w'=>e = .returned (.bool (Px.letB b))∧w'=w:=by
 cases hc:Px.capB b
 ·have hl:Px.letB b=Px.lowB b:=by simp [Px.letB,hc]
  have HL:Hid (Px.letB b=Px.lowB b):=hl
  clear hl
  go_enter Tryz.func138,Tryz.ntmps138
  go_wp2_with (go_at_call 115;refine (isCapital_any _ _).mono ?_;rintro e w' ⟨rfl,rfl⟩)
  all_goals go_ret
  all_goals exact ⟨ret_bool (by rw[HL.out];unfold Px.lowB;first | (symm;rw[decide_eq_false_iff_not];omega) | (rw[Bool.eq_iff_iff,decide_eq_true_iff,decide_eq_true_iff];omega)),rfl⟩
 ·have hl:Px.letB b=true:=by simp [Px.letB,hc]
  have HL:Hid (Px.letB b=true):=hl
  clear hl
  go_enter Tryz.func138,Tryz.ntmps138
  go_wp2_with (go_at_call 115;refine (isCapital_any _ _).mono ?_;rintro e w' ⟨rfl,rfl⟩)
  all_goals go_ret
  all_goals exact ⟨ret_bool HL.out.symm,rfl⟩
theorem isCapital_i (b:Int) (w:World) (h:0≤b) :
  Calls Tryz.prog 115 #[.int .u8 b] w fun e w'=>e = .returned (.bool (Px.capB b.toNat))∧w'=w:=by
 obtain ⟨n,rfl⟩:=Int.eq_ofNat_of_zero_le h;exact isCapital_any n w
theorem isLetter_i (b:Int) (w:World) (h:0≤b) :
  Calls Tryz.prog 138 #[.int .u8 b] w fun e w'=>e = .returned (.bool (Px.letB b.toNat))∧w'=w:=by
 obtain ⟨n,rfl⟩:=Int.eq_ofNat_of_zero_le h;exact isLetter_any n w
theorem tyB_of (n:Nat) (hn:n<4294967296):Px.tyB n=(Px.letB ((n:Int) / 16777216).toNat && Px.letB ((n:Int) / 65536 % 256).toNat && Px.capB ((n:Int) / 256 % 256).toNat && Px.letB (n % 256)):=by
 unfold Px.tyB
 rw[show ((n:Int) / 16777216).toNat=n / 16777216 % 256 from by omega,show ((n:Int) / 65536 % 256).toNat=n / 65536 % 256 from by omega,show ((n:Int) / 256 % 256).toNat=n / 256 % 256 from by omega]
theorem isType_any (n:Nat) (w:World) (hn:n<4294967296) :
  Calls Tryz.prog 108 #[.int .u32 (n:Int)] w fun e w'=>e = .returned (.bool (Px.tyB n))∧w'=w:=by
 rw[tyB_of n hn]
 cases h1:Px.letB ((n:Int) / 16777216).toNat<;>cases h2:Px.letB ((n:Int) / 65536 % 256).toNat<;>cases h3:Px.capB ((n:Int) / 256 % 256).toNat
 all_goals
  go_enter Tryz.func108,Tryz.ntmps108
  go_wp2_with (first | (go_at_call 138;refine (isLetter_i _ _ (by omega)).mono ?_;rintro e w' ⟨rfl,rfl⟩) | (go_at_call 115;refine (isCapital_i _ _ (by omega)).mono ?_;rintro e w' ⟨rfl,rfl⟩))
  go_ret
  exact ⟨ret_bool (by simp only [Bool.true_and,Bool.false_and,Bool.and_false]),rfl⟩
theorem crcBits_lt (k s:Nat) (h:s<4294967296):Px.crcBits k s<4294967296:=by
 induction k with
 | zero=>exact h
 | succ k ih=>
  show Px.crcBit _<_
  unfold Px.crcBit
  split
  ·exact Nat.xor_lt_two_pow (n:=32) (by omega) (by omega)
  ·omega
theorem and1 (n:Nat) (h:n<4294967296):bits BinOp.and IntKind.u32 (n:Int) 1=((n % 2:Nat):Int):=by
 have:=u32_and_nat n 1 h (by omega);rw[show ((1:Int))=((1:Nat):Int) from rfl,this,nat_mask1]
theorem xorP (n:Nat) (h:n<4294967296):bits BinOp.xor IntKind.u32 ((n:Int) / 2) 3988292384=(((n / 2) ^^^ 3988292384:Nat):Int):=by
 have:=u32_xor_nat (n / 2) 3988292384 (by omega) (by omega)
 rw[show ((n:Int) / 2)=((n / 2:Nat):Int) from by omega,show ((3988292384:Int))=((3988292384:Nat):Int) from rfl,this]
theorem crc_step (k s:Nat) (h:s<4294967296) (c:Nat) (hc:c=Px.crcBits k s)
  (t:(bits BinOp.and IntKind.u32 (c:Int) 1 == 1)=true):bits BinOp.xor IntKind.u32 ((c:Int) / 2) 3988292384=(Px.crcBits (k+1) s:Nat):=by
 have hl:=crcBits_lt k s h
 subst hc
 rw[and1 _ hl] at t
 rw[xorP _ hl]
 have:Px.crcBits k s % 2=1:=by simp at t;omega
 show _=((Px.crcBit (Px.crcBits k s):Nat):Int)
 unfold Px.crcBit;rw[if_pos this]
theorem crc_step' (k s:Nat) (h:s<4294967296) (c:Nat) (hc:c=Px.crcBits k s)
  (t:(bits BinOp.and IntKind.u32 (c:Int) 1 == 1)=false):(c:Int) / 2=(Px.crcBits (k+1) s:Nat):=by
 have hl:=crcBits_lt k s h
 subst hc
 rw[and1 _ hl] at t
 have:¬ Px.crcBits k s % 2=1:=by simp at t;omega
 show _=((Px.crcBit (Px.crcBits k s):Nat):Int)
 unfold Px.crcBit;rw[if_neg this];omega
theorem xor_lt32 (s b:Nat) (hs:s<4294967296) (hb:b<256):s ^^^ b<4294967296:=Nat.xor_lt_two_pow (n:=32) (by omega) (by omega)
theorem crcAdd_lt (s b:Nat) (hs:s<4294967296) (hb:b<256):Px.crcAdd s b<4294967296:=crcBits_lt _ _ (xor_lt32 s b hs hb)
theorem crcAdd_any (s b:Nat) (w:World) (hs:s<4294967296) (hb:b<256) :
  Calls Tryz.prog 81 #[.int .u32 (s:Int),.int .u8 (b:Int)] w fun e w'=>e = .returned (.int .u32 (Px.crcAdd s b:Nat))∧w'=w:=by
 have hx:=xor_lt32 s b hs hb
 go_enter Tryz.func81,Tryz.ntmps81
 go_wp2
 go_loop [0,5] (fun c i=>∃ k:Nat,k≤8∧i = .int .i64 k∧c = .int .u32 (Px.crcBits k (s ^^^ b):Nat)) (fun _ i=>8 - (intOf i).toNat)
 case atStart=>exact ⟨0,by omega,rfl,val_int (by rw[u32_xor_nat s b hs (by omega)];rfl)⟩
 case round=>
  obtain ⟨k,hk,rfl,rfl⟩:=hrel
  go_wp2
  ·exact ⟨⟨k+1,by omega,by go_num,val_int (crc_step k _ hx _ rfl ‹_›)⟩,by simp [intOf];omega⟩
  ·exact ⟨⟨k+1,by omega,by go_num,val_int (crc_step' k _ hx _ rfl ‹_›)⟩,by simp [intOf];omega⟩
  ·go_ret
   exact ⟨ret_int (by rw[show k=8 from by omega];rfl),rfl⟩
theorem crcEnd_any (s:Nat) (w:World) (hs:s<4294967296) :
  Calls Tryz.prog 85 #[.int .u32 (s:Int)] w fun e w'=>e = .returned (.int .u32 (Px.crcEnd s:Nat))∧w'=w:=by
 go_enter Tryz.func85,Tryz.ntmps85
 go_wp2
 go_ret
 exact ⟨ret_int (by
  have:=u32_xor_nat 4294967295 s (by omega) hs
  rw[show IntKind.u32.max=((4294967295:Nat):Int) from rfl,this,Nat.xor_comm];rfl),rfl⟩
theorem ors (a b c d:Nat) (ha:a<256) (hb:b<256) (hc:c<256) (hd:d<256) :
  bits BinOp.or IntKind.u32 (bits BinOp.or IntKind.u32 (bits BinOp.or IntKind.u32 ((a:Int)*16777216) ((b:Int)*65536)) ((c:Int)*256)) d=((((a*256+b)*256+c)*256+d:Nat):Int):=by
 rw[show (a:Int)*16777216=((a*16777216:Nat):Int) from by omega,show (b:Int)*65536=((b*65536:Nat):Int) from by omega,show (c:Int)*256=((c*256:Nat):Int) from by omega]
 rw[u32_or_nat _ _ (by omega) (by omega),nat_join 24 (a*16777216) (b*65536) (by omega) (by omega)]
 rw[u32_or_nat _ _ (by omega) (by omega),nat_join 16 (a*16777216+b*65536) (c*256) (by omega) (by omega)]
 rw[u32_or_nat _ _ (by omega) (by omega),nat_join 8 (a*16777216+b*65536+c*256) d (by omega) (by omega)]
 omega
theorem unumber_any (a b c d:Nat) (w:World) (ha:a<256) (hb:b<256) (hc:c<256) (hd:d<256) :
  Calls Tryz.prog 157 #[.int .u8 (a:Int),.int .u8 (b:Int),.int .u8 (c:Int),.int .u8 (d:Int)] w fun e w'=>e = .returned (.int .u32 ((((a*256+b)*256+c)*256+d:Nat):Int))∧w'=w:=by
 go_enter Tryz.func157,Tryz.ntmps157
 go_wp2
 go_ret
 exact ⟨ret_int (ors a b c d ha hb hc hd),rfl⟩
def sideB (n:Nat):Bool:=decide (n≠0∧n<2147483648)
theorem uisSide_any (n:Nat) (w:World) :
  Calls Tryz.prog 158 #[.int .u32 (n:Int)] w fun e w'=>e = .returned (.bool (sideB n))∧w'=w:=by
 go_enter Tryz.func158,Tryz.ntmps158
 go_wp2
 all_goals go_ret
 ·exact ⟨ret_bool (by unfold sideB;simp_all),rfl⟩
 ·exact ⟨ret_bool (by unfold sideB;rw[Bool.eq_iff_iff];simp;omega),rfl⟩
theorem pow_lt (D:Nat) (h:D≤16):2^D≤65536:=by
 have:=Nat.pow_le_pow_right (n:=2) (by omega) h;simpa using this
theorem pow_mod (D:Nat) (h:D≤16):(2:Int)^D % 4294967296=((2^D:Nat):Int):=by
 have:=pow_lt D h
 rw[show (2:Int)^D=((2^D:Nat):Int) from by simp]
 generalize 2^D=m at *
 omega
theorem ulevels_any (W H D K L:Nat) (w:World) (h:D≤16) :
  Calls Tryz.prog 128 #[.agg #[.int .i64 W,.int .i64 H,.int .i64 D,.int .i64 K,.int .i64 L]] w fun e w'=>e = .returned (.int .u32 ((2^D:Nat):Int))∧w'=w.alloc (.cells #[.int .i64 W,.int .i64 H,.int .i64 D,.int .i64 K,.int .i64 L] 71):=by
 go_enter Tryz.func128,Tryz.ntmps128
 go_wp2
 go_ret
 exact ⟨ret_int (pow_mod D h),rfl⟩
theorem kinds (k:Nat):k=0∨k=2∨k=3∨k=4∨k=6∨(k≠0∧k≠2∧k≠3∧k≠4∧k≠6):=by omega
theorem ufits_any (k d:Nat) (w:World) :
  Calls Tryz.prog 60 #[.int .i64 (k:Int),.int .i64 (d:Int)] w fun e w'=>e = .returned (.bool (Px.legB k d))∧w'=w:=by
 rcases kinds k with rfl | rfl | rfl | rfl | rfl | ⟨h0,h2,h3,h4,h6⟩
 case' inr.inr.inr.inr.inr=>
  have H:Hid (Px.legB k d=false):=by unfold Px.legB Hid;simp [*]
  have g0:((k:Int) == 0)=false:=beq_eq_false_iff_ne.2 (by omega)
  have g2:((k:Int) == 2)=false:=beq_eq_false_iff_ne.2 (by omega)
  have g3:((k:Int) == 3)=false:=beq_eq_false_iff_ne.2 (by omega)
  have g4:((k:Int) == 4)=false:=beq_eq_false_iff_ne.2 (by omega)
  have g6:((k:Int) == 6)=false:=beq_eq_false_iff_ne.2 (by omega)
  clear h0 h2 h3 h4 h6
 all_goals
  go_enter Tryz.func60,Tryz.ntmps60
  go_wp2
  all_goals go_ret
  all_goals first | exact ⟨ret_bool (by rw[H.out]),rfl⟩ | exact ⟨ret_bool (by unfold Px.legB;rw[Bool.eq_iff_iff];simp;try omega),rfl⟩
end Go.Proofs.YtmbmecfodigciaaGreatDoor
namespace Px
def crcI (s:Nat) (l:List Int):Nat:=l.foldl (fun s x=>crcAdd s x.toNat) s
theorem crcI_snoc (s:Nat) (l:List Int) (b:Nat):crcI s (l++[(b:Int)])=crcAdd (crcI s l) b:=by unfold crcI;rw[List.foldl_append];rfl
end Px
namespace Go.Proofs.YtmbmecfodigciaaGreatDoor
open Go.RowKit Px
set_option linter.unusedSimpArgs false
set_option linter.unusedVariables false
theorem OwnB.slice' {w:World} {N:Nat} {v:Value} {l:List Int} (h:OwnB w N v l) {n:Nat} (e:l.length=n):∃ p c,v = .slice p n c:=by subst e;exact h.slice
theorem appendB' (w:World) {ops:Array Oper} {rest:List Oper} {o:Oper} {a:Act} {Q:Exit→Act→World→Prop}
  (hg:o.guard=none) (s x:Operand) (hop:o.op=Op.call { callee:=Callee.builtin Builtin.append,args:=#[s,x],argTypes:=#[56,56] })
  (N:Nat) (v:Value) (L:List Int) (hs:a.eval s=v) (hown:OwnB w N v L)
  (g o':Nat) (m c:Nat) (es:List Int) (hx:a.eval x = .slice (some ⟨g,o',none⟩) m c) (hm:m=es.length) (h0:0<m) (hE:isBytes es) (hc:∀ j,j<m→w.cell? ⟨g,o'+j,none⟩=some (.int .u8 (es.getD j 0))) (hb:L.length+m≤1099511627776) (hbase:N≤w.heap.size)
  (hK:∀ v' w',OwnB w' N v' (L++es)→Fr (fun k=>v.ownBlock=some k) w w'→(∀ k,v'.ownBlock=some k→v.ownBlock=some k∨w.heap.size≤k)→wpList Tryz.prog ops Q rest (a.put o.dst v') w') :
  wpList Tryz.prog ops Q (o::rest) a w:=by
 obtain ⟨hB,ho⟩:=hown
 subst hm
 refine append_own w 56 56 5 1 1 (.int .u8 0) Tryz.underlying56 infoU8 rfl (by omega) hg s x hop N v L.length (u8s L) hs ho ⟨g,o',none⟩ es.length c (u8s es) hx (by simp [u8s]) h0 ?_ ?_ (by unfold maxLen;omega) (by omega) hbase ?_ rfl
 ·intro j u hj
  have hlt:j<es.length:=by
   have:=(List.getElem?_eq_some_iff.1 hj).1
   simpa [u8s] using this
  rw[Addr.add_mid,hc j hlt]
  simp [u8s,List.getElem?_map,List.getElem?_eq_getElem hlt] at hj
  rw[← hj]
  simp [List.getD_eq_getElem?_getD,List.getElem?_eq_getElem hlt]
 ·intro u hu;simp [u8s] at hu;obtain ⟨y,_,rfl⟩:=hu;rfl
 ·intro v' w' h1 h2 h3
  exact hK v' w' ⟨hB.app hE,by simpa [u8s] using h1⟩ ⟨h2.os,h2.tape,h2.output,h2.size,fun k hk hn=>h2.block k hk (fun e=>hn e.symm)⟩ h3
theorem appendBA (w:World) {ops:Array Oper} {rest:List Oper} {o:Oper} {a:Act} {Q:Exit→Act→World→Prop}
  (hg:o.guard=none) (s x:Operand) (hop:o.op=Op.call { callee:=Callee.builtin Builtin.append,args:=#[s,x],argTypes:=#[56,56] })
  (N:Nat) (v:Value) (L:List Int) (hs:a.eval s=v) (hown:OwnB w N v L) (h0:0<L.length)
  (p:Option Addr) (c:Nat) (l:List Int) (hx:a.eval x = .slice p l.length c) (hl:LAt w .u8 (.slice p l.length c) l) (hE:isBytes l) (hpc:p=none→c=0) (hb:L.length+l.length≤1099511627776) (hbase:N≤w.heap.size)
  (hK:∀ v' w',OwnB w' N v' (L++l)→Fr (fun k=>v.ownBlock=some k) w w'→(∀ k,v'.ownBlock=some k→v.ownBlock=some k∨w.heap.size≤k)→wpList Tryz.prog ops Q rest (a.put o.dst v') w') :
  wpList Tryz.prog ops Q (o::rest) a w:=by
 by_cases hl0:l.length=0
 ·obtain ⟨hxb,ho⟩:=hown
  have ho':=ho
  rcases ho.2 with ⟨hv,hz⟩ | ⟨g,cap,cur,hv,hgb,hh,hnc,hcm,hcs,htk⟩
  ·omega
  ·subst hv
   have hle:l=[]:=List.eq_nil_of_length_eq_zero hl0
   obtain ⟨i0,hi,hz0,hz1,hz2⟩:=info_parts' infoU8
   refine wpList_append_fits_any w hg s x 56 hop N 5 i0 1 Tryz.underlying56 hi hz1 g L.length cap (u8s L) hs ho' p l.length c [] hx (by simp [hl0]) (fun e=>⟨hl0,hpc e⟩) (fun ad _ j u hj=>by simp at hj) (fun u hu=>by simp at hu) (by omega) ?_
   intro w' h1 h2
   refine hK _ w' ?_ ⟨h2.os,h2.tape,h2.output,h2.size,fun k hk hn=>h2.block k hk (fun e=>hn e.symm)⟩ (fun k hk=>Or.inl hk)
   rw[hle,List.append_nil]
   refine ⟨hxb,?_⟩
   simpa [hl0] using h1
 ·obtain ⟨g,o',c',e,hc⟩:=hl.addr (by omega)
  injection e with e _ _
  subst e
  exact appendB' w hg s x hop N v L hs hown g o' l.length c l hx rfl (by omega) hE hc hb hbase hK
structure WrB (W:World) (x N:Nat) (L:List Int) (S:Nat→Prop):Prop where
 lt:x<N
 size:N≤W.heap.size
 fz:∀ k,W.frozen? ⟨x,k,none⟩=false
 sx:S x
 new:∀ g,W.heap.size≤g→S g
 out:∃ ov,W.cell? ⟨x,0,none⟩=some ov∧OwnB W N ov L∧∀ g,ov.ownBlock=some g→S g
theorem WrB.kept {W W':World} {x N:Nat} {L:List Int} {S:Nat→Prop} (h:WrB W x N L S) (k:Kept W W'):WrB W' x N L S:=by
 obtain ⟨h1,h2,h3,sx,nw,ov,h4,h5,h6⟩:=h
 have hx:x<W.heap.size:=by omega
 exact ⟨h1,Nat.le_trans h2 k.size,fun j=>(k.frozen (p:=⟨x,j,none⟩) hx).trans (h3 j),sx,fun g hg=>nw g (Nat.le_trans k.size hg),ov,(k.cell (p:=⟨x,0,none⟩) hx).trans h4,h5.kept k,h6⟩
theorem WrB.turn {W:World} {x N:Nat} {L:List Int} {S S':Nat→Prop} (h:WrB W x N L S) (hS:∀ g,g<W.heap.size→S g→S' g) (hn:∀ g,W.heap.size≤g→S' g):WrB W x N L S':=by
 obtain ⟨h1,h2,h3,sx,nw,ov,h4,h5,h6⟩:=h
 exact ⟨h1,h2,h3,hS x (by omega) sx,hn,ov,h4,h5,fun g hg=>hS g (h5.2.lt g hg).2 (h6 g hg)⟩
structure PutB (x N:Nat) (L:List Int) (S:Nat→Prop) (w w':World):Prop where
 at':WrB w' x N L S
 fr:Fr S w w'
theorem PutB.trans {x N:Nat} {L M:List Int} {S:Nat→Prop} {a b c:World} (h:PutB x N L S a b) (k:PutB x N M S b c):PutB x N M S a c:=⟨k.at',h.fr.trans k.fr⟩
theorem PutB.refl {x N:Nat} {L:List Int} {S:Nat→Prop} {a:World} (h:WrB a x N L S):PutB x N L S a a:=⟨h,Fr.refl _ _⟩
theorem PutB.kept {x N:Nat} {L:List Int} {S:Nat→Prop} {a b c:World} (h:PutB x N L S a b) (k:Kept b c):PutB x N L S a c:=⟨h.at'.kept k,h.fr.kept k⟩
theorem beB_int (n:Nat) (h:n<4294967296):[(n:Int) / 16777216,(n:Int) / 65536 % 256,(n:Int) / 256 % 256,(n:Int) % 256]=beB n:=by
 unfold beB
 rw[show (n:Int) / 16777216=((n / 16777216 % 256:Nat):Int) from by omega,show (n:Int) / 65536 % 256=((n / 65536 % 256:Nat):Int) from by omega,show (n:Int) / 256 % 256=((n / 256 % 256:Nat):Int) from by omega,show (n:Int) % 256=((n % 256:Nat):Int) from by omega]
theorem beB_len (n:Nat):(beB n).length=4:=rfl
theorem beB_ok (n:Nat):isBytes (beB n):=by
 intro y hy
 unfold beB at hy
 simp only [List.mem_cons,List.not_mem_nil,or_false] at hy
 rcases hy with rfl | rfl | rfl | rfl<;>omega
theorem num4_b (x N n:Nat) (L:List Int) (w:World) (S:Nat→Prop) (h:WrB w x N L S) (hn1:n<4294967296) (hm:L.length≤1000000000) :
  Calls Tryz.prog 137 #[.pointer (some ⟨x,0,none⟩),.int .u32 (n:Int)] w fun r w'=>r = .returned (.tuple #[])∧PutB x N (L++beB n) S w w':=by
 obtain ⟨hlt,hsz,hfz,hSx,hSn,ov,h0,hown,hSo⟩:=h
 obtain ⟨m,hmL⟩:∃ m,L.length=m:=⟨_,rfl⟩
 obtain ⟨p,c,rfl⟩:=hown.slice' hmL
 rw[hmL] at hm
 have hfa:=hfz 0
 have HO:Hid (OwnB w N (.slice p m c) L):=hown
 replace hfz:Hid (∀ k,w.frozen? ⟨x,k,none⟩=false):=hfz
 have hne:¬ (Value.slice p m c).ownBlock=some x:=fun e=>by have:=HO.out.ge x e;omega
 have hxs:x<w.heap.size:=by omega
 replace hSo:Hid _:=hSo
 replace hSn:Hid (∀ g,w.heap.size≤g→S g):=hSn
 have HML:Hid (L.length=m):=hmL
 have hML4:Hid ((L++beB n).length=m+4):=by show (L++beB n).length=m+4;rw[List.length_append,hmL,beB_len]
 have hbnd:Hid (L.length+4≤1099511627776):=by show L.length+4≤1099511627776;omega
 clear hown hmL
 go_enter Tryz.func137,Tryz.ntmps137
 have EB:Hid _:=beB_int n hn1
 have HE:Hid (isBytes [(n:Int) / 16777216,(n:Int) / 65536 % 256,(n:Int) / 256 % 256,(n:Int) % 256]):=by rw[EB.out];exact beB_ok n
 have HC:Hid (∀ j,j<4→(w.alloc (Obj.cells #[Value.int IntKind.u8 ((n:Int) / 16777216),Value.int IntKind.u8 ((n:Int) / 65536 % 256),Value.int IntKind.u8 ((n:Int) / 256 % 256),Value.int IntKind.u8 ((n:Int) % 256)] 5)).cell? ⟨w.heap.size,0+j,none⟩=some (.int .u8 ([(n:Int) / 16777216,(n:Int) / 65536 % 256,(n:Int) / 256 % 256,(n:Int) % 256].getD j 0))):=by
  intro j hj
  rw[Nat.zero_add]
  rw[World.cell?_alloc_at _ _ _ _ rfl]
  have:j=0∨j=1∨j=2∨j=3:=by omega
  rcases this with rfl | rfl | rfl | rfl<;>rfl
 go_wp2_with (at_builtin;refine appendB' _ rfl _ _ rfl N (.slice p m c) L rfl (HO.out.alloc _) w.heap.size 0 4 4 [(n:Int) / 16777216,(n:Int) / 65536 % 256,(n:Int) / 256 % 256,(n:Int) % 256] rfl rfl (by omega) HE.out HC.out hbnd.out (by simp;omega) ?_)
 intro v' w2 ho2 hf2 hn2
 rw[EB.out] at ho2
 obtain ⟨p',c',rfl⟩:=ho2.slice' hML4.out
 have fk:Fr (fun k=>(Value.slice p m c).ownBlock=some k) w w2:=((Fr.refl _ w).alloc _).trans hf2
 have k0:=(fk.cell (k:=0) hxs hne).trans h0
 have g0:=(fk.frozen (k:=0) hxs hne).trans hfa
 have HO2:Hid (OwnB w2 N (.slice p' (m+4) c') (L++beB n)):=ho2
 have HF2:Hid (Fr S w w2):=fk.mono (fun i _ e=>hSo.out i e)
 have HN2:Hid (∀ k,(Value.slice p' (m+4) c').ownBlock=some k→S k):=fun k hk=>by
  rcases hn2 k hk with h | h
  ·exact hSo.out k h
  ·exact hSn.out k (by first | omega | (simp at h;omega))
 have HG2:Hid (∀ k,w2.frozen? ⟨x,k,none⟩=false):=fun k=>(fk.frozen hxs hne).trans (hfz.out k)
 clear hf2 ho2 fk hn2
 go_wp2
 go_end0
 have hse:(w2.setCell ⟨x,0,none⟩ (Value.slice p' (m+4) c')).heap.size=w2.heap.size:=by simp [World.setCell]
 exact ⟨rfl,⟨hlt,by rw[hse];exact Nat.le_trans hsz HF2.out.size,fun k=>by rw[World.frozen?_setCell];exact HG2.out k,hSx,fun g hg=>hSn.out g (by rw[hse] at hg;have:=HF2.out.size;omega),⟨_,cell_set_same k0 _,HO2.out.set hlt _ _,HN2.out⟩⟩,HF2.out.setCell (Or.inl hSx) _ _⟩
end Go.Proofs.YtmbmecfodigciaaGreatDoor
