import Derived.BigQuiet
import Derived.Carry
import Derived.Deep.AppendLies
import Derived.Deep.CutBlock
import Derived.Deep.CutRange
import Derived.Deep.LoopGhost
import Derived.Deep.MidRow
import Derived.Deep.OwnRows
import Derived.Deep.QuietTactic
import Derived.Deep.RegionHeld3
import Derived.Deep.RegionLaw
import Derived.Deep.RegionWith
import Derived.Deep.WholeRow
import Derived.Handy
import Derived.LaidMore
import Derived.Laws.BitsAllLaws
import Derived.Laws.IdiomCopy
import Derived.Lib.LaidTab
import Derived.OpenShut
import Derived.ProofKit
import Derived.SevenTiedAt
import Derived.ShutString
import Derived.SizedLaws
import Derived.SliceStrings
import Derived.Stop.Joined
import Derived.WalkKit
import Derived.WalkLawsBesides
import Derived.WalkSpells
import Derived.Test.YtgooinallljbpaaGreatDoorProg
section
open Go
open RowKit
theorem om{P:Prop}(h:P:=by omega):P:=h
def ZH0(p:Prop):Prop:=p
theorem ZH0.o{p:Prop}(h:ZH0 p):p:=h
theorem O{P:Prop}(h:P:=by omega):P:=h
def Z(p:Prop):Prop:=p
theorem U{p:Prop}(h:p):Z p:=h
theorem Z.o{p:Prop}(h:Z p):p:=h
theorem N{c:Prop}{i:Decidable c}(h:¬c:=by omega){α:Sort _}{t e:α}:ite c t e=e:=if_neg h
theorem I{c:Prop}{i:Decidable c}(h:c:=by omega){α:Sort _}{t e:α}:ite c t e=t:=if_pos h
theorem J{p:Prop}[i:Decidable p](h:¬p:=by omega):decide p=false:=decide_eq_false h
theorem K{p:Prop}[i:Decidable p](h:p:=by omega):decide p=true:=decide_eq_true h
theorem Xa{P:Prop}(h:P:=by rw[beq_eq_false_iff_ne];omega):P:=h
theorem Xb{P:Prop}(h:P:=by simp[intOf];omega):P:=h
theorem Xc{P:Prop}(h:P:=by rw[bne_eq_false_iff_eq];omega):P:=h
theorem Xd{P:Prop}(h:P:=by rw[IntKind.wrap_i64];omega):P:=h
theorem Xe{P:Prop}(h:P:=by rw[bne_iff_ne];omega):P:=h
theorem Xf{P:Prop}(h:P:=by simp;omega):P:=h
theorem Xg{P:Prop}(h:P:=by rw[beq_iff_eq];omega):P:=h
theorem Xh{P:Prop}(h:P:=by decide):P:=h
theorem Xi{P:Prop}(h:P:=by simp):P:=h
theorem Xj{P:Prop}(h:P:=by go_num):P:=h
theorem Xk{P:Prop}(h:P:=by kernel_rfl):P:=h
theorem Xl{P:Prop}(h:P:=by decide +kernel):P:=h
theorem Xn{P:Prop}(h:P:=by unfold maxLen;omega):P:=h
theorem Xo{P:Prop}(h:P:=by rw[List.length_take];omega):P:=h
theorem Xp{P:Prop}(h:P:=by show 0<256;omega):P:=h
abbrev kG:Array Value:=#[.int .u8 0,.int .u8 0,.int .u8 0,.int .u8 0,.int .u8 0,.int .u8 0,.int .u8 0,.int .u8 0,.int .u8 0,.int .u8 0,.int .u8 0,.int .u8 0,.int .u8 0,.int .u8 0,.int .u8 0,.int .u8 0,.int .u8 0,.int .u8 0,.int .u8 0,.int .u8 0,.int .u8 0,.int .u8 0,.int .u8 0,.int .u8 0,.int .u8 0,.int .u8 0,.int .u8 0,.int .u8 0,.int .u8 0,.int .u8 0,.int .u8 0,.int .u8 0]
set_option linter.defProp false
def B:=@Go.World.block_lt_of_cell?
def E:=@Nat.le_refl
def F:=@beq_eq_false_iff_ne
def G:=@List.getD_eq_getElem?_getD
def Xq:=@Nat.lt_of_lt_of_le
def R:=@Or.inr
def Xr:=@Go.World.cell?_alloc_at
def L:=@Or.inl
def Xs:=@Go.RowKit.Below.refl
def Xt:=@List.getElem?_eq_getElem
def Xu:=@Go.Calls.quiet_of_same
def Xv:=@List.length_append
def Xw:=@Go.RowKit.Below.alloc
def Xx:=@bne_eq_false_iff_eq
def Xy:=@Go.World.frozen?_setCell
def Xz:=@Nat.le_trans
def XA:=@Go.bodyPost_ret
def XB:=@Go.World.frozen?_alloc_at
def XC:=@Go.IntKind.wrap_i64
def XD:=@Nat.zero_add
def XE:=@List.length_replicate
def XF:=@Nat.mul_le_mul
def XG:=@Nat.le_add_right
def XH:=@Nat.pow_le_pow_right
def XI:=@beq_iff_eq
def XJ:=@bne_iff_ne
def XK:=@Go.World.cell?_of_block
def XL:=@decide_eq_true_iff
def XM:=@List.take_succ_eq_append_getElem
def XN:=@List.append_nil
def XO:=@Go.World.rangeAt_setCells_same
def XP:=@List.getElem?_append_right
def XQ:=@List.getElem?_map
def XR:=@Go.World.ownsRow_nil
def XS:=@Nat.mul_le_mul_right
def XT:=@BitVec.ofInt_natCast
def XU:=@Int.tmod_eq_emod_of_nonneg
def XV:=@List.getElem?_append_left
def XW:=@List.mem_append
def XX:=@List.getElem?_eq_none
def XY:=@List.append_assoc
def XZ:=@Int.tdiv_eq_ediv_of_nonneg
def X0:=@BitVec.toNat_ofNat
def X1:=@Nat.mod_eq_of_lt
def X2:=@Go.World.frozen?_of_block
def X3:=@Nat.zero_le
def X4:=@Bool.eq_iff_iff
def X5:=@Nat.add_zero
def X6:=@List.take_of_length_le
def X7:=@List.take_append_drop
def X8:=@List.mem_of_getElem?
def X9:=@Go.Calls.mono
def Ya:=@Nat.pow_succ
def Yb:=@List.getElem?_eq_some_iff
def Yc:=@Classical.byContradiction
def Yd:=@List.length_take
def Ye:=@List.cons_append
def Yf:=@Go.RowKit.ownsRow_setCell_below
def Yg:=@Nat.add_assoc
def Yh:=@decide_eq_false_iff_not
def Yi:=@List.mem_range
def Yj:=@List.length_cons
def Yk:=@List.foldl_append
def Yl:=@Go.World.cell?_setCell_other
def Ym:=@Option.some.inj
def Yn:=@List.length_drop
def Yo:=@Int.natCast_emod
def Yp:=@List.getElem?_range
def Yq:=@Go.IntKind.wrap_u32
def Yr:=@of_decide_eq_true
def Ys:=@Array.getD_eq_getD_getElem?
def Yt:=@List.mem_replicate
def Yu:=@List.mem_of_mem_drop
def Yv:=@Int.natCast_mul
def Yw:=@Go.run_loadVar_mid
def Yx:=@Nat.le_of_lt
def Yy:=@List.drop_eq_getElem_cons
def Yz:=@Nat.div_le_self
def YA:=@Go.results_none
def YB:=@Int.natCast_ediv
def YC:=@Nat.sub_self
def YD:=@Nat.mod_lt
def YE:=@List.mem_of_mem_take
def YG:=@Go.World.cell?_alloc_lt
def YH:=@Bool.true_and
def YI:=@Bool.or_false
def YL:=@Nat.add_sub_cancel
def YM:=@Bool.false_and
def YN:=@Nat.div_lt_of_lt_mul
def YO:=@Nat.add_mul
def YP:=@List.mem_map
def YQ:=@Int.toNat_natCast
def YR:=@Go.RowKit.Below.heap_alloc
def YS:=@Go.World.cell?_setCells_out
def YT:=@Nat.add_sub_cancel_left
def YU:=@List.getElem_mem
def YV:=@List.drop_drop
def YW:=@Nat.shiftLeft_add_eq_or_of_lt
def YX:=@List.eq_nil_of_length_eq_zero
def YY:=@Nat.xor_lt_two_pow
def YZ:=@Nat.lt_trans
def Y0:=@List.mem_singleton
def Y1:=@List.getElem?_drop
def Y2:=@Go.RowKit.Below.setCell
def Y3:=@Nat.mul_assoc
def Y4:=@List.mem_cons
def Y5:=@ByteArray.size_append
def Y6:=@decide_eq_true_eq
def Y7:=@Prod.ext
def Y8:=@List.drop_eq_nil_iff
def Y9:=@Bool.and_false
def Za:=@List.all_eq_true
def Zb:=@Go.Calls.quiet_of
def Zc:=@List.getD_cons_succ
def Zd:=@Array.getElem?_replicate
def Ze:=@List.nil_append
def Zf:=@List.map_append
def Zg:=@Nat.mod_le
def Zh:=@Nat.lt_of_le_of_lt
def Zi:=@Nat.one_mul
def Zj:=@List.getElem?_replicate
def Zk:=@Nat.mul_comm
def Zl:=@Bool.not_eq_true'
def Zm:=@Nat.and_two_pow_sub_one_eq_mod
def Zn:=@BitVec.toNat_and
def Zo:=@List.replicate_succ'
end
/-
 Plain mathematics,no Go: bits and numbers of a list of bytes.
-/
namespace Px
abbrev One:=Nat×Nat
def vAt(z:List One)(i:Nat):Nat:=(z.getD i (0,0)).1
def pAt(z:List One)(i:Nat):Nat:=(z.getD i (0,0)).2
def bs(z:List One)(i:Nat):Nat:=vAt z (i/8)/2^(i%8)%2
theorem kI z i:bs z i<2:=YD _ O
def ab(z:List One)(a:Nat):Nat->Nat
 | 0=>0
 | n+1=>ab z a n+bs z (a+n)*2^n
theorem dF z a b:ab z a b<2^b:=by
 induction b with
 | zero=>simp[ab]
 | succ b c=>
  have:=kI z (a+b)
  have d:bs z (a+b)*2^b<=1*2^b:=XS _ O;rw[ab,Ya];omega
theorem cT z a m b:ab z a (m+b)=ab z a m+2^m*ab z (a+m) b:=by
 induction b with
 | zero=>simp[ab]
 | succ b c=>
  rw[Nat.add_succ,ab,c,ab,Nat.mul_add,Nat.pow_add,Yg a m b];rw[Yg];congr 2;rw[Nat.mul_left_comm]
def good(z:List One):Prop:=(∀x∈z,x.1<256)/\z.length<=1048576/\∀x∈z,x.2<=1048576
theorem Mx{z}(h:good z)i:vAt z i<256:=by
 unfold vAt;rw[G];cases a:z[i]? with
 | none=>simp
 | some b=>exact h.1 b (X8 a)
theorem Hz{z}(h:good z)i:pAt z i<=1048576:=by
 unfold pAt;rw[G];cases a:z[i]? with
 | none=>simp
 | some b=>exact h.2.2 b (X8 a)
structure Bt where
 a:Nat
 cut:Bool
 err:Nat
def Bt.on(b:Bt):Bool := !b.cut&&decide (b.err=0)
def Bt.num(z:List One)(t:Bt)(n:Nat):Bt:=if t.cut=true then t else if t.a+n<=8*z.length then {t with a:=t.a+n} else {t with a:=8*z.length,cut:=true}
def up8(a:Nat):Nat:=(a+7)/8*8
def gm(l:List Nat)(s:Nat):Nat->Nat
 | 0=>0
 | t+1=>gm l s t+if 0<l.getD t 0/\(l.getD t 0<l.getD s 0\/(l.getD t 0=l.getD s 0/\t<s)) then 2^(l.getD s 0-l.getD t 0) else 0
def codeOf(l:List Nat)(s:Nat):Nat:=gm l s l.length
def bS(l:List Nat):Prop:=(∀x∈l,x<=15)/\l.length<=320
theorem eE{l}(h:bS l)i:l.getD i 0<=15:=by
 rw[G];cases a:l[i]? with
 | none=>simp
 | some b=>exact h.1 b (X8 a)
theorem wG i(a:i<=15):2^i<=32768:=by
 have:=XH (n:=2) O a;simpa using this
theorem FU{l}(h:bS l)s a:gm l s a<=a*32768:=by
 induction a with
 | zero=>simp[gm]
 | succ a b=>
  have c:=eE h s;rw[gm,Nat.succ_mul];refine Nat.add_le_add b ?_;split
  .exact(wG (l.getD s 0-l.getD a 0) O)
  .exact X3 _
def ee(l:List Nat):Nat->Nat
 | 0=>0
 | t+1=>ee l t+if 0<l.getD t 0 then 2^(15-l.getD t 0) else 0
def dJ(l:List Nat):Nat->Nat
 | 0=>0
 | t+1=>dJ l t+if 0<l.getD t 0 then 1 else 0
def iA(l:List Nat):Nat->Nat
 | 0=>0
 | t+1=>iA l t+if l.getD t 0=1 then 1 else 0
def cS(l:List Nat)(lone none:Bool):Bool:=
 if dJ l l.length=0 then none else decide (ee l l.length=32768)||(lone&&decide (dJ l l.length=1)&&decide (iA l l.length=1))
theorem GR l a:ee l a<=a*32768:=by
 induction a with
 | zero=>simp[ee]
 | succ a b=>
  rw[ee,Nat.succ_mul];refine Nat.add_le_add b ?_;split
  .exact(wG (15-l.getD a 0) O)
  .exact X3 _
theorem Jx l a:dJ l a<=a:=by
 induction a with
 | zero=>simp[dJ]
 | succ a b=>rw[dJ];split<;>omega
theorem H3 l a:iA l a<=a:=by
 induction a with
 | zero=>simp[iA]
 | succ a b=>rw[iA];split<;>omega
def msb(z:List One)(a:Nat):Nat->Nat
 | 0=>0
 | n+1=>2*msb z a n+bs z (a+n)
theorem Iq z a b:msb z a b<2^b:=by
 induction b with
 | zero=>simp[msb]
 | succ b c=>have:=kI z (a+b);rw[msb,Ya];omega
def fZ(l:List Nat)(n v s:Nat):Prop:=l.getD s 0=n/\codeOf l s=v
def ur(l:List Nat)(n v s:Nat):Prop:=n<l.getD s 0/\codeOf l s/2^(l.getD s 0-n)=v
def dW(l:List Nat)(n v k:Nat):Prop:=∀s,s<k->¬fZ l n v s
def dP(l:List Nat)(n v k:Nat):Prop:=∃s,s<k/\ur l n v s
def cP(z:List One)(a:Nat)(l:List Nat)(n:Nat):Prop:=∀m,1<=m->m<=n->dW l m (msb z a m) l.length/\dP l m (msb z a m) l.length
theorem GQ{z a l n}(h:cP z a l n)(b:bS l):n<15\/n=0:=by
 by_cases c:n=0
 .exact R c
 .obtain⟨d,_,e⟩:=(h n O (E _)).2
  have:=eE b d
  have:=e.1
  omega
theorem tQ{z a l n}(h:cP z a l n)(c:dW l (n+1) (msb z a (n+1)) l.length)(d:dP l (n+1) (msb z a (n+1)) l.length):cP z a l (n+1):=by
 intro b e g;by_cases f:b=n+1
 .subst f;exact⟨c,d⟩
 .exact h b e O
end Px
namespace Go.Proofs.YtgooinallljbpaaGreatDoor
open Go.RowKit Tryz
theorem bh{a b}(h:a=b):Ending.returned (.bool a)=.returned (.bool b):=by rw[h]
theorem aj{k a b}(h:a=b):Ending.returned (.int k a)=.returned (.int k b):=by rw[h]
theorem aY{k a b}(h:a=b):Value.int k a=.int k b:=by rw[h]
abbrev Kept(w w':World):Prop:=Below w.heap.size w w'
theorem Kept.refl w:Kept w w:=Xs _ _
theorem Kept.trans{a b c}(h:Kept a b)(k:Kept b c):Kept a c:=Below.trans h (k.mono h.size)
theorem Kept.drewN{a w}(h:Kept a w)n:Kept a (w.drewN n):=below_drewN h n
theorem aa(w:World)b k j v(h:k≠j):(w.setCell ⟨b,k,none⟩ v).cell? ⟨b,j,none⟩=w.cell? ⟨b,j,none⟩ :=
 Yl _ _ _ _ (by intro a;apply h;injection a)
theorem ai{w:World}{a u}(h:w.cell? a=some u)v:(w.setCell a v).cell? a=some v:=World.cell?_setCell_same _ _ _ h
structure Fr (S:Nat->Prop) (w w':World):Prop where
 os:w'.os=w.os
 tape:w'.tape=w.tape
 output:w'.output=w.output
 size:w.heap.size<=w'.heap.size
 block:∀k,k<w.heap.size->¬S k->w'.heap[k]? = w.heap[k]?
theorem Fr.refl(S:Nat->Prop)w:Fr S w w:=⟨rfl,rfl,rfl,E _,λ_ _ _=>rfl⟩
theorem Fr.trans{S:Nat->Prop}{x y z}(h:Fr S x y)(k:Fr S y z):Fr S x z:=
 ⟨k.os.trans h.os,k.tape.trans h.tape,k.output.trans h.output,Xz h.size k.size,λa b c=>(k.block a (Xq b h.size) c).trans (h.block a b c)⟩
theorem Fr.trans'{S T:Nat->Prop}{x y z}(h:Fr S x y)(k:Fr T y z)(d:∀a,a<x.heap.size->T a->S a):Fr S x z:=
 ⟨k.os.trans h.os,k.tape.trans h.tape,k.output.trans h.output,Xz h.size k.size,λa b c=>(k.block a (Xq b h.size) (λe=>c (d a b e))).trans (h.block a b c)⟩
theorem Fr.mono{S T:Nat->Prop}{x y}(h:Fr S x y)(c:∀a,a<x.heap.size->S a->T a):Fr T x y:=
 ⟨h.os,h.tape,h.output,h.size,λa b d=>h.block a b (λe=>d (c a b e))⟩
theorem Fr.of_kept{S:Nat->Prop}{x y}(k:Kept x y):Fr S x y:=⟨k.os,k.tape,k.output,k.size,λa b _=>k.block a b⟩
theorem Fr.kept{S:Nat->Prop}{x y z}(h:Fr S x y)(k:Kept y z):Fr S x z:=h.trans (Fr.of_kept k)
theorem Fr.setCell{S:Nat->Prop}{x y}(h:Fr S x y){b}(a:S b\/x.heap.size<=b)k v:Fr S x (y.setCell ⟨b,k,none⟩ v) :=
 ⟨h.os,h.tape,h.output,by simpa[World.setCell] using h.size,λe c d=>(Below.heap_setCell _ _ _ _ (by rintro rfl;rcases a with a|a;exact d a;exact absurd c (Nat.not_lt.2 a))).trans (h.block e c d)⟩
theorem Fr.drewN{S:Nat->Prop}{x y}(h:Fr S x y)n:Fr S x (y.drewN n):=h.kept ((Kept.refl _).drewN n)
theorem Fr.alloc{S:Nat->Prop}{x y}(h:Fr S x y)o:Fr S x (y.alloc o):=h.kept ((Xs _ _).alloc (E _) o)
theorem Fr.grown{S:Nat->Prop}{x y z}(h:Fr S x y){row}(a:y.grownBy z row)(g:∀b,row=some b->S b\/x.heap.size<=b):Fr S x z:=
 ⟨a.os.trans h.os,a.tape.trans h.tape,a.output.trans h.output,Xz h.size a.size,λc d e=>(a.block c (Xq d h.size) (λi=>by rcases g c i.symm with f|f;exact e f;omega)).trans (h.block c d e)⟩
theorem Fr.to_kept{S:Nat->Prop}{x y z}(h:Kept x y)(k:Fr S y z)(c:∀a,a<x.heap.size->¬S a):Kept x z:=
 ⟨k.os.trans h.os,k.tape.trans h.tape,k.output.trans h.output,Xz h.size k.size,λa b=>(k.block a (Xq b h.size) (c a b)).trans (h.block a b)⟩
theorem Fr.cell{S:Nat->Prop}{w w'}(h:Fr S w w'){c k}(a:c<w.heap.size)(b:¬S c):w'.cell? ⟨c,k,none⟩=w.cell? ⟨c,k,none⟩:=XK (w:=w) (h.block c a b)
theorem Fr.frozen{S:Nat->Prop}{w w'}(h:Fr S w w'){c k}(a:c<w.heap.size)(b:¬S c):w'.frozen? ⟨c,k,none⟩=w.frozen? ⟨c,k,none⟩:=X2 (w:=w) (h.block c a b)
abbrev Fr1(b:Nat):World->World->Prop:=Fr (λk=>k=b)
theorem Fr1.refl b w:Fr1 b w w:=Fr.refl _ _
theorem Fr1.set{b x y}(h:Fr1 b x y)k v:Fr1 b x (y.setCell ⟨b,k,none⟩ v):=Fr.setCell h (L rfl) k v
theorem Fr1.drewN{b x y}(h:Fr1 b x y)n:Fr1 b x (y.drewN n):=Fr.drewN h n
theorem kD(a:Nat)(b:a<4294967296):(BitVec.ofInt 64 (a:Int)).toNat=a:=by
 rw[XT,X0];exact X1 O
theorem lz(a b:Nat)(c:a<4294967296)(d:b<4294967296):bits .and .i64 (a:Int) (b:Int)=((a &&& b:Nat):Int):=by
 have e:a &&& b<2^32:=Nat.and_lt_two_pow _ O;show IntKind.i64.wrap ((BitVec.ofInt 64 (a:Int) &&& BitVec.ofInt 64 (b:Int)).toNat:Int)=_
 rw[Zn,kD a c,kD b d,XC];omega
theorem ly(a b:Nat)(c:a<4294967296)(d:b<4294967296):bits .xor .i64 (a:Int) (b:Int)=((a ^^^ b:Nat):Int):=by
 have e:a ^^^ b<2^32:=YY O O;show IntKind.i64.wrap ((BitVec.ofInt 64 (a:Int) ^^^ BitVec.ofInt 64 (b:Int)).toNat:Int)=_
 rw[BitVec.toNat_xor,kD a c,kD b d,XC];omega
theorem Ll(x k:Nat)(c:x<4294967296):bits .and .i64 ((x:Int)/2^k) 1=((x/2^k%2:Nat):Int):=by
 have a:(x:Int)/2^k=((x/2^k:Nat):Int):=Xi;have b:x/2^k<4294967296:=Zh (Yz _ _) O
 have:=lz (x/2^k) 1 b O
 rw[nat_mask1] at this;rw[a];exact this
