import Derived.Test.YtbedkdnphobmlaaGreatDoorProg
import Derived.BigQuiet
import Derived.Carry
import Derived.Deep.AppendLies
import Derived.Deep.CutBlock
import Derived.Deep.CutRange
import Derived.Deep.LoopGhost
import Derived.Deep.MidRow
import Derived.Deep.OwnRows
import Derived.Deep.QuietTactic
import Derived.Deep.RegionHeld3
import Derived.Deep.RegionLaw
import Derived.Deep.RegionWith
import Derived.Deep.WholeRow
import Derived.Handy
import Derived.LaidMore
import Derived.Laws.BitsAllLaws
import Derived.Laws.IdiomCopy
import Derived.Lib.LaidTab
import Derived.OpenShut
import Derived.ProofKit
import Derived.SevenTiedAt
import Derived.ShutString
import Derived.SizedLaws
import Derived.SliceStrings
import Derived.Stop.Joined
import Derived.WalkKit
import Derived.WalkLawsBesides
import Derived.WalkSpells
namespace Px
end Px
section
open Go
open RowKit
theorem om{P:Prop}(h:P:=by omega):P:=h
def ZH0(p:Prop):Prop:=p
theorem ZH0.o{p:Prop}(h:ZH0 p):p:=h
theorem O{P:Prop}(h:P:=by omega):P:=h
def Z(p:Prop):Prop:=p
theorem U{p:Prop}(h:p):Z p:=h
theorem Z.o{p:Prop}(h:Z p):p:=h
theorem N{c:Prop}{i:Decidable c}(h:¬c:=by omega){α:Sort _}{t e:α}:ite c t e=e:=if_neg h
theorem I{c:Prop}{i:Decidable c}(h:c:=by omega){α:Sort _}{t e:α}:ite c t e=t:=if_pos h
theorem J{p:Prop}[i:Decidable p](h:¬p:=by omega):decide p=false:=decide_eq_false h
theorem K{p:Prop}[i:Decidable p](h:p:=by omega):decide p=true:=decide_eq_true h
theorem Xa{P:Prop}(h:P:=by rw[beq_eq_false_iff_ne];omega):P:=h
theorem Xb{P:Prop}(h:P:=by simp[intOf];omega):P:=h
theorem Xc{P:Prop}(h:P:=by rw[bne_eq_false_iff_eq];omega):P:=h
theorem Xd{P:Prop}(h:P:=by rw[IntKind.wrap_i64];omega):P:=h
theorem Xf{P:Prop}(h:P:=by simp;omega):P:=h
theorem Xg{P:Prop}(h:P:=by rw[beq_iff_eq];omega):P:=h
theorem Xh{P:Prop}(h:P:=by decide):P:=h
theorem Xi{P:Prop}(h:P:=by simp):P:=h
theorem Xj{P:Prop}(h:P:=by go_num):P:=h
theorem Xk{P:Prop}(h:P:=by kernel_rfl):P:=h
theorem Xl{P:Prop}(h:P:=by decide +kernel):P:=h
theorem Xn{P:Prop}(h:P:=by unfold maxLen;omega):P:=h
theorem Xo{P:Prop}(h:P:=by rw[List.length_take];omega):P:=h
theorem Xp{P:Prop}(h:P:=by show 0<256;omega):P:=h
abbrev gv:Array Value:=#[.int .u8 0,.int .u8 0,.int .u8 0,.int .u8 0,.int .u8 0,.int .u8 0,.int .u8 0,.int .u8 0,.int .u8 0,.int .u8 0,.int .u8 0,.int .u8 0,.int .u8 0,.int .u8 0,.int .u8 0,.int .u8 0,.int .u8 0,.int .u8 0,.int .u8 0,.int .u8 0,.int .u8 0,.int .u8 0,.int .u8 0,.int .u8 0,.int .u8 0,.int .u8 0,.int .u8 0,.int .u8 0,.int .u8 0,.int .u8 0,.int .u8 0,.int .u8 0]
set_option linter.defProp false
def B:=@Go.World.block_lt_of_cell?
def E:=@Nat.le_refl
def F:=@beq_eq_false_iff_ne
def G:=@List.getD_eq_getElem?_getD
def Xq:=@Nat.lt_of_lt_of_le
def R:=@Or.inr
def Xr:=@Go.World.cell?_alloc_at
def L:=@Or.inl
def Xs:=@Go.RowKit.Below.refl
def Xt:=@List.getElem?_eq_getElem
def Xu:=@Go.Calls.quiet_of_same
def Xv:=@List.length_append
def Xw:=@Go.RowKit.Below.alloc
def Xx:=@bne_eq_false_iff_eq
def Xy:=@Go.World.frozen?_setCell
def Xz:=@Nat.le_trans
def XA:=@Go.bodyPost_ret
def XB:=@Go.World.frozen?_alloc_at
def XC:=@Go.IntKind.wrap_i64
def XD:=@Nat.zero_add
def XE:=@List.length_replicate
def XF:=@Nat.mul_le_mul
def XG:=@Nat.le_add_right
def XH:=@Nat.pow_le_pow_right
def XI:=@beq_iff_eq
def XJ:=@bne_iff_ne
def XK:=@Go.World.cell?_of_block
def XL:=@decide_eq_true_iff
def XM:=@List.take_succ_eq_append_getElem
def XN:=@List.append_nil
def XO:=@Go.World.rangeAt_setCells_same
def XP:=@List.getElem?_append_right
def XQ:=@List.getElem?_map
def XR:=@Go.World.ownsRow_nil
def XS:=@Nat.mul_le_mul_right
def XT:=@BitVec.ofInt_natCast
def XU:=@Int.tmod_eq_emod_of_nonneg
def XV:=@List.getElem?_append_left
def XW:=@List.mem_append
def XX:=@List.getElem?_eq_none
def XY:=@List.append_assoc
def XZ:=@Int.tdiv_eq_ediv_of_nonneg
def X0:=@BitVec.toNat_ofNat
def X1:=@Nat.mod_eq_of_lt
def X2:=@Go.World.frozen?_of_block
def X3:=@Nat.zero_le
def X4:=@Bool.eq_iff_iff
def X5:=@Nat.add_zero
def X6:=@List.take_of_length_le
def X7:=@List.take_append_drop
def X8:=@List.mem_of_getElem?
def X9:=@Go.Calls.mono
def Ya:=@Nat.pow_succ
def Yb:=@List.getElem?_eq_some_iff
def Yc:=@Classical.byContradiction
def Yd:=@List.length_take
def Ye:=@List.cons_append
def Yf:=@Go.RowKit.ownsRow_setCell_below
def Yg:=@Nat.add_assoc
def Yh:=@decide_eq_false_iff_not
def Yi:=@List.mem_range
def Yj:=@List.length_cons
def Yk:=@List.foldl_append
def Yl:=@Go.World.cell?_setCell_other
def Ym:=@Option.some.inj
def Yn:=@List.length_drop
def Yo:=@Int.natCast_emod
def Yp:=@List.getElem?_range
def Yq:=@Go.IntKind.wrap_u32
def Yr:=@of_decide_eq_true
def Ys:=@Array.getD_eq_getD_getElem?
def Yt:=@List.mem_replicate
def Yu:=@List.mem_of_mem_drop
def Yv:=@Int.natCast_mul
def Yw:=@Go.run_loadVar_mid
def Yx:=@Nat.le_of_lt
def Yy:=@List.drop_eq_getElem_cons
def Yz:=@Nat.div_le_self
def YA:=@Go.results_none
def YB:=@Int.natCast_ediv
def YC:=@Nat.sub_self
def YD:=@Nat.mod_lt
def YE:=@List.mem_of_mem_take
def YG:=@Go.World.cell?_alloc_lt
def YH:=@Bool.true_and
def YI:=@Bool.or_false
def YL:=@Nat.add_sub_cancel
def YM:=@Bool.false_and
def YN:=@Nat.div_lt_of_lt_mul
def YO:=@Nat.add_mul
def YP:=@List.mem_map
def YQ:=@Int.toNat_natCast
def YS:=@Go.World.cell?_setCells_out
def YT:=@Nat.add_sub_cancel_left
def YU:=@List.getElem_mem
def YV:=@List.drop_drop
def YW:=@Nat.shiftLeft_add_eq_or_of_lt
def YX:=@List.eq_nil_of_length_eq_zero
def YY:=@Nat.xor_lt_two_pow
def YZ:=@Nat.lt_trans
def Y0:=@List.mem_singleton
def Y1:=@List.getElem?_drop
def Y2:=@Go.RowKit.Below.setCell
def Y3:=@Nat.mul_assoc
def Y4:=@List.mem_cons
def Y5:=@ByteArray.size_append
def Y6:=@decide_eq_true_eq
def Y7:=@Prod.ext
def Y8:=@List.drop_eq_nil_iff
def Y9:=@Bool.and_false
def Za:=@List.all_eq_true
def Zb:=@Go.Calls.quiet_of
def Zc:=@List.getD_cons_succ
def Zd:=@Array.getElem?_replicate
def Ze:=@List.nil_append
def Zf:=@List.map_append
def Zg:=@Nat.mod_le
def Zh:=@Nat.lt_of_le_of_lt
def Zi:=@Nat.one_mul
def Zj:=@List.getElem?_replicate
def Zk:=@Nat.mul_comm
def Zm:=@Nat.and_two_pow_sub_one_eq_mod
def Zn:=@BitVec.toNat_and
end
