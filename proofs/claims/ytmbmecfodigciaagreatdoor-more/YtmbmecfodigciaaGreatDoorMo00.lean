import Derived.Test.YtmbmecfodigciaaGreatDoorProg
import Derived.WalkKit
import Derived.WalkSpells
import Derived.WalkLawsBesides
import Derived.Laws.BitsAllLaws
import Derived.BigQuiet
import Derived.Deep.QuietTactic
import Derived.Laws.IdiomCopy
import Derived.Deep.WholeRow
import Derived.Deep.MidRow
import Derived.OpenShut
import Derived.Deep.AppendLies
import Derived.Deep.RegionLaw
/-
 Plain mathematics,no Go: bits and numbers of a list of bytes.
-/
namespace Px
end Px
namespace Go.Proofs.YtmbmecfodigciaaGreatDoor
open Go.RowKit
theorem ret_bool {a b:Bool} (h:a=b):Ending.returned (.bool a) = .returned (.bool b):=by rw[h]
theorem ret_int {k:IntKind} {a b:Int} (h:a=b):Ending.returned (.int k a) = .returned (.int k b):=by rw[h]
theorem val_int {k:IntKind} {a b:Int} (h:a=b):Value.int k a = .int k b:=by rw[h]
theorem val_bool {a b:Bool} (h:a=b):Value.bool a = .bool b:=by rw[h]
abbrev Kept (w w':World):Prop:=Below w.heap.size w w'
theorem Kept.refl (w:World):Kept w w:=Below.refl _ _
theorem Kept.trans {a b c:World} (h:Kept a b) (k:Kept b c):Kept a c:=Below.trans h (k.mono h.size)
theorem Kept.drewN {a w:World} (h:Kept a w) (n:Nat):Kept a (w.drewN n):=below_drewN h n
theorem cell_set_other (w:World) (b k j:Nat) (v:Value) (h:k≠j):(w.setCell ⟨b,k,none⟩ v).cell? ⟨b,j,none⟩=w.cell? ⟨b,j,none⟩ :=
 World.cell?_setCell_other _ _ _ _ (by intro e;apply h;injection e)
theorem cell_set_same {w:World} {a:Addr} {u:Value} (h:w.cell? a=some u) (v:Value):(w.setCell a v).cell? a=some v:=World.cell?_setCell_same _ _ _ h
structure Fr (S:Nat→Prop) (w w':World):Prop where
 os:w'.os=w.os
 tape:w'.tape=w.tape
 output:w'.output=w.output
 size:w.heap.size≤w'.heap.size
 block:∀ k,k<w.heap.size→¬ S k→w'.heap[k]? = w.heap[k]?
theorem Fr.refl (S:Nat→Prop) (w:World):Fr S w w:=⟨rfl,rfl,rfl,Nat.le_refl _,fun _ _ _=>rfl⟩
theorem Fr.trans {S:Nat→Prop} {x y z:World} (h:Fr S x y) (k:Fr S y z):Fr S x z:=
 ⟨k.os.trans h.os,k.tape.trans h.tape,k.output.trans h.output,Nat.le_trans h.size k.size,fun i hi hn=>(k.block i (Nat.lt_of_lt_of_le hi h.size) hn).trans (h.block i hi hn)⟩
theorem Fr.trans' {S T:Nat→Prop} {x y z:World} (h:Fr S x y) (k:Fr T y z) (hT:∀ i,i<x.heap.size→T i→S i):Fr S x z:=
 ⟨k.os.trans h.os,k.tape.trans h.tape,k.output.trans h.output,Nat.le_trans h.size k.size,fun i hi hn=>(k.block i (Nat.lt_of_lt_of_le hi h.size) (fun t=>hn (hT i hi t))).trans (h.block i hi hn)⟩
theorem Fr.mono {S T:Nat→Prop} {x y:World} (h:Fr S x y) (hT:∀ i,i<x.heap.size→S i→T i):Fr T x y:=
 ⟨h.os,h.tape,h.output,h.size,fun i hi hn=>h.block i hi (fun s=>hn (hT i hi s))⟩
theorem Fr.of_kept {S:Nat→Prop} {x y:World} (k:Kept x y):Fr S x y:=⟨k.os,k.tape,k.output,k.size,fun i hi _=>k.block i hi⟩
theorem Fr.kept {S:Nat→Prop} {x y z:World} (h:Fr S x y) (k:Kept y z):Fr S x z:=h.trans (Fr.of_kept k)
theorem Fr.setCell {S:Nat→Prop} {x y:World} (h:Fr S x y) {b:Nat} (hb:S b∨x.heap.size≤b) (k:Nat) (v:Value):Fr S x (y.setCell ⟨b,k,none⟩ v) :=
 ⟨h.os,h.tape,h.output,by simpa [World.setCell] using h.size,fun i hi hn=>(Below.heap_setCell _ _ _ _ (by rintro rfl;rcases hb with hb | hb;exact hn hb;exact absurd hi (Nat.not_lt.2 hb))).trans (h.block i hi hn)⟩
theorem Fr.drewN {S:Nat→Prop} {x y:World} (h:Fr S x y) (n:Nat):Fr S x (y.drewN n):=h.kept ((Kept.refl _).drewN n)
theorem Fr.alloc {S:Nat→Prop} {x y:World} (h:Fr S x y) (o:Obj):Fr S x (y.alloc o):=h.kept ((Below.refl _ _).alloc (Nat.le_refl _) o)
theorem Fr.to_kept {S:Nat→Prop} {x y z:World} (h:Kept x y) (k:Fr S y z) (hS:∀ i,i<x.heap.size→¬ S i):Kept x z:=
 ⟨k.os.trans h.os,k.tape.trans h.tape,k.output.trans h.output,Nat.le_trans h.size k.size,fun i hi=>(k.block i (Nat.lt_of_lt_of_le hi h.size) (hS i hi)).trans (h.block i hi)⟩
theorem Fr.cell {S:Nat→Prop} {w w':World} (h:Fr S w w') {c k:Nat} (hc:c<w.heap.size) (hn:¬ S c):w'.cell? ⟨c,k,none⟩=w.cell? ⟨c,k,none⟩:=World.cell?_of_block (w:=w) (h.block c hc hn)
theorem Fr.frozen {S:Nat→Prop} {w w':World} (h:Fr S w w') {c k:Nat} (hc:c<w.heap.size) (hn:¬ S c):w'.frozen? ⟨c,k,none⟩=w.frozen? ⟨c,k,none⟩:=World.frozen?_of_block (w:=w) (h.block c hc hn)
abbrev Fr1 (b:Nat):World→World→Prop:=Fr (fun k=>k=b)
theorem Fr1.refl (b:Nat) (w:World):Fr1 b w w:=Fr.refl _ _
theorem Fr1.set {b:Nat} {x y:World} (h:Fr1 b x y) (k:Nat) (v:Value):Fr1 b x (y.setCell ⟨b,k,none⟩ v):=Fr.setCell h (Or.inl rfl) k v
theorem Fr1.drewN {b:Nat} {x y:World} (h:Fr1 b x y) (n:Nat):Fr1 b x (y.drewN n):=Fr.drewN h n
theorem ofInt_64 (a:Nat) (ha:a<4294967296):(BitVec.ofInt 64 (a:Int)).toNat=a:=by
 rw[BitVec.ofInt_natCast,BitVec.toNat_ofNat];exact Nat.mod_eq_of_lt (by omega)
theorem i64_and_nat (a b:Nat) (ha:a<4294967296) (hb:b<4294967296):bits .and .i64 (a:Int) (b:Int)=((a &&& b:Nat):Int):=by
 have hx:a &&& b<2^32:=Nat.and_lt_two_pow _ (by omega)
 show IntKind.i64.wrap ((BitVec.ofInt 64 (a:Int) &&& BitVec.ofInt 64 (b:Int)).toNat:Int)=_
 rw[BitVec.toNat_and,ofInt_64 a ha,ofInt_64 b hb,IntKind.wrap_i64]
 omega
theorem i64_xor_nat (a b:Nat) (ha:a<4294967296) (hb:b<4294967296):bits .xor .i64 (a:Int) (b:Int)=((a ^^^ b:Nat):Int):=by
 have hx:a ^^^ b<2^32:=Nat.xor_lt_two_pow (by omega) (by omega)
 show IntKind.i64.wrap ((BitVec.ofInt 64 (a:Int) ^^^ BitVec.ofInt 64 (b:Int)).toNat:Int)=_
 rw[BitVec.toNat_xor,ofInt_64 a ha,ofInt_64 b hb,IntKind.wrap_i64]
 omega
set_option linter.unusedSimpArgs false
set_option linter.unusedVariables false
def sliceBlock:Value→Option Nat
 | .slice (some a) _ _=>some a.block
 | _=>none
theorem info_parts' {P:Program} {E:TypeId} {z:Value} {s b:Nat} (h:(P.info? E).map (fun i=>(i.zero,i.size,i.bytes))=some (some z,s,b)):∃ i,P.info? E=some i∧i.zero=some z∧i.size=s∧i.bytes=b:=by
 cases hq:P.info? E with
 | none=>simp [hq] at h
 | some i=>simp [hq] at h;exact ⟨i,rfl,h.1,h.2.1,h.2.2⟩
theorem own_base {w:World} {base base':Nat} {e:TypeId} {size:Nat} {v:Value} {n:Nat} {xs:List Value} (h:w.ownsRow base e size v n xs) (hb:base'≤base):w.ownsRow base' e size v n xs:=by
 obtain ⟨h1,h2⟩:=h
 refine ⟨h1,?_⟩
 rcases h2 with h2 | ⟨g,cap,cur,hv,hg,r⟩
 ·exact Or.inl h2
 ·exact Or.inr ⟨g,cap,cur,hv,by omega,r⟩
theorem own_kept {w W:World} {base:Nat} {e:TypeId} {size:Nat} {v:Value} {n:Nat} {xs:List Value} (h:w.ownsRow base e size v n xs) (k:Kept w W):W.ownsRow base e size v n xs:=
 h.kept (row:=none) ⟨k.os,k.tape,k.output,k.size,fun j hj _=>k.block j hj⟩ (by cases hv:v.ownBlock;exact Or.inl rfl;exact Or.inr (by simp))
theorem own_slice {w:World} {base:Nat} {e:TypeId} {size:Nat} {v:Value} {n:Nat} {xs:List Value} (h:w.ownsRow base e size v n xs):∃ p c,v = .slice p n c:=by
 rcases h.2 with ⟨hv,h0⟩ | ⟨g,cap,cur,hv,hg,r⟩
 ·exact ⟨none,0,by rw[hv,h0]⟩
 ·exact ⟨_,_,hv⟩
theorem sliceBlock_own (v:Value) {w:World} {base:Nat} {e:TypeId} {size n:Nat} {xs:List Value} (h:w.ownsRow base e size v n xs):sliceBlock v=v.ownBlock:=by
 rcases h.2 with ⟨hv,h0⟩ | ⟨g',cap,cur,hv,hg',r⟩<;>rw[hv]<;>rfl
theorem append_own (w:World) {ops:Array Oper} {rest:List Oper} {o:Oper} {a:Act} {Q:Exit→Act→World→Prop}
  (T T2 E:TypeId) (size bytes:Nat) (zero:Value) (hT:Tryz.prog.underlying T=some (.slice E)) (hI:(Tryz.prog.info? E).map (fun i=>(i.zero,i.size,i.bytes))=some (some zero,size,bytes)) (hzc:zero.cells.size=size) (hpos:0<size)
  (hg:o.guard=none) (s x:Operand) (hop:o.op=Op.call { callee:=Callee.builtin Builtin.append,args:=#[s,x],argTypes:=#[T,T2] })
  (base:Nat) (v:Value) (n:Nat) (xs:List Value) (hs:a.eval s=v) (hown:w.ownsRow base E size v n xs)
  (ad:Addr) (m c:Nat) (news:List Value) (hx:a.eval x = .slice (some ad) m c) (hn:news.length=m*size) (hm:0<m)
  (hc:∀ j u,news[j]? = some u→w.cell? (ad.add j)=some u) (h1c:∀ u ∈ news,u.oneCell'=true) (hml:n+m≤maxLen) (hb:(n+m)*bytes≤140737488355328) (hbase:base≤w.heap.size)
  (hK:∀ v' w',w'.ownsRow base E size v' (n+m) (xs++news)→w.grownBy w' v.ownBlock→(∀ k,v'.ownBlock=some k→v.ownBlock=some k∨w.heap.size≤k)→wpList Tryz.prog ops Q rest (a.put o.dst v') w') (hTT:T2=T) :
  wpList Tryz.prog ops Q (o::rest) a w:=by
 subst hTT
 obtain ⟨i0,hi,hz0,hz1,hz2⟩:=info_parts' hI
 have fin:∀ v' w',w'.ownsRow w.heap.size E size v' (n+m) (xs++news)→w.grownBy w' none→wpList Tryz.prog ops Q rest (a.put o.dst v') w':=by
  intro v' w' h1 h2
  refine hK v' w' (own_base h1 hbase) ⟨h2.os,h2.tape,h2.output,h2.size,fun k hk _=>h2.block k hk (by simp)⟩ (fun k hk=>Or.inr ((h1.lt k hk).1))
 rcases hown.2 with ⟨rfl,h0⟩ | ⟨g,cap,cur,rfl,hgb,hh,hnc,hcm,hcs,htk⟩
 ·subst h0
  have hx0:xs=[]:=List.eq_nil_of_length_eq_zero (by simpa using hown.1)
  subst hx0
  exact wpList_append_grows w hg s x T2 hop E i0 zero size bytes hT hi hz0 hz1 hz2 hzc hpos none 0 0 [] hs (fun _=>⟨rfl,rfl⟩) (by simp) (fun b hb=>by cases hb) ad m c news hx hn hc h1c (by omega) hml hb fin
 ·by_cases hf:n+m≤cap
  ·refine wpList_append_fits w hg s x T2 hop base E i0 size hT hi hz1 g n cap xs hs hown ad m c news hx hn hc h1c hf ?_
   intro w' h1 h2
   exact hK _ w' h1 h2 (fun k hk=>Or.inl hk)
  ·exact wpList_append_grows w hg s x T2 hop E i0 zero size bytes hT hi hz0 hz1 hz2 hzc hpos (some ⟨g,0,none⟩) n cap xs hs (fun h=>by cases h) hown.1 (fun b hb j u hj=>by cases hb;exact hown.cells rfl j u hj) ad m c news hx hn hc h1c (by omega) hml hb fin
structure LAt (w:World) (k:IntKind) (v:Value) (l:List Int):Prop where
 form:∃ p c,v = .slice p l.length c
 cells:∀ p c,v = .slice p l.length c→∀ i,i<l.length→∃ g o,p=some ⟨g,o,none⟩∧w.cell? ⟨g,o+i,none⟩=some (.int k (l.getD i 0))
theorem LAt.fr {S:Nat→Prop} {w w':World} {k:IntKind} {v:Value} {l:List Int} (h:LAt w k v l) (f:Fr S w w') (hS:∀ g,sliceBlock v=some g→¬ S g):LAt w' k v l:=by
 refine ⟨h.form,?_⟩
 intro p c hv i hi
 obtain ⟨g,o,hp,h1⟩:=h.cells p c hv i hi
 have hg:sliceBlock v=some g:=by rw[hv,hp];rfl
 have hlt:g<w.heap.size:=World.block_lt_of_cell? _ _ h1
 exact ⟨g,o,hp,(f.cell hlt (hS g hg)).trans h1⟩
theorem LAt.kept {w w':World} {k:IntKind} {v:Value} {l:List Int} (h:LAt w k v l) (f:Kept w w'):LAt w' k v l:=h.fr (S:=fun _=>False) ⟨f.os,f.tape,f.output,f.size,fun i hi _=>f.block i hi⟩ (fun _ _ h=>h)
theorem LAt.addr {w:World} {k:IntKind} {v:Value} {l:List Int} (h:LAt w k v l) (h0:0<l.length):∃ g o c,v = .slice (some ⟨g,o,none⟩) l.length c∧∀ i,i<l.length→w.cell? ⟨g,o+i,none⟩=some (.int k (l.getD i 0)):=by
 obtain ⟨p,c,hv⟩:=h.form
 obtain ⟨g,o,hp,_⟩:=h.cells p c hv 0 h0
 refine ⟨g,o,c,by rw[hv,hp],fun i hi => ?_⟩
 obtain ⟨g',o',hp',h1⟩:=h.cells p c hv i hi
 rw[hp] at hp'
 injection hp' with e
 injection e with e1 e2
 subst e1;subst e2
 exact h1
theorem LAt.nil {w:World} {k:IntKind} {p:Option Addr} {c:Nat}:LAt w k (.slice p 0 c) []:=⟨⟨p,c,rfl⟩,fun _ _ _ i hi=>by simp at hi⟩
theorem LAt.cellAt {w:World} {k:IntKind} {p:Option Addr} {c:Nat} {l:List Int} (h:LAt w k (.slice p l.length c) l) (i:Nat) (hi:i<l.length):∃ g o,p=some ⟨g,o,none⟩∧w.cell? ⟨g,o+i,none⟩=some (.int k (l.getD i 0)):=h.cells p c rfl i hi
theorem own_lat {w:World} {base:Nat} {E:TypeId} {k:IntKind} {v:Value} {l:List Int} (h:w.ownsRow base E 1 v l.length (l.map (Value.int k))):LAt w k v l:=by
 rcases h.2 with ⟨hv,h0⟩ | ⟨g,cap,cur,hv,hg,r⟩
 ·refine ⟨⟨none,0,by rw[hv,h0]⟩,?_⟩
  intro p c _ i hi;omega
 ·refine ⟨⟨_,_,hv⟩,?_⟩
  intro p c hp i hi
  rw[hv] at hp
  injection hp with hp _ _
  refine ⟨g,0,hp.symm,?_⟩
  have:=h.cells (by rw[hv];rfl) i (.int k (l.getD i 0)) (by simp [List.getElem?_map,List.getElem?_eq_getElem hi,List.getD_eq_getElem?_getD])
  have e:(Addr.add ⟨g,0,none⟩ i)=⟨g,0+i,none⟩:=by simp [Addr.add];intro h;exact h.symm
  rw[e] at this;exact this
theorem getD_mem {l:List Int} {i:Nat} (h:i<l.length):l.getD i 0 ∈ l:=by simp [List.getD_eq_getElem?_getD,List.getElem?_eq_getElem h]
def Rng (k:IntKind) (m:Int) (W:World) (b o n:Nat):Prop:=∀ j,j<n→∃ z:Int,0≤z∧z<m∧W.cell? ⟨b,o+j,none⟩=some (.int k z)
theorem ints_one {k:IntKind} {m:Int} {cs:List Value} {n:Nat} (hl:cs.length=n) (h:∀ j,j<n→∃ z:Int,0≤z∧z<m∧cs[j]? = some (.int k z)):∀ v ∈ cs,v.oneCell'=true:=by
 intro v hv
 obtain ⟨j,hj,e⟩:=List.getElem_of_mem hv
 obtain ⟨z,_,_,hz⟩:=h j (by omega)
 rw[List.getElem?_eq_getElem hj] at hz
 injection hz with hz
 rw[← e,hz];rfl
theorem there_set {w:World} {b o n:Nat} (h:w.there b o n) {c k:Nat} (u:Value) (hne:c≠b):(w.setCell ⟨c,k,none⟩ u).there b o n:=by
 intro j hj
 obtain ⟨h1,h2⟩:=h j hj
 exact ⟨by rw[World.cell?_setCell_other _ _ _ _ (by intro e;injection e;omega)];exact h1,by rw[World.frozen?_setCell];exact h2⟩
theorem results_cell1 {P:Program} {fn:Func} {p:Tmp} {ty:TypeId} (h:fn.results=#[.cell p ty]) (tmps:Array Value) (w:World) (b o:Nat) (v:Value)
  (hp:tmps.getD p undef = .pointer (some ⟨b,o,none⟩)) (hl:(loadVar ty ⟨b,o,none⟩).run P w = .ok v w):(results fn tmps).run P w = .ok v w:=by
 have hp':tmps[p]?.getD undef = .pointer (some ⟨b,o,none⟩):=by simpa using hp
 simp [results,h,hp',asAddr,Sem.run_bind,Result.andThen,hl]
theorem Fr.setCells {S:Nat→Prop} {x y:World} (h:Fr S x y) {b:Nat} (hb:S b∨x.heap.size≤b):∀ (vs:List Value) (o:Nat) {y:World},Fr S x y→Fr S x (y.setCells b o vs)
 | [],_,_,h=>h
 | v::r,o,_,h=>Fr.setCells (h.setCell hb o v) hb r (o+1) (h.setCell hb o v)
theorem Kept.setCells {x:World} {b:Nat} (hb:x.heap.size≤b):∀ (vs:List Value) (o:Nat) {y:World},Kept x y→Kept x (y.setCells b o vs)
 | [],_,_,h=>h
 | v::r,o,_,h=>Kept.setCells hb r (o+1) (h.setCell hb _)
theorem infoU8:(Tryz.prog.info? 5).map (fun i=>(i.zero,i.size,i.bytes))=some (some (.int .u8 0),1,1):=by kernel_rfl
def isBytes (l:List Int):Prop:=∀ x ∈ l,0≤x∧x<256
theorem isBytes.nil:isBytes []:=fun _ h=>by simp at h
theorem isBytes.app {l m:List Int} (h:isBytes l) (k:isBytes m):isBytes (l++m):=by
 intro y hy;simp at hy;rcases hy with hy | hy
 ·exact h y hy
 ·exact k y hy
def u8s (l:List Int):List Value:=l.map (Value.int .u8)
def Own8 (w:World) (N:Nat) (v:Value) (n:Nat):Prop:=∃ l:List Int,l.length=n∧isBytes l∧w.ownsRow N 5 1 v n (u8s l)
abbrev FrN (x N:Nat):World→World→Prop:=Fr (fun g=>g=x∨N≤g)
def szOf (W:World) (x:Nat):Nat:=match W.cell? ⟨x,2,none⟩ with | some (.int _ v)=>v.toNat | _=>0
end Go.Proofs.YtmbmecfodigciaaGreatDoor
