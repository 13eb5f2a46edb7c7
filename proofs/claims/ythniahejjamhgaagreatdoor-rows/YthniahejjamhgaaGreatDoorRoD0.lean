import Derived.Test.YthniahejjamhgaaGreatDoorProg
import Derived.WalkKit
import Derived.WalkSpells
import Derived.WalkLawsBesides
import Derived.Laws.BitsAllLaws
import Derived.BigQuiet
import Derived.Deep.QuietTactic
import Derived.Laws.IdiomCopy
import Derived.Deep.WholeRow
import Derived.Deep.MidRow
import Derived.OpenShut
import Derived.Deep.AppendLies
import Derived.Deep.RegionLaw
/-
 Plain mathematics,no Go: bits and numbers of a list of bytes.
-/
namespace Px
end Px
namespace Go.Proofs.YthniahejjamhgaaGreatDoor
open Go.RowKit
theorem ret_bool {a b:Bool} (h:a=b):Ending.returned (.bool a) = .returned (.bool b):=by rw[h]
theorem ret_int {k:IntKind} {a b:Int} (h:a=b):Ending.returned (.int k a) = .returned (.int k b):=by rw[h]
theorem val_int {k:IntKind} {a b:Int} (h:a=b):Value.int k a = .int k b:=by rw[h]
theorem val_bool {a b:Bool} (h:a=b):Value.bool a = .bool b:=by rw[h]
abbrev Kept (w w':World):Prop:=Below w.heap.size w w'
theorem Kept.refl (w:World):Kept w w:=Below.refl _ _
theorem Kept.trans {a b c:World} (h:Kept a b) (k:Kept b c):Kept a c:=Below.trans h (k.mono h.size)
theorem Kept.drewN {a w:World} (h:Kept a w) (n:Nat):Kept a (w.drewN n):=below_drewN h n
theorem cell_set_other (w:World) (b k j:Nat) (v:Value) (h:k≠j):(w.setCell ⟨b,k,none⟩ v).cell? ⟨b,j,none⟩=w.cell? ⟨b,j,none⟩ :=
 World.cell?_setCell_other _ _ _ _ (by intro e;apply h;injection e)
theorem cell_set_same {w:World} {a:Addr} {u:Value} (h:w.cell? a=some u) (v:Value):(w.setCell a v).cell? a=some v:=World.cell?_setCell_same _ _ _ h
structure Fr (S:Nat->Prop) (w w':World):Prop where
 os:w'.os=w.os
 tape:w'.tape=w.tape
 output:w'.output=w.output
 size:w.heap.size<=w'.heap.size
 block:∀ k,k<w.heap.size->¬ S k->w'.heap[k]? = w.heap[k]?
theorem Fr.refl (S:Nat->Prop) (w:World):Fr S w w:=⟨rfl,rfl,rfl,Nat.le_refl _,fun _ _ _=>rfl⟩
theorem Fr.trans {S:Nat->Prop} {x y z:World} (h:Fr S x y) (k:Fr S y z):Fr S x z:=
 ⟨k.os.trans h.os,k.tape.trans h.tape,k.output.trans h.output,Nat.le_trans h.size k.size,fun i hi hn=>(k.block i (Nat.lt_of_lt_of_le hi h.size) hn).trans (h.block i hi hn)⟩
theorem Fr.trans' {S T:Nat->Prop} {x y z:World} (h:Fr S x y) (k:Fr T y z) (hT:∀ i,i<x.heap.size->T i->S i):Fr S x z:=
 ⟨k.os.trans h.os,k.tape.trans h.tape,k.output.trans h.output,Nat.le_trans h.size k.size,fun i hi hn=>(k.block i (Nat.lt_of_lt_of_le hi h.size) (fun t=>hn (hT i hi t))).trans (h.block i hi hn)⟩
theorem Fr.mono {S T:Nat->Prop} {x y:World} (h:Fr S x y) (hT:∀ i,i<x.heap.size->S i->T i):Fr T x y:=
 ⟨h.os,h.tape,h.output,h.size,fun i hi hn=>h.block i hi (fun s=>hn (hT i hi s))⟩
theorem Fr.of_kept {S:Nat->Prop} {x y:World} (k:Kept x y):Fr S x y:=⟨k.os,k.tape,k.output,k.size,fun i hi _=>k.block i hi⟩
theorem Fr.kept {S:Nat->Prop} {x y z:World} (h:Fr S x y) (k:Kept y z):Fr S x z:=h.trans (Fr.of_kept k)
theorem Fr.setCell {S:Nat->Prop} {x y:World} (h:Fr S x y) {b:Nat} (hb:S b\/x.heap.size<=b) (k:Nat) (v:Value):Fr S x (y.setCell ⟨b,k,none⟩ v) :=
 ⟨h.os,h.tape,h.output,by simpa [World.setCell] using h.size,fun i hi hn=>(Below.heap_setCell _ _ _ _ (by rintro rfl;rcases hb with hb | hb;exact hn hb;exact absurd hi (Nat.not_lt.2 hb))).trans (h.block i hi hn)⟩
theorem Fr.drewN {S:Nat->Prop} {x y:World} (h:Fr S x y) (n:Nat):Fr S x (y.drewN n):=h.kept ((Kept.refl _).drewN n)
theorem Fr.alloc {S:Nat->Prop} {x y:World} (h:Fr S x y) (o:Obj):Fr S x (y.alloc o):=h.kept ((Below.refl _ _).alloc (Nat.le_refl _) o)
theorem Fr.grown {S:Nat->Prop} {x y z:World} (h:Fr S x y) {row:Option Nat} (hg:y.grownBy z row) (hr:∀ k,row=some k->S k\/x.heap.size<=k):Fr S x z:=
 ⟨hg.os.trans h.os,hg.tape.trans h.tape,hg.output.trans h.output,Nat.le_trans h.size hg.size,fun i hi hn=>(hg.block i (Nat.lt_of_lt_of_le hi h.size) (fun e=>by rcases hr i e.symm with q | q;exact hn q;omega)).trans (h.block i hi hn)⟩
theorem Fr.to_kept {S:Nat->Prop} {x y z:World} (h:Kept x y) (k:Fr S y z) (hS:∀ i,i<x.heap.size->¬ S i):Kept x z:=
 ⟨k.os.trans h.os,k.tape.trans h.tape,k.output.trans h.output,Nat.le_trans h.size k.size,fun i hi=>(k.block i (Nat.lt_of_lt_of_le hi h.size) (hS i hi)).trans (h.block i hi)⟩
theorem Fr.cell {S:Nat->Prop} {w w':World} (h:Fr S w w') {c k:Nat} (hc:c<w.heap.size) (hn:¬ S c):w'.cell? ⟨c,k,none⟩=w.cell? ⟨c,k,none⟩:=World.cell?_of_block (w:=w) (h.block c hc hn)
theorem Fr.frozen {S:Nat->Prop} {w w':World} (h:Fr S w w') {c k:Nat} (hc:c<w.heap.size) (hn:¬ S c):w'.frozen? ⟨c,k,none⟩=w.frozen? ⟨c,k,none⟩:=World.frozen?_of_block (w:=w) (h.block c hc hn)
abbrev Fr1 (b:Nat):World->World->Prop:=Fr (fun k=>k=b)
theorem Fr1.refl (b:Nat) (w:World):Fr1 b w w:=Fr.refl _ _
theorem Fr1.set {b:Nat} {x y:World} (h:Fr1 b x y) (k:Nat) (v:Value):Fr1 b x (y.setCell ⟨b,k,none⟩ v):=Fr.setCell h (Or.inl rfl) k v
theorem Fr1.drewN {b:Nat} {x y:World} (h:Fr1 b x y) (n:Nat):Fr1 b x (y.drewN n):=Fr.drewN h n
theorem ofInt_64 (a:Nat) (ha:a<4294967296):(BitVec.ofInt 64 (a:Int)).toNat=a:=by
 rw[BitVec.ofInt_natCast,BitVec.toNat_ofNat];exact Nat.mod_eq_of_lt (by omega)
set_option linter.unusedSimpArgs false
set_option linter.unusedVariables false
def sliceBlock:Value->Option Nat
 | .slice (some a) _ _=>some a.block
 | _=>none
theorem info_parts' {P:Program} {E:TypeId} {z:Value} {s b:Nat} (h:(P.info? E).map (fun i=>(i.zero,i.size,i.bytes))=some (some z,s,b)):∃ i,P.info? E=some i/\i.zero=some z/\i.size=s/\i.bytes=b:=by
 cases hq:P.info? E with
 | none=>simp [hq] at h
 | some i=>simp [hq] at h;exact ⟨i,rfl,h.1,h.2.1,h.2.2⟩
theorem own_base {w:World} {base base':Nat} {e:TypeId} {size:Nat} {v:Value} {n:Nat} {xs:List Value} (h:w.ownsRow base e size v n xs) (hb:base'<=base):w.ownsRow base' e size v n xs:=by
 obtain ⟨h1,h2⟩:=h;refine ⟨h1,?_⟩;rcases h2 with h2 | ⟨g,cap,cur,hv,hg,r⟩
 ·exact Or.inl h2
 ·exact Or.inr ⟨g,cap,cur,hv,by omega,r⟩
theorem own_kept {w W:World} {base:Nat} {e:TypeId} {size:Nat} {v:Value} {n:Nat} {xs:List Value} (h:w.ownsRow base e size v n xs) (k:Kept w W):W.ownsRow base e size v n xs:=
 h.kept (row:=none) ⟨k.os,k.tape,k.output,k.size,fun j hj _=>k.block j hj⟩ (by cases hv:v.ownBlock;exact Or.inl rfl;exact Or.inr (by simp))
theorem own_slice {w:World} {base:Nat} {e:TypeId} {size:Nat} {v:Value} {n:Nat} {xs:List Value} (h:w.ownsRow base e size v n xs):∃ p c,v = .slice p n c:=by
 rcases h.2 with ⟨hv,h0⟩ | ⟨g,cap,cur,hv,hg,r⟩
 ·exact ⟨none,0,by rw[hv,h0]⟩
 ·exact ⟨_,_,hv⟩
theorem sliceBlock_own (v:Value) {w:World} {base:Nat} {e:TypeId} {size n:Nat} {xs:List Value} (h:w.ownsRow base e size v n xs):sliceBlock v=v.ownBlock:=by
 rcases h.2 with ⟨hv,h0⟩ | ⟨g',cap,cur,hv,hg',r⟩<;>rw[hv]<;>rfl
theorem append_own (w:World) {ops:Array Oper} {rest:List Oper} {o:Oper} {a:Act} {Q:Exit->Act->World->Prop}
  (T T2 E:TypeId) (size bytes:Nat) (zero:Value) (hT:Tryz.prog.underlying T=some (.slice E)) (hI:(Tryz.prog.info? E).map (fun i=>(i.zero,i.size,i.bytes))=some (some zero,size,bytes)) (hzc:zero.cells.size=size) (hpos:0<size)
  (hg:o.guard=none) (s x:Operand) (hop:o.op=Op.call { callee:=Callee.builtin Builtin.append,args:=#[s,x],argTypes:=#[T,T2] })
  (base:Nat) (v:Value) (n:Nat) (xs:List Value) (hs:a.eval s=v) (hown:w.ownsRow base E size v n xs)
  (ad:Addr) (m c:Nat) (news:List Value) (hx:a.eval x = .slice (some ad) m c) (hn:news.length=m*size) (hm:0<m)
  (hc:∀ j u,news[j]? = some u->w.cell? (ad.add j)=some u) (h1c:∀ u ∈ news,u.oneCell'=true) (hml:n+m<=maxLen) (hb:(n+m)*bytes<=140737488355328) (hbase:base<=w.heap.size)
  (hK:∀ v' w',w'.ownsRow base E size v' (n+m) (xs++news)->w.grownBy w' v.ownBlock->(∀ k,v'.ownBlock=some k->v.ownBlock=some k\/w.heap.size<=k)->wpList Tryz.prog ops Q rest (a.put o.dst v') w') (hTT:T2=T) :
  wpList Tryz.prog ops Q (o::rest) a w:=by
 subst hTT;obtain ⟨i0,hi,hz0,hz1,hz2⟩:=info_parts' hI;have fin:∀ v' w',w'.ownsRow w.heap.size E size v' (n+m) (xs++news)->w.grownBy w' none->wpList Tryz.prog ops Q rest (a.put o.dst v') w':=by
  intro v' w' h1 h2;refine hK v' w' (own_base h1 hbase) ⟨h2.os,h2.tape,h2.output,h2.size,fun k hk _=>h2.block k hk (by simp)⟩ (fun k hk=>Or.inr ((h1.lt k hk).1))
 rcases hown.2 with ⟨rfl,h0⟩ | ⟨g,cap,cur,rfl,hgb,hh,hnc,hcm,hcs,htk⟩
 ·subst h0
  have hx0:xs=[]:=List.eq_nil_of_length_eq_zero (by simpa using hown.1);subst hx0;exact wpList_append_grows w hg s x T2 hop E i0 zero size bytes hT hi hz0 hz1 hz2 hzc hpos none 0 0 [] hs (fun _=>⟨rfl,rfl⟩) (by simp) (fun b hb=>by cases hb) ad m c news hx hn hc h1c (by omega) hml hb fin
 ·by_cases hf:n+m<=cap
  ·refine wpList_append_fits w hg s x T2 hop base E i0 size hT hi hz1 g n cap xs hs hown ad m c news hx hn hc h1c hf ?_
   intro w' h1 h2;exact hK _ w' h1 h2 (fun k hk=>Or.inl hk)
  ·exact wpList_append_grows w hg s x T2 hop E i0 zero size bytes hT hi hz0 hz1 hz2 hzc hpos (some ⟨g,0,none⟩) n cap xs hs (fun h=>by cases h) hown.1 (fun b hb j u hj=>by cases hb;exact hown.cells rfl j u hj) ad m c news hx hn hc h1c (by omega) hml hb fin
structure LAt (w:World) (k:IntKind) (v:Value) (l:List Int):Prop where
 form:∃ p c,v = .slice p l.length c
 cells:∀ p c,v = .slice p l.length c->∀ i,i<l.length->∃ g o,p=some ⟨g,o,none⟩/\w.cell? ⟨g,o+i,none⟩=some (.int k (l.getD i 0))
theorem LAt.fr {S:Nat->Prop} {w w':World} {k:IntKind} {v:Value} {l:List Int} (h:LAt w k v l) (f:Fr S w w') (hS:∀ g,sliceBlock v=some g->¬ S g):LAt w' k v l:=by
 refine ⟨h.form,?_⟩;intro p c hv i hi;obtain ⟨g,o,hp,h1⟩:=h.cells p c hv i hi;have hg:sliceBlock v=some g:=by rw[hv,hp];rfl
 have hlt:g<w.heap.size:=World.block_lt_of_cell? _ _ h1;exact ⟨g,o,hp,(f.cell hlt (hS g hg)).trans h1⟩
theorem LAt.kept {w w':World} {k:IntKind} {v:Value} {l:List Int} (h:LAt w k v l) (f:Kept w w'):LAt w' k v l:=h.fr (S:=fun _=>False) ⟨f.os,f.tape,f.output,f.size,fun i hi _=>f.block i hi⟩ (fun _ _ h=>h)
theorem LAt.addr {w:World} {k:IntKind} {v:Value} {l:List Int} (h:LAt w k v l) (h0:0<l.length):∃ g o c,v = .slice (some ⟨g,o,none⟩) l.length c/\∀ i,i<l.length->w.cell? ⟨g,o+i,none⟩=some (.int k (l.getD i 0)):=by
 obtain ⟨p,c,hv⟩:=h.form;obtain ⟨g,o,hp,_⟩:=h.cells p c hv 0 h0;refine ⟨g,o,c,by rw[hv,hp],fun i hi => ?_⟩;obtain ⟨g',o',hp',h1⟩:=h.cells p c hv i hi;rw[hp] at hp'
 injection hp' with e
 injection e with e1 e2
 subst e1;subst e2;exact h1
theorem LAt.nil {w:World} {k:IntKind} {p:Option Addr} {c:Nat}:LAt w k (.slice p 0 c) []:=⟨⟨p,c,rfl⟩,fun _ _ _ i hi=>by simp at hi⟩
theorem LAt.cellAt {w:World} {k:IntKind} {p:Option Addr} {c:Nat} {l:List Int} (h:LAt w k (.slice p l.length c) l) (i:Nat) (hi:i<l.length):∃ g o,p=some ⟨g,o,none⟩/\w.cell? ⟨g,o+i,none⟩=some (.int k (l.getD i 0)):=h.cells p c rfl i hi
theorem own_lat {w:World} {base:Nat} {E:TypeId} {k:IntKind} {v:Value} {l:List Int} (h:w.ownsRow base E 1 v l.length (l.map (Value.int k))):LAt w k v l:=by
 rcases h.2 with ⟨hv,h0⟩ | ⟨g,cap,cur,hv,hg,r⟩
 ·refine ⟨⟨none,0,by rw[hv,h0]⟩,?_⟩
  intro p c _ i hi;omega
 ·refine ⟨⟨_,_,hv⟩,?_⟩
  intro p c hp i hi;rw[hv] at hp
  injection hp with hp _ _
  refine ⟨g,0,hp.symm,?_⟩
  have:=h.cells (by rw[hv];rfl) i (.int k (l.getD i 0)) (by simp [List.getElem?_map,List.getElem?_eq_getElem hi,List.getD_eq_getElem?_getD])
  have e:(Addr.add ⟨g,0,none⟩ i)=⟨g,0+i,none⟩:=by simp [Addr.add];intro h;exact h.symm
  rw[e] at this;exact this
theorem getD_mem {l:List Int} {i:Nat} (h:i<l.length):l.getD i 0 ∈ l:=by simp [List.getD_eq_getElem?_getD,List.getElem?_eq_getElem h]
def Rng (k:IntKind) (m:Int) (W:World) (b o n:Nat):Prop:=∀ j,j<n->∃ z:Int,0<=z/\z<m/\W.cell? ⟨b,o+j,none⟩=some (.int k z)
theorem Rng.fr {k:IntKind} {m:Int} {w W:World} {b o n:Nat} (h:Rng k m w b o n) (f:∀ j,o<=j->j<o+n->W.cell? ⟨b,j,none⟩=w.cell? ⟨b,j,none⟩):Rng k m W b o n:=by
 intro j hj;obtain ⟨z,a,c,d⟩:=h j hj;exact ⟨z,a,c,(f _ (by omega) (by omega)).trans d⟩
theorem Rng.kept {k:IntKind} {m:Int} {w W:World} {b o n:Nat} (h:Rng k m w b o n) (f:Kept w W):Rng k m W b o n:=by
 intro j hj;obtain ⟨z,a,c,d⟩:=h j hj;exact ⟨z,a,c,(f.cell (p:=⟨b,o+j,none⟩) (World.block_lt_of_cell? _ _ d)).trans d⟩
theorem Rng.set {k:IntKind} {m:Int} {W:World} {b o n:Nat} (h:Rng k m W b o n) (i:Nat) (z:Int) (h0:0<=z) (h1:z<m):Rng k m (W.setCell ⟨b,i,none⟩ (.int k z)) b o n:=by
 intro j hj;obtain ⟨y,a,c,d⟩:=h j hj;by_cases e:i=o+j
 ·subst e;exact ⟨z,h0,h1,cell_set_same d _⟩
 ·exact ⟨y,a,c,(cell_set_other _ _ _ _ _ e).trans d⟩
theorem Rng.list {k:IntKind} {m:Int} {W:World} {b o:Nat}:∀ {n:Nat},Rng k m W b o n->∃ cs:List Value,cs.length=n/\W.rangeAt b o cs/\∀ j,j<n->∃ z:Int,0<=z/\z<m/\cs[j]? = some (.int k z)
 | 0,_=>⟨[],rfl,fun j v h=>by simp at h,fun j h=>by omega⟩
 | n+1,h=>by
  obtain ⟨cs,h1,h2,h3⟩:=Rng.list (n:=n) (fun j hj=>h j (by omega));obtain ⟨z,a,c,d⟩:=h n (by omega);refine ⟨cs++[.int k z],by simp [h1],?_,?_⟩
  ·intro j v hv
   by_cases hj:j<n
   ·rw[List.getElem?_append_left (by omega)] at hv;exact h2 j v hv
   ·have hj2:j=n:=by
     have:=(List.getElem?_eq_some_iff.1 hv).1
     simp [h1] at this;omega
    subst hj2;rw[List.getElem?_append_right (by omega)] at hv;simp [h1] at hv
    rw[<- hv];exact d
  ·intro j hj
   by_cases hj2:j<n
   ·rw[List.getElem?_append_left (by omega)];exact h3 j hj2
   ·have:j=n:=by omega
    subst this;rw[List.getElem?_append_right (by omega)];exact ⟨z,a,c,by simp [h1]⟩
theorem ints_one {k:IntKind} {m:Int} {cs:List Value} {n:Nat} (hl:cs.length=n) (h:∀ j,j<n->∃ z:Int,0<=z/\z<m/\cs[j]? = some (.int k z)):∀ v ∈ cs,v.oneCell'=true:=by
 intro v hv;obtain ⟨j,hj,e⟩:=List.getElem_of_mem hv;obtain ⟨z,_,_,hz⟩:=h j (by omega);rw[List.getElem?_eq_getElem hj] at hz
 injection hz with hz
 rw[<- e,hz];rfl
theorem Rng.of_range {k:IntKind} {m:Int} {W:World} {b o n:Nat} {cs:List Value} (hr:W.rangeAt b o cs) (h:∀ j,j<n->∃ z:Int,0<=z/\z<m/\cs[j]? = some (.int k z)):Rng k m W b o n:=by
 intro j hj;obtain ⟨z,a,c,d⟩:=h j hj;exact ⟨z,a,c,hr j _ d⟩
theorem there_kept {w W:World} {b o n:Nat} (h:w.there b o n) (f:Kept w W):W.there b o n:=by
 intro j hj;obtain ⟨h1,h2⟩:=h j hj;obtain ⟨u,hu⟩:=Option.isSome_iff_exists.1 h1;have hb:=World.block_lt_of_cell? _ _ hu;exact ⟨by rw[f.cell (p:=⟨b,o+j,none⟩) hb];exact h1,by rw[f.frozen (p:=⟨b,o+j,none⟩) hb];exact h2⟩
theorem there_set {w:World} {b o n:Nat} (h:w.there b o n) {c k:Nat} (u:Value) (hne:c≠b):(w.setCell ⟨c,k,none⟩ u).there b o n:=by
 intro j hj;obtain ⟨h1,h2⟩:=h j hj;exact ⟨by rw[World.cell?_setCell_other _ _ _ _ (by intro e;injection e;omega)];exact h1,by rw[World.frozen?_setCell];exact h2⟩
theorem results_cell1 {P:Program} {fn:Func} {p:Tmp} {ty:TypeId} (h:fn.results=#[.cell p ty]) (tmps:Array Value) (w:World) (b o:Nat) (v:Value)
  (hp:tmps.getD p undef = .pointer (some ⟨b,o,none⟩)) (hl:(loadVar ty ⟨b,o,none⟩).run P w = .ok v w):(results fn tmps).run P w = .ok v w:=by
 have hp':tmps[p]?.getD undef = .pointer (some ⟨b,o,none⟩):=by simpa using hp
 simp [results,h,hp',asAddr,Sem.run_bind,Result.andThen,hl]
theorem Fr.setCells {S:Nat->Prop} {x y:World} (h:Fr S x y) {b:Nat} (hb:S b\/x.heap.size<=b):∀ (vs:List Value) (o:Nat) {y:World},Fr S x y->Fr S x (y.setCells b o vs)
 | [],_,_,h=>h
 | v::r,o,_,h=>Fr.setCells (h.setCell hb o v) hb r (o+1) (h.setCell hb o v)
theorem Kept.setCells {x:World} {b:Nat} (hb:x.heap.size<=b):∀ (vs:List Value) (o:Nat) {y:World},Kept x y->Kept x (y.setCells b o vs)
 | [],_,_,h=>h
 | v::r,o,_,h=>Kept.setCells hb r (o+1) (h.setCell hb _)
theorem infoU8:(Tryz.prog.info? 5).map (fun i=>(i.zero,i.size,i.bytes))=some (some (.int .u8 0),1,1):=by kernel_rfl
def isBytes (l:List Int):Prop:=∀ x ∈ l,0<=x/\x<256
theorem isBytes.snoc {l:List Int} {x:Int} (h:isBytes l) (h0:0<=x) (h1:x<256):isBytes (l++[x]):=by
 intro y hy;simp at hy;rcases hy with hy | rfl
 ·exact h y hy
 ·exact ⟨h0,h1⟩
theorem isBytes.nil:isBytes []:=fun _ h=>by simp at h
theorem isBytes.app {l m:List Int} (h:isBytes l) (k:isBytes m):isBytes (l++m):=by
 intro y hy;simp at hy;rcases hy with hy | hy
 ·exact h y hy
 ·exact k y hy
def u8s (l:List Int):List Value:=l.map (Value.int .u8)
def Own8 (w:World) (N:Nat) (v:Value) (n:Nat):Prop:=∃ l:List Int,l.length=n/\isBytes l/\w.ownsRow N 5 1 v n (u8s l)
theorem Own8.slice {w:World} {N:Nat} {v:Value} {n:Nat} (h:Own8 w N v n):∃ p c,v = .slice p n c:=by
 obtain ⟨l,_,_,h⟩:=h;exact own_slice h
theorem Own8.kept {w W:World} {N:Nat} {v:Value} {n:Nat} (h:Own8 w N v n) (k:Kept w W):Own8 W N v n:=by
 obtain ⟨l,h1,h2,h3⟩:=h;exact ⟨l,h1,h2,own_kept h3 k⟩
theorem Own8.alloc {w:World} {N:Nat} {v:Value} {n:Nat} (h:Own8 w N v n) (o:Obj):Own8 (w.alloc o) N v n:=h.kept ((Below.refl _ _).alloc (Nat.le_refl _) o)
theorem Own8.drewN {w:World} {N:Nat} {v:Value} {n:Nat} (h:Own8 w N v n) (k:Nat):Own8 (w.drewN k) N v n:=h.kept ((Kept.refl _).drewN k)
theorem Own8.set {w:World} {N:Nat} {v:Value} {n:Nat} (h:Own8 w N v n) {b:Nat} (hb:b<N) (k:Nat) (u:Value):Own8 (w.setCell ⟨b,k,none⟩ u) N v n:=by
 obtain ⟨l,h1,h2,h3⟩:=h;exact ⟨l,h1,h2,ownsRow_setCell_below h3 hb _⟩
theorem Own8.ge {w:World} {N:Nat} {v:Value} {n:Nat} (h:Own8 w N v n):∀ k,v.ownBlock=some k->N<=k:=by
 obtain ⟨l,h1,h2,h3⟩:=h;exact fun k hk=>(h3.lt k hk).1
theorem Own8.nil (w:World) (N:Nat):Own8 w N (.slice none 0 0) 0:=⟨[],rfl,isBytes.nil,World.ownsRow_nil _ _ _ _⟩
abbrev FrN (x N:Nat):World->World->Prop:=Fr (fun g=>g=x\/N<=g)
theorem append8 (w:World) {ops:Array Oper} {rest:List Oper} {o:Oper} {a:Act} {Q:Exit->Act->World->Prop}
  (hg:o.guard=none) (s x:Operand) (hop:o.op=Op.call { callee:=Callee.builtin Builtin.append,args:=#[s,x],argTypes:=#[105,105] })
  (N:Nat) (v:Value) (n:Nat) (hs:a.eval s=v) (hown:Own8 w N v n)
  (g:Nat) (m c:Nat) (es:List Int) (hx:a.eval x = .slice (some ⟨g,0,none⟩) m c) (hm:m=es.length) (h0:0<m) (hE:isBytes es) (hc:∀ j,j<m->w.cell? ⟨g,j,none⟩=some (.int .u8 (es.getD j 0))) (hb:n+m<=1099511627776) (hbase:N<=w.heap.size)
  (hK:∀ v' w',Own8 w' N v' (n+m)->Fr (fun k=>v.ownBlock=some k) w w'->wpList Tryz.prog ops Q rest (a.put o.dst v') w') :
  wpList Tryz.prog ops Q (o::rest) a w:=by
 obtain ⟨l,hl,hB,ho⟩:=hown;subst hm;refine append_own w 105 105 5 1 1 (.int .u8 0) Tryz.underlying105 infoU8 rfl (by omega) hg s x hop N v n (u8s l) hs ho ⟨g,0,none⟩ es.length c (u8s es) hx (by simp [u8s]) h0 ?_ ?_ (by unfold maxLen;omega) (by omega) hbase ?_ rfl
 ·intro j u hj
  have hlt:j<es.length:=by
   have:=(List.getElem?_eq_some_iff.1 hj).1
   simpa [u8s] using this
  have e:(Addr.add ⟨g,0,none⟩ j)=⟨g,j,none⟩:=by unfold Addr.add;split<;>simp_all
  rw[e,hc j hlt];simp [u8s,List.getElem?_map,List.getElem?_eq_getElem hlt] at hj
  rw[<- hj];simp [List.getD_eq_getElem?_getD,List.getElem?_eq_getElem hlt]
 ·intro u hu;simp [u8s] at hu;obtain ⟨y,_,rfl⟩:=hu;rfl
 ·intro v' w' h1 h2 h3
  refine hK v' w' ⟨l++es,by simp [hl],hB.app hE,by simpa [u8s] using h1⟩ ⟨h2.os,h2.tape,h2.output,h2.size,fun k hk hn=>h2.block k hk (fun e=>hn e.symm)⟩
theorem step8 {w:World} {ops:Array Oper} {o:Oper} {a:Act} {K:Act->World->Prop} {Q:Exit->Act->World->Prop} {E:Prop} (hgd:o.guard=none) (s x:Operand)
  (hop:o.op=Op.call { callee:=Callee.builtin Builtin.append,args:=#[s,x],argTypes:=#[105,105] })
  (N:Nat) (v:Value) (n:Nat) (hs:a.eval s=v) (hown:Own8 w N v n)
  (g:Nat) (m c:Nat) (es:List Int) (hx:a.eval x = .slice (some ⟨g,0,none⟩) m c) (hm:m=es.length) (h0:0<m) (hE:isBytes es) (hc:∀ j,j<m->w.cell? ⟨g,j,none⟩=some (.int .u8 (es.getD j 0))) (hb:n+m<=1099511627776) (hbase:N<=w.heap.size)
  (hK:∀ g' cap w',Own8 w' N (.slice (some ⟨g',0,none⟩) (n+m) cap) (n+m)->Fr (fun k=>v.ownBlock=some k) w w'->K (a.put o.dst (.slice (some ⟨g',0,none⟩) (n+m) cap)) w') :
  if Region.wanted o (yielded ops a.tmps)=true then Oper.wp Tryz.prog o a w K Q else E:=by
 obtain ⟨l,hl,hB,ho⟩:=hown;subst hm;obtain ⟨i0,hi,hz0,hz1,hz2⟩:=info_parts' infoU8;refine step_append_lies w hgd s x 105 hop N 5 i0 (.int .u8 0) 1 1 Tryz.underlying105 hi hz0 hz1 hz2 rfl (by omega) v n (u8s l) hs ho ⟨g,0,none⟩ es.length c (u8s es) hx (by simp [u8s]) ?_ ?_ h0 (by unfold maxLen;omega) (by omega) hbase w.heap.size rfl ?_
 ·intro j u hj
  have hlt:j<es.length:=by
   have:=(List.getElem?_eq_some_iff.1 hj).1
   simpa [u8s] using this
  have e:(Addr.add ⟨g,0,none⟩ j)=⟨g,j,none⟩:=by unfold Addr.add;split<;>simp_all
  rw[e,hc j hlt];simp [u8s,List.getElem?_map,List.getElem?_eq_getElem hlt] at hj
  rw[<- hj];simp [List.getD_eq_getElem?_getD,List.getElem?_eq_getElem hlt]
 ·intro u hu;simp [u8s] at hu;obtain ⟨y,_,rfl⟩:=hu;rfl
 ·intro g' cap w' h1 h2 h3 h4
  refine hK g' cap w' ⟨l++es,by simp [hl],hB.app hE,by simpa [u8s] using h1⟩ ⟨h2.os,h2.tape,h2.output,h2.size,fun k hk hn=>h2.block k hk (fun e=>hn e.symm)⟩
def szOf (W:World) (x:Nat):Nat:=match W.cell? ⟨x,2,none⟩ with | some (.int _ v)=>v.toNat | _=>0
theorem own_frS {S:Nat->Prop} {W W':World} {N:Nat} {e:TypeId} {size:Nat} {v:Value} {n:Nat} {xs:List Value} (h:W.ownsRow N e size v n xs) (k:Fr S W W') (ho:∀ g,v.ownBlock=some g->¬ S g):W'.ownsRow N e size v n xs:=by
 rcases h.2 with ⟨hv,h0⟩ | ⟨g,cap,cur,hv,hg,r⟩
 ·exact ⟨h.1,Or.inl ⟨hv,h0⟩⟩
 ·have hob:v.ownBlock=some g:=by rw[hv];rfl
  refine ⟨h.1,Or.inr ⟨g,cap,cur,hv,hg,?_,r.2⟩⟩;rw[k.block g (h.lt g hob).2 (ho g hob)];exact r.1
theorem Own8.frS {S:Nat->Prop} {w W:World} {N:Nat} {v:Value} {n:Nat} (h:Own8 w N v n) (k:Fr S w W) (ho:∀ g,v.ownBlock=some g->¬ S g):Own8 W N v n:=by
 obtain ⟨l,h1,h2,h3⟩:=h;exact ⟨l,h1,h2,own_frS h3 k ho⟩
theorem Own8.setO {w:World} {N:Nat} {v:Value} {n:Nat} (h:Own8 w N v n) {b:Nat} (hb:v.ownBlock≠some b) (k:Nat) (u:Value):Own8 (w.setCell ⟨b,k,none⟩ u) N v n:=
 h.frS (S:=fun g=>g=b) (Fr.setCell (S:=fun g=>g=b) (Fr.refl _ _) (Or.inl rfl) _ _) (fun g hg e=>hb (by rw[hg,e]))
theorem step8_b {w:World} {ops:Array Oper} {o:Oper} {a:Act} {K:Act->World->Prop} {Q:Exit->Act->World->Prop} {E:Prop} (hgd:o.guard=none) (s x:Operand)
  (hop:o.op=Op.call { callee:=Callee.builtin Builtin.append,args:=#[s,x],argTypes:=#[105,105] })
  (v:Value) (n:Nat) (hs:a.eval s=v) (hown:Own8 w 0 v n)
  (g:Nat) (c:Nat) (e:Int) (hx:a.eval x = .slice (some ⟨g,0,none⟩) 1 c) (he0:0<=e) (he1:e<256) (hc:w.cell? ⟨g,0,none⟩=some (.int .u8 e)) (hb:n+1<=1099511627776) (H:Nat) (hH:w.heap.size=H)
  (hK:∀ g' cap w',Own8 w' 0 (.slice (some ⟨g',0,none⟩) (n+1) cap) (n+1)->Fr (fun k=>v.ownBlock=some k) w w'->(v.ownBlock=some g'\/g'=H)->K (a.put o.dst (.slice (some ⟨g',0,none⟩) (n+1) cap)) w') :
  if Region.wanted o (yielded ops a.tmps)=true then Oper.wp Tryz.prog o a w K Q else E:=by
 obtain ⟨l,hl,hB,ho⟩:=hown;obtain ⟨i0,hi,hz0,hz1,hz2⟩:=info_parts' infoU8;refine step_append_lies w hgd s x 105 hop 0 5 i0 (.int .u8 0) 1 1 Tryz.underlying105 hi hz0 hz1 hz2 rfl (by omega) v n (u8s l) hs ho ⟨g,0,none⟩ 1 c (u8s [e]) hx (by simp [u8s]) ?_ ?_ (by omega) (by unfold maxLen;omega) (by omega) (Nat.zero_le _) H hH ?_
 ·intro j u hj
  have hlt:j<1:=by
   have:=(List.getElem?_eq_some_iff.1 hj).1
   simpa [u8s] using this
  have j0:j=0:=by omega
  subst j0;have e2:(Addr.add ⟨g,0,none⟩ 0)=⟨g,0,none⟩:=by unfold Addr.add;split<;>simp_all
  rw[e2,hc]
  simpa [u8s] using hj
 ·intro u hu;simp [u8s] at hu;subst hu;rfl
 ·intro g' cap w' h1 h2 h3 h4
  exact hK g' cap w' ⟨l++[e],by simp [hl],hB.snoc he0 he1,by simpa [u8s] using h1⟩ ⟨h2.os,h2.tape,h2.output,h2.size,fun k hk hn=>h2.block k hk (fun e=>hn e.symm)⟩ h3
structure BitB (W:World) (x:Nat) (v:Value) (T:Nat):Prop where
 lt:x<W.heap.size
 fz:∀ k,W.frozen? ⟨x,k,none⟩=false
 out:W.cell? ⟨x,0,none⟩=some v
 own:Own8 W 0 v (T / 8)
 ne:v.ownBlock≠some x
 rest:∃ r:Int,0<=r/\r<4294967296/\W.cell? ⟨x,1,none⟩=some (.int .u32 r)
 sz:W.cell? ⟨x,2,none⟩=some (.int .u64 ((T % 8:Nat):Int))
structure WrB (x:Nat) (w:World) (v:Value) (w':World) (v':Value):Prop where
 fr:Fr (fun g=>g=x\/v.ownBlock=some g) w w'
 own:∀ k,v'.ownBlock=some k->v.ownBlock=some k\/w.heap.size<=k
 far:∀ j,3<=j->w'.cell? ⟨x,j,none⟩=w.cell? ⟨x,j,none⟩
theorem WrB.refl (x:Nat) (w:World) (v:Value):WrB x w v w v:=⟨Fr.refl _ _,fun k h=>Or.inl h,fun _ _=>rfl⟩
theorem WrB.trans {x:Nat} {a b c:World} {u v t:Value} (h:WrB x a u b v) (k:WrB x b v c t):WrB x a u c t:=by
 refine ⟨h.fr.trans' k.fr (fun i hi e => ?_),fun g hg => ?_,fun j hj=>(k.far j hj).trans (h.far j hj)⟩
 ·rcases e with e | e
  ·exact Or.inl e
  ·rcases h.own i e with q | q
   ·exact Or.inr q
   ·omega
 ·rcases k.own g hg with q | q
  ·exact h.own g q
  ·exact Or.inr (Nat.le_trans h.fr.size q)
theorem WrB.kept {x:Nat} {a b c:World} {u v:Value} (h:WrB x a u b v) (k:Kept b c) (hx:x<b.heap.size):WrB x a u c v:=
 ⟨h.fr.kept k,h.own,fun j hj=>(k.cell (p:=⟨x,j,none⟩) hx).trans (h.far j hj)⟩
theorem BitB.kept {x T:Nat} {v:Value} {w w':World} (h:BitB w x v T) (k:Kept w w'):BitB w' x v T:=by
 obtain ⟨r,hr0,hr1,h1⟩:=h.rest;exact ⟨Nat.lt_of_lt_of_le h.lt k.size,fun j=>(k.frozen (p:=⟨x,j,none⟩) h.lt).trans (h.fz j),(k.cell (p:=⟨x,0,none⟩) h.lt).trans h.out,h.own.kept k,h.ne,⟨r,hr0,hr1,(k.cell (p:=⟨x,1,none⟩) h.lt).trans h1⟩,(k.cell (p:=⟨x,2,none⟩) h.lt).trans h.sz⟩
def WB (x:Nat) (w:World) (v:Value) (T':Nat) (w':World):Prop:=∃ v',BitB w' x v' T'/\WrB x w v w' v'
theorem WB.refl {x T:Nat} {w:World} {v:Value} (h:BitB w x v T):WB x w v T w:=⟨v,h,WrB.refl _ _ _⟩
