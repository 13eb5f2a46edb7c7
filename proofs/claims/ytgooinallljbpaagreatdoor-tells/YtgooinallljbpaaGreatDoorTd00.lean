import Derived.Test.YtgooinallljbpaaGreatDoorProg
import Derived.WalkKit
import Derived.WalkSpells
import Derived.WalkLawsBesides
import Derived.Laws.BitsAllLaws
import Derived.BigQuiet
import Derived.Deep.QuietTactic
set_option maxRecDepth 100000
set_option maxHeartbeats 6400000
/-
 Plain mathematics,no Go: bits and numbers of a list of bytes.
-/
namespace Px
abbrev One:=Nat × Nat
def vAt (z:List One) (i:Nat):Nat:=(z.getD i (0,0)).1
def pAt (z:List One) (i:Nat):Nat:=(z.getD i (0,0)).2
def aZ (z:List One) (i:Nat):Nat:=vAt z (i / 8) / 2^(i % 8) % 2
theorem pT (z:List One) (i:Nat):aZ z i<2:=Nat.mod_lt _ (by omega)
def ab (z:List One) (a:Nat):Nat->Nat
 | 0=>0
 | n+1=>ab z a n+aZ z (a+n)*2^n
theorem bO (z:List One) (a n:Nat):ab z a n<2^n:=by
 induction n with
 | zero=>simp [ab]
 | succ n ih=>
  have:=pT z (a+n)
  have h:aZ z (a+n)*2^n<=1*2^n:=Nat.mul_le_mul_right _ (by omega);rw[ab,Nat.pow_succ];omega
theorem dg (z:List One) (a m n:Nat):ab z a (m+n)=ab z a m+2^m*ab z (a+m) n:=by
 induction n with
 | zero=>simp [ab]
 | succ n ih=>
  rw[Nat.add_succ,ab,ih,ab,Nat.mul_add,Nat.pow_add,Nat.add_assoc a m n];rw[Nat.add_assoc];congr 2;rw[Nat.mul_left_comm]
def good (z:List One):Prop:=(∀ x ∈ z,x.1<256)/\z.length<=1048576/\∀ x ∈ z,x.2<=1048576
theorem Lr {z:List One} (h:good z) (i:Nat):vAt z i<256:=by
 unfold vAt;rw[List.getD_eq_getElem?_getD];cases e:z[i]? with
 | none=>simp
 | some x=>exact h.1 x (List.mem_of_getElem? e)
theorem GQ {z:List One} (h:good z) (i:Nat):pAt z i<=1048576:=by
 unfold pAt;rw[List.getD_eq_getElem?_getD];cases e:z[i]? with
 | none=>simp
 | some x=>exact h.2.2 x (List.mem_of_getElem? e)
structure Bt where
 a:Nat
 cut:Bool
 err:Nat
def Bt.on (b:Bt):Bool := !b.cut && decide (b.err=0)
def Bt.num (z:List One) (t:Bt) (n:Nat):Bt:=if t.cut=true then t else if t.a+n<=8*z.length then { t with a:=t.a+n } else { t with a:=8*z.length,cut:=true }
def up8 (a:Nat):Nat:=(a+7) / 8*8
def lA (l:List Nat) (s:Nat):Nat->Nat
 | 0=>0
 | t+1=>lA l s t+if 0<l.getD t 0/\(l.getD t 0<l.getD s 0\/(l.getD t 0=l.getD s 0/\t<s)) then 2^(l.getD s 0 - l.getD t 0) else 0
def codeOf (l:List Nat) (s:Nat):Nat:=lA l s l.length
def bD (l:List Nat):Prop:=(∀ x ∈ l,x<=15)/\l.length<=320
theorem iE {l:List Nat} (h:bD l) (i:Nat):l.getD i 0<=15:=by
 rw[List.getD_eq_getElem?_getD];cases e:l[i]? with
 | none=>simp
 | some x=>exact h.1 x (List.mem_of_getElem? e)
theorem xc (i:Nat) (hi:i<=15):2^i<=32768:=by
 have:=Nat.pow_le_pow_right (n:=2) (by omega) hi;simpa using this
theorem xw {l:List Nat} (h:bD l) (s n:Nat):lA l s n<=n*32768:=by
 induction n with
 | zero=>simp [lA]
 | succ n ih=>
  have h1:=iE h s;have h2:=xc (l.getD s 0 - l.getD n 0) (by omega);rw[lA,Nat.succ_mul];refine Nat.add_le_add ih ?_;split
  ·exact h2
  ·exact Nat.zero_le _
theorem Fc {l:List Nat} (h:bD l) (s:Nat):codeOf l s<=10485760:=by
 have:=xw h s l.length
 have:=h.2
 unfold codeOf;omega
def fU (l:List Nat):Nat->Nat
 | 0=>0
 | t+1=>fU l t+if 0<l.getD t 0 then 2^(15 - l.getD t 0) else 0
def fG (l:List Nat):Nat->Nat
 | 0=>0
 | t+1=>fG l t+if 0<l.getD t 0 then 1 else 0
def mG (l:List Nat):Nat->Nat
 | 0=>0
 | t+1=>mG l t+if l.getD t 0=1 then 1 else 0
def db (l:List Nat) (lone none:Bool):Bool:=
 if fG l l.length=0 then none else decide (fU l l.length=32768) || (lone && decide (fG l l.length=1) && decide (mG l l.length=1))
theorem Gm (l:List Nat) (n:Nat):fU l n<=n*32768:=by
 induction n with
 | zero=>simp [fU]
 | succ n ih=>
  have h2:=xc (15 - l.getD n 0) (by omega);rw[fU,Nat.succ_mul];refine Nat.add_le_add ih ?_;split
  ·exact h2
  ·exact Nat.zero_le _
theorem IH (l:List Nat) (n:Nat):fG l n<=n:=by
 induction n with
 | zero=>simp [fG]
 | succ n ih=>rw[fG];split<;>omega
theorem GS (l:List Nat) (n:Nat):mG l n<=n:=by
 induction n with
 | zero=>simp [mG]
 | succ n ih=>rw[mG];split<;>omega
def msb (z:List One) (a:Nat):Nat->Nat
 | 0=>0
 | n+1=>2*msb z a n+aZ z (a+n)
theorem Hl (z:List One) (a n:Nat):msb z a n<2^n:=by
 induction n with
 | zero=>simp [msb]
 | succ n ih=>have:=pT z (a+n);rw[msb,Nat.pow_succ];omega
def kZ (l:List Nat) (n v s:Nat):Prop:=l.getD s 0=n/\codeOf l s=v
def uK (l:List Nat) (n v s:Nat):Prop:=n<l.getD s 0/\codeOf l s / 2^(l.getD s 0 - n)=v
def fD (l:List Nat) (n v k:Nat):Prop:=∀ s,s<k->¬ kZ l n v s
def fA (l:List Nat) (n v k:Nat):Prop:=∃ s,s<k/\uK l n v s
def cY (z:List One) (a:Nat) (l:List Nat) (n:Nat):Prop:=∀ m,1<=m->m<=n->fD l m (msb z a m) l.length/\fA l m (msb z a m) l.length
theorem Gk {z:List One} {a:Nat} {l:List Nat} {n:Nat} (h:cY z a l n) (hl:bD l):n<15\/n=0:=by
 by_cases h0:n=0
 ·exact Or.inr h0
 ·obtain ⟨s,_,hm⟩:=(h n (by omega) (Nat.le_refl _)).2
  have:=iE hl s
  have:=hm.1
  omega
theorem vG {z:List One} {a:Nat} {l:List Nat} {n:Nat} (h:cY z a l n) (h1:fD l (n+1) (msb z a (n+1)) l.length) (h2:fA l (n+1) (msb z a (n+1)) l.length):cY z a l (n+1):=by
 intro m h3 h4;by_cases e:m=n+1
 ·subst e;exact ⟨h1,h2⟩
 ·exact h m h3 (by omega)
end Px
namespace Go.Proofs.YtgooinallljbpaaGreatDoor
open Go.RowKit
theorem bj {a b:Bool} (h:a=b):Ending.returned (.bool a) = .returned (.bool b):=by rw[h]
theorem ah {k:IntKind} {a b:Int} (h:a=b):Ending.returned (.int k a) = .returned (.int k b):=by rw[h]
theorem aV {k:IntKind} {a b:Int} (h:a=b):Value.int k a = .int k b:=by rw[h]
abbrev Kept (w w':World):Prop:=Below w.heap.size w w'
theorem Kept.refl (w:World):Kept w w:=Below.refl _ _
theorem Kept.trans {a b c:World} (h:Kept a b) (k:Kept b c):Kept a c:=Below.trans h (k.mono h.size)
theorem Kept.drewN {a w:World} (h:Kept a w) (n:Nat):Kept a (w.drewN n):=below_drewN h n
theorem aa (w:World) (b k j:Nat) (v:Value) (h:k≠j):(w.setCell ⟨b,k,none⟩ v).cell? ⟨b,j,none⟩=w.cell? ⟨b,j,none⟩ :=
 World.cell?_setCell_other _ _ _ _ (by intro e;apply h;injection e)
theorem aj {w:World} {a:Addr} {u:Value} (h:w.cell? a=some u) (v:Value):(w.setCell a v).cell? a=some v:=World.cell?_setCell_same _ _ _ h
structure Fr (S:Nat->Prop) (w w':World):Prop where
 os:w'.os=w.os
 tape:w'.tape=w.tape
 output:w'.output=w.output
 size:w.heap.size<=w'.heap.size
 block:∀ k,k<w.heap.size->¬ S k->w'.heap[k]? = w.heap[k]?
theorem Fr.refl (S:Nat->Prop) (w:World):Fr S w w:=⟨rfl,rfl,rfl,Nat.le_refl _,fun _ _ _=>rfl⟩
theorem Fr.trans {S:Nat->Prop} {x y z:World} (h:Fr S x y) (k:Fr S y z):Fr S x z:=
 ⟨k.os.trans h.os,k.tape.trans h.tape,k.output.trans h.output,Nat.le_trans h.size k.size,fun i hi hn=>(k.block i (Nat.lt_of_lt_of_le hi h.size) hn).trans (h.block i hi hn)⟩
theorem Fr.trans' {S T:Nat->Prop} {x y z:World} (h:Fr S x y) (k:Fr T y z) (hT:∀ i,i<x.heap.size->T i->S i):Fr S x z:=
 ⟨k.os.trans h.os,k.tape.trans h.tape,k.output.trans h.output,Nat.le_trans h.size k.size,fun i hi hn=>(k.block i (Nat.lt_of_lt_of_le hi h.size) (fun t=>hn (hT i hi t))).trans (h.block i hi hn)⟩
theorem Fr.mono {S T:Nat->Prop} {x y:World} (h:Fr S x y) (hT:∀ i,i<x.heap.size->S i->T i):Fr T x y:=
 ⟨h.os,h.tape,h.output,h.size,fun i hi hn=>h.block i hi (fun s=>hn (hT i hi s))⟩
theorem Fr.of_kept {S:Nat->Prop} {x y:World} (k:Kept x y):Fr S x y:=⟨k.os,k.tape,k.output,k.size,fun i hi _=>k.block i hi⟩
theorem Fr.kept {S:Nat->Prop} {x y z:World} (h:Fr S x y) (k:Kept y z):Fr S x z:=h.trans (Fr.of_kept k)
theorem Fr.setCell {S:Nat->Prop} {x y:World} (h:Fr S x y) {b:Nat} (hb:S b\/x.heap.size<=b) (k:Nat) (v:Value):Fr S x (y.setCell ⟨b,k,none⟩ v) :=
 ⟨h.os,h.tape,h.output,by simpa [World.setCell] using h.size,fun i hi hn=>(Below.heap_setCell _ _ _ _ (by rintro rfl;rcases hb with hb | hb;exact hn hb;exact absurd hi (Nat.not_lt.2 hb))).trans (h.block i hi hn)⟩
theorem Fr.drewN {S:Nat->Prop} {x y:World} (h:Fr S x y) (n:Nat):Fr S x (y.drewN n):=h.kept ((Kept.refl _).drewN n)
theorem Fr.alloc {S:Nat->Prop} {x y:World} (h:Fr S x y) (o:Obj):Fr S x (y.alloc o):=h.kept ((Below.refl _ _).alloc (Nat.le_refl _) o)
theorem Fr.grown {S:Nat->Prop} {x y z:World} (h:Fr S x y) {row:Option Nat} (hg:y.grownBy z row) (hr:∀ k,row=some k->S k\/x.heap.size<=k):Fr S x z:=
 ⟨hg.os.trans h.os,hg.tape.trans h.tape,hg.output.trans h.output,Nat.le_trans h.size hg.size,fun i hi hn=>(hg.block i (Nat.lt_of_lt_of_le hi h.size) (fun e=>by rcases hr i e.symm with q | q;exact hn q;omega)).trans (h.block i hi hn)⟩
theorem Fr.to_kept {S:Nat->Prop} {x y z:World} (h:Kept x y) (k:Fr S y z) (hS:∀ i,i<x.heap.size->¬ S i):Kept x z:=
 ⟨k.os.trans h.os,k.tape.trans h.tape,k.output.trans h.output,Nat.le_trans h.size k.size,fun i hi=>(k.block i (Nat.lt_of_lt_of_le hi h.size) (hS i hi)).trans (h.block i hi)⟩
theorem Fr.cell {S:Nat->Prop} {w w':World} (h:Fr S w w') {c k:Nat} (hc:c<w.heap.size) (hn:¬ S c):w'.cell? ⟨c,k,none⟩=w.cell? ⟨c,k,none⟩:=World.cell?_of_block (w:=w) (h.block c hc hn)
theorem Fr.frozen {S:Nat->Prop} {w w':World} (h:Fr S w w') {c k:Nat} (hc:c<w.heap.size) (hn:¬ S c):w'.frozen? ⟨c,k,none⟩=w.frozen? ⟨c,k,none⟩:=World.frozen?_of_block (w:=w) (h.block c hc hn)
abbrev Fr1 (b:Nat):World->World->Prop:=Fr (fun k=>k=b)
theorem Fr1.refl (b:Nat) (w:World):Fr1 b w w:=Fr.refl _ _
theorem Fr1.set {b:Nat} {x y:World} (h:Fr1 b x y) (k:Nat) (v:Value):Fr1 b x (y.setCell ⟨b,k,none⟩ v):=Fr.setCell h (Or.inl rfl) k v
theorem Fr1.drewN {b:Nat} {x y:World} (h:Fr1 b x y) (n:Nat):Fr1 b x (y.drewN n):=Fr.drewN h n
theorem pS (a:Nat) (ha:a<4294967296):(BitVec.ofInt 64 (a:Int)).toNat=a:=by
 rw[BitVec.ofInt_natCast,BitVec.toNat_ofNat];exact Nat.mod_eq_of_lt (by omega)
theorem qP (a b:Nat) (ha:a<4294967296) (hb:b<4294967296):bits .and .i64 (a:Int) (b:Int)=((a &&& b:Nat):Int):=by
 have hx:a &&& b<2^32:=Nat.and_lt_two_pow _ (by omega);show IntKind.i64.wrap ((BitVec.ofInt 64 (a:Int) &&& BitVec.ofInt 64 (b:Int)).toNat:Int)=_
 rw[BitVec.toNat_and,pS a ha,pS b hb,IntKind.wrap_i64];omega
theorem qO (a b:Nat) (ha:a<4294967296) (hb:b<4294967296):bits .xor .i64 (a:Int) (b:Int)=((a ^^^ b:Nat):Int):=by
 have hx:a ^^^ b<2^32:=Nat.xor_lt_two_pow (by omega) (by omega);show IntKind.i64.wrap ((BitVec.ofInt 64 (a:Int) ^^^ BitVec.ofInt 64 (b:Int)).toNat:Int)=_
 rw[BitVec.toNat_xor,pS a ha,pS b hb,IntKind.wrap_i64];omega
theorem Kj (x k:Nat) (hx:x<4294967296):bits .and .i64 ((x:Int) / 2^k) 1=((x / 2^k % 2:Nat):Int):=by
 have e1:(x:Int) / 2^k=((x / 2^k:Nat):Int):=by simp
 have h1:x / 2^k<4294967296:=Nat.lt_of_le_of_lt (Nat.div_le_self _ _) (by omega)
 have:=qP (x / 2^k) 1 h1 (by omega)
 rw[nat_mask1] at this;rw[e1];exact this
set_option linter.unusedSimpArgs false
set_option linter.unusedVariables false
structure ZAt (w:World) (v:Value) (z:List Px.One):Prop where
 form:∃ p c,v = .slice p z.length c
 cells:∀ p c,v = .slice p z.length c->∀ i,i<z.length->∃ g,p=some ⟨g,0,none⟩/\w.cell? ⟨g,i*2,none⟩=some (.int .i64 (Px.vAt z i:Int))/\w.cell? ⟨g,i*2+1,none⟩=some (.int .i64 (Px.pAt z i:Int))
def ae:Value->Option Nat
 | .slice (some a) _ _=>some a.block
 | _=>none
theorem ZAt.fr {S:Nat->Prop} {w w':World} {v:Value} {z:List Px.One} (h:ZAt w v z) (k:Fr S w w') (hS:∀ g,ae v=some g->¬ S g):ZAt w' v z:=by
 refine ⟨h.form,?_⟩;intro p c hv i hi;obtain ⟨g,hp,h1,h2⟩:=h.cells p c hv i hi;have hg:ae v=some g:=by rw[hv,hp];rfl
 have hlt:g<w.heap.size:=World.block_lt_of_cell? _ _ h1;exact ⟨g,hp,(k.cell hlt (hS g hg)).trans h1,(k.cell hlt (hS g hg)).trans h2⟩
structure BAt (w:World) (b:Nat) (v:Value) (t:Px.Bt):Prop where
 c0:w.cell? ⟨b,0,none⟩=some v
 c1:w.cell? ⟨b,1,none⟩=some (.int .i64 (t.a:Int))
 c2:w.cell? ⟨b,2,none⟩=some (.bool t.cut)
 c3:w.cell? ⟨b,3,none⟩=some (.int .i64 (t.err:Int))
 fz:∀ k,w.frozen? ⟨b,k,none⟩=false
theorem BAt.lt {w:World} {b:Nat} {v:Value} {t:Px.Bt} (h:BAt w b v t):b<w.heap.size:=World.block_lt_of_cell? _ _ h.c0
theorem BAt.same {w w':World} {b:Nat} {v:Value} {t:Px.Bt} (h:BAt w b v t) (e:w'.heap[b]? = w.heap[b]?):BAt w' b v t:=by
 have hc:∀ k,w'.cell? ⟨b,k,none⟩=w.cell? ⟨b,k,none⟩:=fun k=>World.cell?_of_block (w:=w) e
 have hf:∀ k,w'.frozen? ⟨b,k,none⟩=w.frozen? ⟨b,k,none⟩:=fun k=>World.frozen?_of_block (w:=w) e
 exact ⟨(hc 0).trans h.c0,(hc 1).trans h.c1,(hc 2).trans h.c2,(hc 3).trans h.c3,fun k=>(hf k).trans (h.fz k)⟩
theorem BAt.drewN {w:World} {b:Nat} {v:Value} {t:Px.Bt} (h:BAt w b v t) (n:Nat):BAt (w.drewN n) b v t:=h.same rfl
theorem BAt.fr {S:Nat->Prop} {w w':World} {b:Nat} {v:Value} {t:Px.Bt} (h:BAt w b v t) (k:Fr S w w') (hS:¬ S b):BAt w' b v t:=h.same (k.block b h.lt hS)
theorem BAt.kept {w w':World} {b:Nat} {v:Value} {t:Px.Bt} (h:BAt w b v t) (k:Kept w w'):BAt w' b v t:=h.same (k.block b h.lt)
theorem BAt.setA {w:World} {b:Nat} {v:Value} {t:Px.Bt} (h:BAt w b v t) (n:Nat):BAt (w.setCell ⟨b,1,none⟩ (.int .i64 (n:Int))) b v { t with a:=n } :=
 ⟨by rw[aa _ _ _ _ _ (by omega)];exact h.c0,aj h.c1 _,by rw[aa _ _ _ _ _ (by omega)];exact h.c2,by rw[aa _ _ _ _ _ (by omega)];exact h.c3,fun k=>by rw[World.frozen?_setCell];exact h.fz k⟩
theorem BAt.setCut {w:World} {b:Nat} {v:Value} {t:Px.Bt} (h:BAt w b v t):BAt (w.setCell ⟨b,2,none⟩ (.bool true)) b v { t with cut:=true } :=
 ⟨by rw[aa _ _ _ _ _ (by omega)];exact h.c0,by rw[aa _ _ _ _ _ (by omega)];exact h.c1,aj h.c2 _,by rw[aa _ _ _ _ _ (by omega)];exact h.c3,fun k=>by rw[World.frozen?_setCell];exact h.fz k⟩
theorem BAt.setErr {w:World} {b:Nat} {v:Value} {t:Px.Bt} (h:BAt w b v t) (n:Nat):BAt (w.setCell ⟨b,3,none⟩ (.int .i64 (n:Int))) b v { t with err:=n } :=
 ⟨by rw[aa _ _ _ _ _ (by omega)];exact h.c0,by rw[aa _ _ _ _ _ (by omega)];exact h.c1,by rw[aa _ _ _ _ _ (by omega)];exact h.c2,aj h.c3 _,fun k=>by rw[World.frozen?_setCell];exact h.fz k⟩
theorem a9 (b:Nat) (v:Value) (t:Px.Bt) (w:World) (h:BAt w b v t) :
  Calls Tryz.prog 61 #[.pointer (some ⟨b,0,none⟩)] w fun r w'=>r = .returned (.bool t.on)/\w'=w:=by
 have c2:=h.c2;have c3:=h.c3;have HO:Hid (t.on=(!t.cut && decide (t.err=0))):=rfl;cases hc:t.cut<;>rw[hc] at c2 HO
 ·go_enter Tryz.func61,Tryz.ntmps61
  go_wp2;go_ret;refine ⟨bj ?_,rfl⟩;rw[HO.out,Bool.eq_iff_iff];simp;try omega
 ·go_enter Tryz.func61,Tryz.ntmps61
  go_wp2;go_ret;exact ⟨bj (by rw[HO.out];rfl),rfl⟩
theorem vB (b:Nat) (v:Value) (z:List Px.One) (t:Px.Bt) (w:World) (h:BAt w b v t) (hz:ZAt w v z) (hg:Px.good z) (ha:t.a<8*z.length) :
  Calls Tryz.prog 62 #[.pointer (some ⟨b,0,none⟩)] w fun r w'=>r = .returned (.int .i64 (Px.aZ z t.a:Int))/\BAt w' b v { t with a:=t.a+1 }/\Fr1 b w w':=by
 obtain ⟨p,c,rfl⟩:=hz.form;obtain ⟨g,rfl,hv,hp⟩:=hz.cells p c rfl (t.a / 8) (by omega);have hV:=Px.Lr hg (t.a / 8);have hl:=hg.2.1;have c0:=h.c0;have c1:=h.c1;have hf:=h.fz;have HB:Hid (bits .and .i64 ((Px.vAt z (t.a / 8):Int) / 2^(t.a % 8)) 1=(Px.aZ z t.a:Int)):=by
  show _=_;rw[Kj _ _ (by omega)];rfl
 generalize hq:Px.vAt z (t.a / 8)=V at *;clear hq hz hp;go_enter Tryz.func62,Tryz.ntmps62;go_wp2;go_quiet (fail);have h1:=h.drewN nq;have hv1:(w.drewN nq).cell? _=_:=hv;have hK:Hid (Fr1 b w (w.drewN nq)):=(Fr.refl _ _).drewN nq;have c0:=h1.c0;have c1:=h1.c1;have hf:=h1.fz;generalize w.drewN nq=w1 at *;clear hv;go_wp2;go_quiet (fail);go_wp2;go_ret;refine ⟨ah HB.out,?_,?_⟩
 ·exact (h1.drewN _).setA (t.a+1)
 ·exact (hK.out.drewN _).setCell (Or.inl rfl) _ _
theorem yK (b:Nat) (v:Value) (z:List Px.One) (t:Px.Bt) (w:World) (h:BAt w b v t) (hz:ZAt w v z) (hg:Px.good z) (ha:t.a=8*z.length) :
  Calls Tryz.prog 62 #[.pointer (some ⟨b,0,none⟩)] w fun r w'=>r = .returned (.int .i64 0)/\BAt w' b v { t with cut:=true }/\Fr1 b w w':=by
 obtain ⟨p,c,rfl⟩:=hz.form;have hl:=hg.2.1;have c0:=h.c0;have c1:=h.c1;have c2:=h.c2;have hf:=h.fz;clear hz;go_enter Tryz.func62,Tryz.ntmps62;go_wp2;go_quiet (fail);go_wp2;go_ret;exact ⟨rfl,(h.drewN _).setCut,((Fr1.refl _ _).drewN _).set _ _⟩
theorem JJ (v k i:Nat) (hk:k<2) (hv:v<2^i) (hi:i<33):v+k*2^i<2^(i+1):=by
 have h:k*2^i<=1*2^i:=Nat.mul_le_mul_right _ (by omega);rw[Nat.pow_succ];omega
theorem bB (x:Int) (h0 : -9223372036854775808<=x) (h1:x<9223372036854775808):wrap64 x=x:=by
 unfold wrap64;omega
theorem M4 (i:Nat) (hi:i<33):2^i<=4294967296:=by
 have:=Nat.pow_le_pow_right (n:=2) (by omega) (show i<=32 by omega);simpa using this
theorem Dl (b:Nat) (v:Value) (t:Px.Bt) (n:Nat) (w:World) (h:BAt w b v t) (hc:t.cut=true) :
  Calls Tryz.prog 59 #[.pointer (some ⟨b,0,none⟩),.int .i64 (n:Int)] w fun r w'=>r = .returned (.int .i64 0)/\w'=w:=by
 have c2:=h.c2;rw[hc] at c2;go_enter Tryz.func59,Tryz.ntmps59;go_wp2;go_loop [5,6] (fun u j=>u = .int .i64 0/\j = .int .i64 0) (fun _ _=>0)
 case atStart=>exact ⟨rfl,rfl⟩
 case round=>
  obtain ⟨rfl,rfl⟩:=hrel;go_wp2
  all_goals go_ret
  all_goals exact ⟨rfl,rfl⟩
theorem oa (b:Nat) (v:Value) (z:List Px.One) (t:Px.Bt) (n:Nat) (w:World) (h:BAt w b v t) (hz:ZAt w v z) (hv:∀ g,ae v=some g->g≠b) (hg:Px.good z) (ha:t.a<=8*z.length) (hn:n<=32) (hc:t.cut=false) :
  Calls Tryz.prog 59 #[.pointer (some ⟨b,0,none⟩),.int .i64 (n:Int)] w fun r w'=>∃ x:Nat,r = .returned (.int .i64 (x:Int))/\x<2^n/\(t.a+n<=8*z.length->x=Px.ab z t.a n)/\BAt w' b v (t.num z n)/\Fr1 b w w':=by
 go_enter Tryz.func59,Tryz.ntmps59;go_wp2;go_loopw [5,6] (fun u j W=>∃ x i:Nat,u = .int .i64 (x:Int)/\j = .int .i64 (i:Int)/\i<=n/\x<2^i/\Fr1 b w W/\((t.a+i<=8*z.length/\x=Px.ab z t.a i/\BAt W b v { t with a:=t.a+i })\/(8*z.length<t.a+n/\BAt W b v { t with a:=8*z.length,cut:=true }))) (fun _ j _=>n - (intOf j).toNat)
 case atStart=>exact ⟨0,0,rfl,rfl,by omega,by simp,Fr.refl _ _,Or.inl ⟨ha,rfl,h⟩⟩
 case round=>
  obtain ⟨x,i,rfl,rfl,hi,hx,hw,⟨hai,hxi,hb⟩ | ⟨hlt,hb⟩⟩:=hrel
  ·have c2:wr.cell? ⟨b,2,none⟩=some (.bool false):=by rw[<- hc];exact hb.c2
   have hz1:Hid (ZAt wr v z):=hz.fr hw hv;by_cases hin:i<n
   ·have hP:=M4 i (by omega)
    by_cases hfit:t.a+i<8*z.length
    ·have HX:Hid (Px.ab z t.a (i+1)=x+Px.aZ z (t.a+i)*2^i):=by show _=_;rw[hxi];rfl
     have hk:=Px.pT z (t.a+i);have F:=vB b v z _ wr hb hz1.out hg hfit;replace F:Hid (Calls Tryz.prog 62 #[.pointer (some ⟨b,0,none⟩)] wr fun r w'=>r = .returned (.int .i64 (Px.aZ z (t.a+i):Int))/\BAt w' b v { t with a:=t.a+(i+1) }/\Fr1 b wr w'):=F;have HS:Hid (x+Px.aZ z (t.a+i)*2^i<2^(i+1)):=JJ _ _ _ hk hx (by omega);generalize Px.aZ z (t.a+i)=K at *;clear hxi;go_wp2_with fail;refine F.out.mono ?_;rintro r w1 ⟨rfl,hb1,hw1⟩;go_wp2;have e1:(K:Int)*2^i=((K*2^i:Nat):Int):=by simp
     have e2:K*2^i<=1*2^i:=Nat.mul_le_mul_right _ (by omega);refine ⟨⟨x+K*2^i,i+1,aV ?_,by go_num,by omega,HS.out,hw.trans hw1,Or.inl ⟨by omega,HX.out.symm,hb1⟩⟩,by simp [intOf];omega⟩;rw[e1,bB ((K*2^i:Nat):Int) (by omega) (by omega),<- Int.natCast_add,bB _ (by omega) (by omega)]
    ·have hat:t.a+i=8*z.length:=by omega
     have F:=yK b v z _ wr hb hz1.out hg hat;replace F:Hid (Calls Tryz.prog 62 #[.pointer (some ⟨b,0,none⟩)] wr fun r w'=>r = .returned (.int .i64 0)/\BAt w' b v { t with a:=8*z.length,cut:=true }/\Fr1 b wr w'):=by rw[hat] at F;exact F
     clear hxi;go_wp2_with fail;refine F.out.mono ?_;rintro r w1 ⟨rfl,hb1,hw1⟩;go_wp2;refine ⟨⟨x,i+1,aV ?_,by go_num,by omega,by rw[Nat.pow_succ];omega,hw.trans hw1,Or.inr ⟨by omega,hb1⟩⟩,by simp [intOf];omega⟩
     first | rfl | (rw[Int.zero_mul,bB _ (by omega) (by omega),Int.add_zero,bB _ (by omega) (by omega)])
   ·have e:i=n:=by omega
    subst e;go_wp2;go_ret;refine ⟨x,rfl,hx,fun _=>hxi,?_,hw⟩;unfold Px.Bt.num;rw[if_neg (by rw[hc];decide),if_pos hai];exact hb
  ·have c2:=hb.c2
   have hfin:Hid (t.num z n={ t with a:=8*z.length,cut:=true }):=by
    show _=_
    unfold Px.Bt.num;rw[if_neg (by rw[hc];decide),if_neg (by omega)]
   have hxn:Hid (x<2^n):=Nat.lt_of_lt_of_le hx (Nat.pow_le_pow_right (by omega) hi);go_wp2
   all_goals go_ret
   all_goals exact ⟨x,rfl,hxn.out,fun h=>by omega,by rw[hfin.out];exact hb,hw⟩
theorem xC (b:Nat) (v:Value) (t:Px.Bt) (w:World) (h:BAt w b v t) (ha:t.a<=8388608) :
  Calls Tryz.prog 102 #[.pointer (some ⟨b,0,none⟩)] w fun r w'=>r = .returned (.tuple #[])/\BAt w' b v { t with a:=Px.up8 t.a }/\Fr1 b w w':=by
 go_enter Tryz.func102,Tryz.ntmps102;go_wp2;go_loopw [] (fun W=>∃ i:Nat,t.a<=i/\i<=Px.up8 t.a/\BAt W b v { t with a:=i }/\Fr1 b w W) (fun W=>Px.up8 t.a - (match W.cell? ⟨b,1,none⟩ with | some (.int .i64 n)=>n.toNat | _=>0))
 case atStart=>exact ⟨t.a,by omega,by unfold Px.up8;omega,h,Fr.refl _ _⟩
 case round=>
  obtain ⟨i,hi,hu,hb,hw⟩:=hrel;have c1:wr.cell? ⟨b,1,none⟩=some (.int .i64 (i:Int)):=hb.c1;have hf:=hb.fz;have HU:Hid (i<=Px.up8 t.a):=hu;have hbi:i<=8388700:=by unfold Px.up8 at hu;omega
  by_cases h8:i % 8=0
  ·have hd:((i:Int) % 8 != 0)=false:=by rw[bne_eq_false_iff_eq];omega
   have he:Hid (i=Px.up8 t.a):=by show _=_;unfold Px.up8 at *;omega
   clear hu h8;go_wp2;go_end0
   refine ⟨rfl,?_,hw⟩;rw[<- he.out];exact hb
  ·have hd:((i:Int) % 8 != 0)=true:=by rw[bne_iff_ne];omega
   have he:Hid (i+1<=Px.up8 t.a):=by show _<=_;unfold Px.up8 at *;omega
   clear hu h8;go_wp2;have hb1:=hb.setA (i+1);have c1':(wr.setCell ⟨b,1,none⟩ (.int .i64 ((i:Int)+1))).cell? ⟨b,1,none⟩=some (.int .i64 ((i:Int)+1)):=aj hb.c1 _;refine ⟨⟨i+1,by omega,he.out,hb1,hw.set _ _⟩,?_⟩
   have:=he.out
   rw[c1,c1'];show Px.up8 t.a - ((i:Int)+1).toNat<Px.up8 t.a - (i:Int).toNat
   omega
theorem cV (b:Nat) (v:Value) (t:Px.Bt) (e:Nat) (w:World) (h:BAt w b v t) (hc:t.cut=false) (he:t.err=0) :
  Calls Tryz.prog 60 #[.pointer (some ⟨b,0,none⟩),.int .i64 (e:Int)] w fun r w'=>r = .returned (.tuple #[])/\BAt w' b v { t with err:=e }/\Fr1 b w w':=by
 have c2:=h.c2;have c3:=h.c3;have hf:=h.fz;rw[hc] at c2;rw[he] at c3;go_enter Tryz.func60,Tryz.ntmps60;go_wp2;go_end0
 exact ⟨rfl,h.setErr e,(Fr1.refl _ _).set _ _⟩
theorem fW (b:Nat) (v:Value) (z:List Px.One) (t:Px.Bt) (w:World) (h:BAt w b v t) (hz:ZAt w v z) (hg:Px.good z) (h0:0<t.a) (ha:t.a<=8*z.length) :
  Calls Tryz.prog 68 #[.pointer (some ⟨b,0,none⟩)] w fun r w'=>r = .returned (.int .i64 (Px.pAt z ((t.a - 1) / 8):Int))/\Kept w w':=by
 obtain ⟨p,c,rfl⟩:=hz.form;obtain ⟨g,rfl,hv,hp⟩:=hz.cells p c rfl ((t.a - 1) / 8) (by omega);have hl:=hg.2.1;have c0:=h.c0;have c1:=h.c1;have e1:(t.a - 1) / 8*2+1=(((t.a:Int) - 1) / 8).toNat*2+1:=by omega
 rw[e1] at hp;go_enter Tryz.func68,Tryz.ntmps68;go_wp2;go_quiet (fail);go_wp2;go_ret;exact ⟨rfl,(Kept.refl _).drewN _⟩
structure IAt (w:World) (v:Value) (l:List Nat):Prop where
 form:∃ p c,v = .slice p l.length c
 cells:∀ p c,v = .slice p l.length c->∀ i,i<l.length->∃ g o,p=some ⟨g,o,none⟩/\w.cell? ⟨g,o+i,none⟩=some (.int .i64 (l.getD i 0:Int))
theorem IAt.fr {S:Nat->Prop} {w w':World} {v:Value} {l:List Nat} (h:IAt w v l) (k:Fr S w w') (hS:∀ g,ae v=some g->¬ S g):IAt w' v l:=by
 refine ⟨h.form,?_⟩;intro p c hv i hi;obtain ⟨g,o,hp,h1⟩:=h.cells p c hv i hi;have hg:ae v=some g:=by rw[hv,hp];rfl
 have hlt:g<w.heap.size:=World.block_lt_of_cell? _ _ h1;exact ⟨g,o,hp,(k.cell hlt (hS g hg)).trans h1⟩
theorem IAt.kept {w w':World} {v:Value} {l:List Nat} (h:IAt w v l) (k:Kept w w'):IAt w' v l:=h.fr (S:=fun _=>False) ⟨k.os,k.tape,k.output,k.size,fun i hi _=>k.block i hi⟩ (fun _ _ h=>h)
theorem IAt.addr {w:World} {v:Value} {l:List Nat} (h:IAt w v l) (h0:0<l.length):∃ g o c,v = .slice (some ⟨g,o,none⟩) l.length c/\∀ i,i<l.length->w.cell? ⟨g,o+i,none⟩=some (.int .i64 (l.getD i 0:Int)):=by
 obtain ⟨p,c,hv⟩:=h.form;obtain ⟨g,o,hp,_⟩:=h.cells p c hv 0 h0;refine ⟨g,o,c,by rw[hv,hp],fun i hi => ?_⟩;obtain ⟨g',o',hp',h1⟩:=h.cells p c hv i hi;rw[hp] at hp'
 injection hp' with e
 injection e with e1 e2
 subst e1;subst e2;exact h1
theorem Fa (v:Value) (l:List Nat) (s:Nat) (w:World) (h:IAt w v l) (hl:Px.bD l) (hs:s<l.length) :
  Calls Tryz.prog 133 #[v,.int .i64 (s:Int)] w fun r w'=>r = .returned (.int .i64 (Px.codeOf l s:Int))/\Kept w w':=by
 obtain ⟨g,o,c,rfl,hc⟩:=h.addr (by omega);have hlen:=hl.2;have hS:=Px.iE hl s;have hcs:=hc s hs;have HC:Hid (∀ i,i<l.length->w.cell? ⟨g,o+i,none⟩=some (.int .i64 (l.getD i 0:Int))):=hc;clear hc h;go_enter Tryz.func133,Tryz.ntmps133;go_wp2;go_loopw [5,6] (fun u j W=>∃ t:Nat,t<=l.length/\u = .int .i64 (Px.lA l s t:Int)/\j = .int .i64 (t:Int)/\Kept w W) (fun _ j _=>l.length - (intOf j).toNat)
 case atStart=>exact ⟨0,by omega,rfl,rfl,Kept.refl _⟩
 case round=>
  obtain ⟨t,ht,rfl,rfl,hk⟩:=hrel;by_cases hlt:t<l.length
  ·have h1:wr.cell? ⟨g,o+t,none⟩=some (.int .i64 (l.getD t 0:Int)):=by
    have:=HC.out t hlt;exact (hk.cell (p:=⟨g,o+t,none⟩) (World.block_lt_of_cell? _ _ this)).trans this
   have h2:wr.cell? ⟨g,o+s,none⟩=some (.int .i64 (l.getD s 0:Int)):=(hk.cell (p:=⟨g,o+s,none⟩) (World.block_lt_of_cell? _ _ hcs)).trans hcs;have hT:=Px.iE hl t;have hcu:=Px.xw hl s t;have HN:Hid (Px.lA l s (t+1)=Px.lA l s t+if 0<l.getD t 0/\(l.getD t 0<l.getD s 0\/(l.getD t 0=l.getD s 0/\t<s)) then 2^(l.getD s 0 - l.getD t 0) else 0):=rfl;have hb:Px.lA l s t<=10485760:=by omega
   clear hcu;generalize Px.lA l s t=C at *;generalize l.getD t 0=T at *;generalize l.getD s 0=S at *;have hcase:(0<T/\T<S)\/(0<T/\T=S/\t<s)\/(T=S/\¬ t<s)\/S<T\/(T=0/\T<S)\/(T=0/\T=S/\t<s):=by omega
   rcases hcase with ⟨q1,q2⟩ | ⟨q1,q2,q3⟩ | ⟨q2,q3⟩ | q2 | ⟨q1,q2⟩ | ⟨q1,q2,q3⟩
   ·have hp:=Px.xc (S - T) (by omega)
    go_wp2;go_quiet (fail);have h1':(wr.drewN nq).cell? ⟨g,o+t,none⟩=_:=h1;have h2':(wr.drewN nq).cell? ⟨g,o+s,none⟩=_:=h2;have hk':Hid (Kept w (wr.drewN nq)):=hk.drewN nq;generalize wr.drewN nq=wr1 at *;clear h1 h2;go_wp2;go_quiet (fail);go_wp2;have e0:((S:Int) - (T:Int)).toNat=S - T:=by omega
    refine ⟨⟨t+1,by omega,aV ?_,by go_num,hk'.out.drewN _⟩,by simp [intOf];omega⟩;rw[HN.out,if_pos (by omega)];have ep:(2:Int)^(S - T)=((2^(S - T):Nat):Int):=by simp
    generalize 2^(S - T)=M at *;rw[ep,bB (M:Int) (by omega) (by omega),<- Int.natCast_add,bB _ (by omega) (by omega)]
   ·have hp:=Px.xc (S - T) (by omega)
    go_wp2;go_quiet (fail);have h1':(wr.drewN nq).cell? ⟨g,o+t,none⟩=_:=h1;have h2':(wr.drewN nq).cell? ⟨g,o+s,none⟩=_:=h2;have hk':Hid (Kept w (wr.drewN nq)):=hk.drewN nq;generalize wr.drewN nq=wr1 at *;clear h1 h2;go_wp2;go_quiet (fail);go_wp2;have e0:((S:Int) - (T:Int)).toNat=S - T:=by omega
    refine ⟨⟨t+1,by omega,aV ?_,by go_num,hk'.out.drewN _⟩,by simp [intOf];omega⟩;rw[HN.out,if_pos (by omega)];rw[q2,Nat.sub_self];simp
   ·skip
    go_wp2;go_quiet (fail);have h1':(wr.drewN nq).cell? ⟨g,o+t,none⟩=_:=h1;have h2':(wr.drewN nq).cell? ⟨g,o+s,none⟩=_:=h2;have hk':Hid (Kept w (wr.drewN nq)):=hk.drewN nq;generalize wr.drewN nq=wr1 at *;clear h1 h2;go_wp2
    all_goals
     refine ⟨⟨t+1,by omega,aV ?_,by go_num,hk'.out⟩,by simp [intOf];omega⟩;rw[HN.out,if_neg (by omega),Nat.add_zero]
   ·have gq:((T:Int) == (S:Int))=false:=beq_eq_false_iff_ne.2 (by omega)
    have gq2:decide (T<S)=false:=decide_eq_false (by omega);go_wp2;go_quiet (fail);have h1':(wr.drewN nq).cell? ⟨g,o+t,none⟩=_:=h1;have h2':(wr.drewN nq).cell? ⟨g,o+s,none⟩=_:=h2;have hk':Hid (Kept w (wr.drewN nq)):=hk.drewN nq;generalize wr.drewN nq=wr1 at *;clear h1 h2;go_wp2
    all_goals
     refine ⟨⟨t+1,by omega,aV ?_,by go_num,hk'.out⟩,by simp [intOf];omega⟩;rw[HN.out,if_neg (by omega),Nat.add_zero]
   ·subst q1
    go_wp2;go_quiet (fail);have h1':(wr.drewN nq).cell? ⟨g,o+t,none⟩=_:=h1;have h2':(wr.drewN nq).cell? ⟨g,o+s,none⟩=_:=h2;have hk':Hid (Kept w (wr.drewN nq)):=hk.drewN nq;generalize wr.drewN nq=wr1 at *;clear h1 h2;go_wp2
    all_goals
     refine ⟨⟨t+1,by omega,aV ?_,by go_num,hk'.out⟩,by simp [intOf];omega⟩;rw[HN.out,if_neg (by omega),Nat.add_zero]
   ·subst q1
    subst q2;go_wp2;go_quiet (fail);have h1':(wr.drewN nq).cell? ⟨g,o+t,none⟩=_:=h1;have h2':(wr.drewN nq).cell? ⟨g,o+s,none⟩=_:=h2;have hk':Hid (Kept w (wr.drewN nq)):=hk.drewN nq;generalize wr.drewN nq=wr1 at *;clear h1 h2;go_wp2
    all_goals
     refine ⟨⟨t+1,by omega,aV ?_,by go_num,hk'.out⟩,by simp [intOf];omega⟩;rw[HN.out,if_neg (by omega),Nat.add_zero]
  ·have hfin:Hid (t=l.length):=by show _=_;omega
   go_wp2;go_ret;exact ⟨ah (by rw[hfin.out];rfl),hk⟩
theorem fX (v:Value) (l:List Nat) (lone none:Bool) (w:World) (h:IAt w v l) (hl:Px.bD l) :
  Calls Tryz.prog 109 #[v,.bool lone,.bool none] w fun r w'=>r = .returned (.bool (Px.db l lone none))/\Kept w w':=by
 have hlen:=hl.2;obtain ⟨p,c,rfl⟩:=h.form;have HC:Hid (∀ i,i<l.length->∃ g o,p=some ⟨g,o,Option.none⟩/\w.cell? ⟨g,o+i,Option.none⟩=some (.int .i64 (l.getD i 0:Int))):=h.cells p c rfl;clear h;go_enter Tryz.func109,Tryz.ntmps109;go_wp2;go_loopw [7,8,9,10] (fun u1 u2 u3 j W=>∃ t:Nat,t<=l.length/\u1 = .int .i64 (Px.fU l t:Int)/\u2 = .int .i64 (Px.fG l t:Int)/\u3 = .int .i64 (Px.mG l t:Int)/\j = .int .i64 (t:Int)/\Kept w W) (fun _ _ _ j _=>l.length - (intOf j).toNat)
 case atStart=>exact ⟨0,by omega,rfl,rfl,rfl,rfl,Kept.refl _⟩
 case round=>
  obtain ⟨t,ht,rfl,rfl,rfl,rfl,hk⟩:=hrel;have b1:=Px.Gm l t;have b2:=Px.IH l t;have b3:=Px.GS l t;by_cases hlt:t<l.length
  ·obtain ⟨g,o,rfl,h0⟩:=HC.out t hlt
   have h1:wr.cell? ⟨g,o+t,Option.none⟩=some (.int .i64 (l.getD t 0:Int)):=(hk.cell (p:=⟨g,o+t,Option.none⟩) (World.block_lt_of_cell? _ _ h0)).trans h0;have hT:=Px.iE hl t;have N1:Hid (Px.fU l (t+1)=Px.fU l t+if 0<l.getD t 0 then 2^(15 - l.getD t 0) else 0):=rfl;have N2:Hid (Px.fG l (t+1)=Px.fG l t+if 0<l.getD t 0 then 1 else 0):=rfl;have N3:Hid (Px.mG l (t+1)=Px.mG l t+if l.getD t 0=1 then 1 else 0):=rfl;have hb1:Px.fU l t<=10485760:=by omega
   have hb2:Px.fG l t<=320:=by omega
   have hb3:Px.mG l t<=320:=by omega
   clear b1 b2 b3 h0;generalize Px.fU l t=A1 at *;generalize Px.fG l t=A2 at *;generalize Px.mG l t=A3 at *;generalize l.getD t 0=T at *;have hp:=Px.xc (15 - T) (by omega);have hcase:T=0\/T=1\/1<T:=by omega
   rcases hcase with q | q | q
   ·subst q
    go_wp2;refine ⟨⟨t+1,by omega,aV ?_,aV ?_,aV ?_,by go_num,hk⟩,by simp [intOf];omega⟩
    ·rw[N1.out];simp
    ·rw[N2.out];simp
    ·rw[N3.out];simp
   ·subst q
    go_wp2;refine ⟨⟨t+1,by omega,aV ?_,aV ?_,aV ?_,by go_num,hk⟩,by simp [intOf];omega⟩
    ·rw[N1.out];simp
    ·rw[N2.out];simp
    ·rw[N3.out];simp
   ·go_wp2
    have ep:(2:Int)^(15 - T)=((2^(15 - T):Nat):Int):=by simp
    refine ⟨⟨t+1,by omega,aV ?_,aV ?_,aV ?_,by go_num,hk⟩,by simp [intOf];omega⟩
    ·rw[N1.out,if_pos (by omega)]
     generalize 2^(15 - T)=M at *;rw[ep,bB (M:Int) (by omega) (by omega),<- Int.natCast_add,bB _ (by omega) (by omega)]
    ·rw[N2.out,if_pos (by omega)];simp
    ·rw[N3.out,if_neg (by omega)];simp
  ·have hfin:Hid (t=l.length):=by show _=_;omega
   have hb1:Px.fU l t<=10485760:=by omega
   have hb2:Px.fG l t<=320:=by omega
   have hb3:Px.mG l t<=320:=by omega
   go_wp2
   all_goals go_ret
   all_goals (refine ⟨bj ?_,hk⟩;have e:=hfin.out;unfold Px.db;rw[<- e];clear hfin e HC b1 b2 b3 hlt hl hlen ht hk)
   all_goals (generalize Px.fU l t=A1 at *;generalize Px.fG l t=A2 at *;generalize Px.mG l t=A3 at *)
   all_goals (simp only [beq_iff_eq,beq_eq_false_iff_ne,ne_eq] at *)
   all_goals first
    | (rw[if_pos (by omega)])
    | (rw[if_neg (by omega)];first | ((have h1:A1=32768:=(by omega));subst h1;simp) | ((have h1:¬ A1=32768:=(by omega));simp [h1, *];try (rw[Bool.eq_iff_iff];simp only [Bool.or_eq_true,Bool.and_eq_true,beq_iff_eq,decide_eq_true_eq];omega)))
theorem rS:(Tryz.prog.info? 3).map (fun i=>(i.zero,i.size,i.bytes))=some (some (.int .i64 0),1,8):=by kernel_rfl
theorem uI {w:World} {base base':Nat} {e:TypeId} {size:Nat} {v:Value} {n:Nat} {xs:List Value} (h:w.ownsRow base e size v n xs) (hb:base'<=base):w.ownsRow base' e size v n xs:=by
 obtain ⟨h1,h2⟩:=h;refine ⟨h1,?_⟩;rcases h2 with h2 | ⟨g,cap,cur,hv,hg,r⟩
 ·exact Or.inl h2
 ·exact Or.inr ⟨g,cap,cur,hv,by omega,r⟩
theorem cC {w W:World} {base:Nat} {e:TypeId} {size:Nat} {v:Value} {n:Nat} {xs:List Value} (h:w.ownsRow base e size v n xs) (k:Kept w W):W.ownsRow base e size v n xs:=
 h.kept (row:=none) ⟨k.os,k.tape,k.output,k.size,fun j hj _=>k.block j hj⟩ (by cases hv:v.ownBlock;exact Or.inl rfl;exact Or.inr (by simp))
def ints (l:List Nat):List Value:=l.map fun (n:Nat)=>Value.int .i64 (n:Int)
theorem Aq (l:List Nat) (i:Nat) (h:i<l.length):(ints l)[i]? = some (.int .i64 (l.getD i 0:Int)):=by
 simp [ints,List.getElem?_map,List.getElem?_eq_getElem h,List.getD_eq_getElem?_getD]
theorem xi (l:List Nat) (x:Nat):ints (l++[x])=ints l++[.int .i64 (x:Int)]:=by simp [ints]
theorem mK {w:World} {base:Nat} {v:Value} {l:List Nat} (h:w.ownsRow base 3 1 v l.length (ints l)):IAt w v l:=by
 rcases h.2 with ⟨hv,h0⟩ | ⟨g,cap,cur,hv,hg,r⟩
 ·refine ⟨⟨none,0,by rw[hv,h0]⟩,?_⟩
  intro p c _ i hi;omega
 ·refine ⟨⟨_,_,hv⟩,?_⟩
  intro p c hp i hi;rw[hv] at hp
  injection hp with hp _ _
  refine ⟨g,0,hp.symm,?_⟩
  have:=h.cells (by rw[hv];rfl) i _ (Aq l i hi)
  have e:(Addr.add ⟨g,0,none⟩ i)=⟨g,0+i,none⟩:=by simp [Addr.add];intro h;exact h.symm
  rw[e] at this;exact this
theorem aq {w:World} {base:Nat} {e:TypeId} {size:Nat} {v:Value} {n:Nat} {xs:List Value} (h:w.ownsRow base e size v n xs):∃ p c,v = .slice p n c:=by
 rcases h.2 with ⟨hv,h0⟩ | ⟨g,cap,cur,hv,hg,r⟩
 ·exact ⟨none,0,by rw[hv,h0]⟩
 ·exact ⟨_,_,hv⟩
theorem cT (w:World) {ops:Array Oper} {rest:List Oper} {o:Oper} {a:Act} {Q:Exit->Act->World->Prop}
  (T E:TypeId) (size bytes:Nat) (zero:Value) (hT:Tryz.prog.underlying T=some (.slice E)) (hI:(Tryz.prog.info? E).map (fun i=>(i.zero,i.size,i.bytes))=some (some zero,size,bytes)) (hzc:zero.cells.size=size) (hpos:0<size)
  (hg:o.guard=none) (s x:Operand) (hop:o.op=Op.call { callee:=Callee.builtin Builtin.append,args:=#[s,x],argTypes:=#[T,T] })
  (base:Nat) (v:Value) (n:Nat) (xs:List Value) (hs:a.eval s=v) (hown:w.ownsRow base E size v n xs)
  (ad:Addr) (m c:Nat) (news:List Value) (hx:a.eval x = .slice (some ad) m c) (hn:news.length=m*size) (hm:0<m)
  (hc:∀ j u,news[j]? = some u->w.cell? (ad.add j)=some u) (h1c:∀ u ∈ news,u.oneCell'=true) (hml:n+m<=maxLen) (hb:(n+m)*bytes<=140737488355328) (hbase:base<=w.heap.size)
  (hK:∀ v' w',w'.ownsRow base E size v' (n+m) (xs++news)->w.grownBy w' v.ownBlock->(∀ k,v'.ownBlock=some k->v.ownBlock=some k\/w.heap.size<=k)->wpList Tryz.prog ops Q rest (a.put o.dst v') w') :
  wpList Tryz.prog ops Q (o::rest) a w:=by
 obtain ⟨i0,hi,hz0,hz1,hz2⟩:=info_parts hI;have fin:∀ v' w',w'.ownsRow w.heap.size E size v' (n+m) (xs++news)->w.grownBy w' none->wpList Tryz.prog ops Q rest (a.put o.dst v') w':=by
  intro v' w' h1 h2;refine hK v' w' (uI h1 hbase) ⟨h2.os,h2.tape,h2.output,h2.size,fun k hk _=>h2.block k hk (by simp)⟩ (fun k hk=>Or.inr ((h1.lt k hk).1))
 rcases hown.2 with ⟨rfl,h0⟩ | ⟨g,cap,cur,rfl,hgb,hh,hnc,hcm,hcs,htk⟩
 ·subst h0
  have hx0:xs=[]:=List.eq_nil_of_length_eq_zero (by simpa using hown.1);subst hx0;exact wpList_append_grows w hg s x T hop E i0 zero size bytes hT hi hz0 hz1 hz2 hzc hpos none 0 0 [] hs (fun _=>⟨rfl,rfl⟩) (by simp) (fun b hb=>by cases hb) ad m c news hx hn hc h1c (by omega) hml hb fin
 ·by_cases hf:n+m<=cap
  ·refine wpList_append_fits w hg s x T hop base E i0 size hT hi hz1 g n cap xs hs hown ad m c news hx hn hc h1c hf ?_
   intro w' h1 h2;exact hK _ w' h1 h2 (fun k hk=>Or.inl hk)
  ·exact wpList_append_grows w hg s x T hop E i0 zero size bytes hT hi hz0 hz1 hz2 hzc hpos (some ⟨g,0,none⟩) n cap xs hs (fun h=>by cases h) hown.1 (fun b hb j u hj=>by cases hb;exact hown.cells rfl j u hj) ad m c news hx hn hc h1c (by omega) hml hb fin
theorem cI (w:World) {ops:Array Oper} {rest:List Oper} {o:Oper} {a:Act} {Q:Exit->Act->World->Prop}
  (hg:o.guard=none) (s x:Operand) (hop:o.op=Op.call { callee:=Callee.builtin Builtin.append,args:=#[s,x],argTypes:=#[30,30] })
  (base:Nat) (v:Value) (l:List Nat) (hs:a.eval s=v) (hown:w.ownsRow base 3 1 v l.length (ints l))
  (g c e:Nat) (hx:a.eval x = .slice (some ⟨g,0,none⟩) 1 c) (hc:w.cell? ⟨g,0,none⟩=some (.int .i64 (e:Int))) (hb:l.length+1<=1048576) (hbase:base<=w.heap.size)
  (hK:∀ v' w',w'.ownsRow base 3 1 v' (l++[e]).length (ints (l++[e]))->w.grownBy w' v.ownBlock->(∀ k,v'.ownBlock=some k->v.ownBlock=some k\/w.heap.size<=k)->wpList Tryz.prog ops Q rest (a.put o.dst v') w') :
  wpList Tryz.prog ops Q (o::rest) a w:=by
 refine cT w 30 3 1 8 (.int .i64 0) Tryz.underlying30 rS rfl (by omega) hg s x hop base v l.length (ints l) hs hown ⟨g,0,none⟩ 1 c [.int .i64 (e:Int)] hx rfl (by omega) ?_ ?_ (by unfold maxLen;omega) (by omega) hbase ?_
 ·intro j u hj
  match j,hj with
  | 0,hj=>simp at hj;subst hj;exact hc
  | j+1,hj=>simp at hj
 ·intro u hu;simp at hu;subst hu;rfl
 ·intro v' w' h1 h2 h3
  exact hK v' w' (by rw[xi,List.length_append];exact h1) h2 h3
def cG (l:List Nat):List Nat:=(List.range l.length).map (Px.codeOf l)
structure si (w:World) (B:Nat) (l:List Nat) (S:Nat->Prop):Prop where
 ex:∃ v cv,w.cell? ⟨B,0,none⟩=some v/\w.cell? ⟨B,1,none⟩=some cv/\IAt w v l/\IAt w cv (cG l)/\(∀ g,ae v=some g->¬ S g)/\(∀ g,ae cv=some g->¬ S g)
 out:¬ S B
theorem si.fr {S:Nat->Prop} {w w':World} {B:Nat} {l:List Nat} (h:si w B l S) (k:Fr S w w'):si w' B l S:=by
 obtain ⟨v,cv,h1,h2,h3,h4,h5,h6⟩:=h.ex;have hB:B<w.heap.size:=World.block_lt_of_cell? _ _ h1;exact ⟨⟨v,cv,(k.cell hB h.out).trans h1,(k.cell hB h.out).trans h2,h3.fr k h5,h4.fr k h6,h5,h6⟩,h.out⟩
theorem AG (l:List Nat) (n:Nat) (h:n<l.length):(cG l).take (n+1)=(cG l).take n++[Px.codeOf l n]:=by
 have hl:(cG l).length=l.length:=by simp [cG]
 rw[List.take_succ_eq_append_getElem (by omega)]
 congr 2
 simp [cG]
theorem cj (v:Value) {w:World} {base:Nat} {e:TypeId} {size n:Nat} {xs:List Value} (h:w.ownsRow base e size v n xs):ae v=v.ownBlock:=by
 rcases h.2 with ⟨hv,h0⟩ | ⟨g',cap,cur,hv,hg',r⟩<;>rw[hv]<;>rfl
theorem fH (v:Value) (l:List Nat) (S:Nat->Prop) (w:World) (h:IAt w v l) (hl:Px.bD l) (hS:∀ g,ae v=some g->¬ S g) (hN:∀ g,w.heap.size<=g->¬ S g) (hv:∀ g,ae v=some g->g<w.heap.size) :
  Calls Tryz.prog 104 #[v] w fun r w'=>∃ B,r = .returned (.pointer (some ⟨B,0,none⟩))/\si w' B l S/\Kept w w':=by
 have hlen:=hl.2;obtain ⟨p,c,rfl⟩:=h.form;go_enter Tryz.func104,Tryz.ntmps104;go_wp2;have hlt:w.heap.size<(w.alloc (Obj.cells #[Value.slice p l.length c,Value.slice none 0 0] 193)).heap.size:=by simp
 have hk0:Kept w (w.alloc (Obj.cells #[Value.slice p l.length c,Value.slice none 0 0] 193)):=(Below.refl _ _).alloc (Nat.le_refl _) _;go_loopw [4] (fun j W=>∃ k:Nat,∃ cv:Value,k<=l.length/\j = .int .i64 (k:Int)/\W.cell? ⟨w.heap.size,0,none⟩=some (.slice p l.length c)/\W.cell? ⟨w.heap.size,1,none⟩=some cv/\W.frozen? ⟨w.heap.size,1,none⟩=false/\W.ownsRow (w.heap.size+1) 3 1 cv ((cG l).take k).length (ints ((cG l).take k))/\Kept w W) (fun j _=>l.length - (intOf j).toNat)
 case atStart=>exact ⟨0,.slice none 0 0,by omega,rfl,by rw[World.cell?_alloc_at _ _ _ _ rfl];rfl,by rw[World.cell?_alloc_at _ _ _ _ rfl];rfl,World.frozen?_alloc_at _ _ _ _ rfl,World.ownsRow_nil _ _ _ _,hk0⟩
 case round=>
  obtain ⟨k,cv,hk,rfl,h0,h1,hf,ho,hK⟩:=hrel;have hB:w.heap.size<wr.heap.size:=World.block_lt_of_cell? _ _ h0;by_cases hlt2:k<l.length
  ·have hcl:((cG l).take k).length=k:=by simp [cG];omega
   have F:Hid (Calls Tryz.prog 133 #[.slice p l.length c,.int .i64 (k:Int)] wr fun r w'=>r = .returned (.int .i64 (Px.codeOf l k:Int))/\Kept wr w'):=Fa _ l k wr (h.kept hK) hl hlt2;have HT:=AG l k hlt2;replace HT:Hid ((cG l).take (k+1)=(cG l).take k++[Px.codeOf l k]):=HT;generalize Px.codeOf l k=C at *;generalize (cG l).take k=L at *;go_wp2_with fail;refine F.out.mono ?_;rintro r w1 ⟨rfl,hk1⟩;have h0':w1.cell? ⟨w.heap.size,0,none⟩=_:=(hk1.cell (p:=⟨w.heap.size,0,none⟩) hB).trans h0;have h1':w1.cell? ⟨w.heap.size,1,none⟩=_:=(hk1.cell (p:=⟨w.heap.size,1,none⟩) hB).trans h1;have hf':w1.frozen? ⟨w.heap.size,1,none⟩=false:=(hk1.frozen (p:=⟨w.heap.size,1,none⟩) hB).trans hf;have ho':Hid (w1.ownsRow (w.heap.size+1) 3 1 cv L.length (ints L)):=cC ho hk1;have hK':Hid (Kept w w1):=hK.trans hk1;have hB':w.heap.size<w1.heap.size:=World.block_lt_of_cell? _ _ h0';clear h0 h1 hf ho hK hB;go_wp2_with (at_builtin;refine cI _ rfl _ _ rfl (w.heap.size+1) cv L rfl (ho'.out.alloc _) w1.heap.size 1 C rfl (by simp) (by omega) (by simp;omega) ?_)
   intro v' w2 ho2 hg2 hn2;obtain ⟨p',c',rfl⟩:=aq ho2;have hne:some w.heap.size≠cv.ownBlock:=fun e=>by have:=(ho'.out.lt _ e.symm).1;omega
   have hs1:w.heap.size<(w1.alloc (Obj.cells #[Value.int .i64 (C:Int)] 3)).heap.size:=by simp;omega
   have blk:w2.heap[w.heap.size]? = w1.heap[w.heap.size]? := (hg2.block _ hs1 hne).trans (Below.heap_alloc _ _ _ hB');have h0'':w2.cell? ⟨w.heap.size,0,none⟩=_:=(World.cell?_of_block (w:=w1) blk).trans h0';have h1'':w2.cell? ⟨w.heap.size,1,none⟩=_:=(World.cell?_of_block (w:=w1) blk).trans h1';have hf'':w2.frozen? ⟨w.heap.size,1,none⟩=false:=(World.frozen?_of_block (w:=w1) blk).trans hf';have hK2:Hid (Kept w w2):=(hK'.out.alloc (Nat.le_of_lt hB') _).grown hg2 (Nat.le_of_lt hs1) (fun j hj=>by have:=(ho'.out.lt j hj).1;omega);have HO2:Hid (w2.ownsRow (w.heap.size+1) 3 1 (.slice p' (k+1) c') (k+1) (ints (L++[C]))):=ho2;clear h0' h1' hf' ho2 hg2 hn2 hs1 blk;go_wp2;refine ⟨⟨k+1,_,by omega,by go_num,?_,aj h1'' _,?_,?_,?_⟩,by simp [intOf];omega⟩
   ·rw[aa _ _ _ _ _ (by omega)];exact h0''
   ·rw[World.frozen?_setCell];exact hf''
   ·rw[HT.out,List.length_append,hcl]
    exact ownsRow_setCell_below HO2.out (show w.heap.size<w.heap.size+1 by omega) _
   ·exact hK2.out.setCell (Nat.le_refl _) _
  ·have hke:k=l.length:=by omega
   have hall:(cG l).take k=cG l:=List.take_of_length_le (by simp [cG];omega);go_wp2;go_ret;rw[hall] at ho;refine ⟨w.heap.size,rfl,⟨⟨.slice p l.length c,cv,h0,h1,h.kept hK,mK ho,hS,?_⟩,hN _ (Nat.le_refl _)⟩,hK⟩;intro g hg;rw[cj _ ho] at hg
   have:=(ho.lt g hg).1
   exact hN g (by omega)
