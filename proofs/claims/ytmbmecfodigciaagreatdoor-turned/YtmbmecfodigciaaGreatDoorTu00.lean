import Derived.Test.YtmbmecfodigciaaGreatDoorProg
import Derived.WalkKit
import Derived.WalkSpells
import Derived.WalkLawsBesides
import Derived.Laws.BitsAllLaws
import Derived.BigQuiet
import Derived.Deep.QuietTactic
import Derived.Deep.RegionHeld3
set_option maxRecDepth 100000
set_option maxHeartbeats 6400000
/-
 Plain mathematics,no Go: bits and numbers of a list of bytes.
-/
namespace Px
end Px
namespace Go.Proofs.YtmbmecfodigciaaGreatDoor
open Go.RowKit
theorem ret_bool {a b:Bool} (h:a=b):Ending.returned (.bool a) = .returned (.bool b):=by rw[h]
theorem ret_int {k:IntKind} {a b:Int} (h:a=b):Ending.returned (.int k a) = .returned (.int k b):=by rw[h]
theorem val_int {k:IntKind} {a b:Int} (h:a=b):Value.int k a = .int k b:=by rw[h]
theorem val_bool {a b:Bool} (h:a=b):Value.bool a = .bool b:=by rw[h]
abbrev Kept (w w':World):Prop:=Below w.heap.size w w'
theorem Kept.refl (w:World):Kept w w:=Below.refl _ _
theorem Kept.trans {a b c:World} (h:Kept a b) (k:Kept b c):Kept a c:=Below.trans h (k.mono h.size)
theorem Kept.drewN {a w:World} (h:Kept a w) (n:Nat):Kept a (w.drewN n):=below_drewN h n
theorem cell_set_other (w:World) (b k j:Nat) (v:Value) (h:k≠j):(w.setCell ⟨b,k,none⟩ v).cell? ⟨b,j,none⟩=w.cell? ⟨b,j,none⟩ :=
 World.cell?_setCell_other _ _ _ _ (by intro e;apply h;injection e)
theorem cell_set_same {w:World} {a:Addr} {u:Value} (h:w.cell? a=some u) (v:Value):(w.setCell a v).cell? a=some v:=World.cell?_setCell_same _ _ _ h
structure Fr (S:Nat->Prop) (w w':World):Prop where
 os:w'.os=w.os
 tape:w'.tape=w.tape
 output:w'.output=w.output
 size:w.heap.size<=w'.heap.size
 block:∀ k,k<w.heap.size->¬ S k->w'.heap[k]? = w.heap[k]?
theorem Fr.refl (S:Nat->Prop) (w:World):Fr S w w:=⟨rfl,rfl,rfl,Nat.le_refl _,fun _ _ _=>rfl⟩
theorem Fr.trans {S:Nat->Prop} {x y z:World} (h:Fr S x y) (k:Fr S y z):Fr S x z:=
 ⟨k.os.trans h.os,k.tape.trans h.tape,k.output.trans h.output,Nat.le_trans h.size k.size,fun i hi hn=>(k.block i (Nat.lt_of_lt_of_le hi h.size) hn).trans (h.block i hi hn)⟩
theorem Fr.trans' {S T:Nat->Prop} {x y z:World} (h:Fr S x y) (k:Fr T y z) (hT:∀ i,i<x.heap.size->T i->S i):Fr S x z:=
 ⟨k.os.trans h.os,k.tape.trans h.tape,k.output.trans h.output,Nat.le_trans h.size k.size,fun i hi hn=>(k.block i (Nat.lt_of_lt_of_le hi h.size) (fun t=>hn (hT i hi t))).trans (h.block i hi hn)⟩
theorem Fr.mono {S T:Nat->Prop} {x y:World} (h:Fr S x y) (hT:∀ i,i<x.heap.size->S i->T i):Fr T x y:=
 ⟨h.os,h.tape,h.output,h.size,fun i hi hn=>h.block i hi (fun s=>hn (hT i hi s))⟩
theorem Fr.of_kept {S:Nat->Prop} {x y:World} (k:Kept x y):Fr S x y:=⟨k.os,k.tape,k.output,k.size,fun i hi _=>k.block i hi⟩
theorem Fr.kept {S:Nat->Prop} {x y z:World} (h:Fr S x y) (k:Kept y z):Fr S x z:=h.trans (Fr.of_kept k)
theorem Fr.setCell {S:Nat->Prop} {x y:World} (h:Fr S x y) {b:Nat} (hb:S b\/x.heap.size<=b) (k:Nat) (v:Value):Fr S x (y.setCell ⟨b,k,none⟩ v) :=
 ⟨h.os,h.tape,h.output,by simpa [World.setCell] using h.size,fun i hi hn=>(Below.heap_setCell _ _ _ _ (by rintro rfl;rcases hb with hb | hb;exact hn hb;exact absurd hi (Nat.not_lt.2 hb))).trans (h.block i hi hn)⟩
theorem Fr.drewN {S:Nat->Prop} {x y:World} (h:Fr S x y) (n:Nat):Fr S x (y.drewN n):=h.kept ((Kept.refl _).drewN n)
theorem Fr.alloc {S:Nat->Prop} {x y:World} (h:Fr S x y) (o:Obj):Fr S x (y.alloc o):=h.kept ((Below.refl _ _).alloc (Nat.le_refl _) o)
theorem Fr.to_kept {S:Nat->Prop} {x y z:World} (h:Kept x y) (k:Fr S y z) (hS:∀ i,i<x.heap.size->¬ S i):Kept x z:=
 ⟨k.os.trans h.os,k.tape.trans h.tape,k.output.trans h.output,Nat.le_trans h.size k.size,fun i hi=>(k.block i (Nat.lt_of_lt_of_le hi h.size) (hS i hi)).trans (h.block i hi)⟩
theorem Fr.cell {S:Nat->Prop} {w w':World} (h:Fr S w w') {c k:Nat} (hc:c<w.heap.size) (hn:¬ S c):w'.cell? ⟨c,k,none⟩=w.cell? ⟨c,k,none⟩:=World.cell?_of_block (w:=w) (h.block c hc hn)
theorem Fr.frozen {S:Nat->Prop} {w w':World} (h:Fr S w w') {c k:Nat} (hc:c<w.heap.size) (hn:¬ S c):w'.frozen? ⟨c,k,none⟩=w.frozen? ⟨c,k,none⟩:=World.frozen?_of_block (w:=w) (h.block c hc hn)
abbrev Fr1 (b:Nat):World->World->Prop:=Fr (fun k=>k=b)
theorem Fr1.refl (b:Nat) (w:World):Fr1 b w w:=Fr.refl _ _
theorem Fr1.set {b:Nat} {x y:World} (h:Fr1 b x y) (k:Nat) (v:Value):Fr1 b x (y.setCell ⟨b,k,none⟩ v):=Fr.setCell h (Or.inl rfl) k v
theorem Fr1.drewN {b:Nat} {x y:World} (h:Fr1 b x y) (n:Nat):Fr1 b x (y.drewN n):=Fr.drewN h n
theorem ofInt_64 (a:Nat) (ha:a<4294967296):(BitVec.ofInt 64 (a:Int)).toNat=a:=by
 rw[BitVec.ofInt_natCast,BitVec.toNat_ofNat];exact Nat.mod_eq_of_lt (by omega)
end Go.Proofs.YtmbmecfodigciaaGreatDoor
namespace Px
def upd {A:Type} (f:Nat->A) (i:Nat) (v:A):Nat->A:=fun j=>if j=i then v else f j
theorem upd_same {A:Type} (f:Nat->A) (i:Nat) (v:A):upd f i v i=v:=if_pos rfl
theorem upd_ne {A:Type} (f:Nat->A) (i:Nat) (v:A) {j:Nat} (h:j≠i):upd f i v j=f j:=if_neg h
end Px
namespace Go.Proofs.YtmbmecfodigciaaGreatDoor
open Go.RowKit Px
structure Pt where
 bits:Nat
 offset:Nat
 ahead:Nat
structure PtV (c:Nat->Value) (o:Nat) (s:Pt):Prop where
 bits:c (o) = .int .i64 (s.bits:Int)
 offset:c (o+1) = .int .i64 (s.offset:Int)
 ahead:c (o+2) = .int .i64 (s.ahead:Int)
theorem PtV.congr {c d:Nat->Value} {o:Nat} {s:Pt} (h:PtV c o s) (e:∀ i,o<=i->i<o+3->d i=c i):PtV d o s:=
 ⟨(e _ (by omega) (by omega)).trans h.bits,(e _ (by omega) (by omega)).trans h.offset,(e _ (by omega) (by omega)).trans h.ahead⟩
theorem un {c:Nat->Value} {i k:Nat} {v x:Value} (h:c i=x) (e:i≠k:=by omega):upd c k v i=x:=(upd_ne _ _ _ e).trans h
theorem uc {c:Nat->Value} {a b k:Nat} {v:Value} (e:∀ i,a<=i->i<b->i≠k:=by omega):∀ i,a<=i->i<b->upd c k v i=c i:=fun i h1 h2=>upd_ne _ _ _ (e i h1 h2)
theorem PtV.set_bits {c:Nat->Value} {o:Nat} {s:Pt} (h:PtV c o s) (v:Nat):PtV (upd c (o) (.int .i64 (v:Int))) o { s with bits:=v } :=
 ⟨upd_same _ _ _,un h.offset,un h.ahead⟩
theorem PtV.set_offset {c:Nat->Value} {o:Nat} {s:Pt} (h:PtV c o s) (v:Nat):PtV (upd c (o+1) (.int .i64 (v:Int))) o { s with offset:=v } :=
 ⟨un h.bits,upd_same _ _ _,un h.ahead⟩
theorem PtV.set_ahead {c:Nat->Value} {o:Nat} {s:Pt} (h:PtV c o s) (v:Nat):PtV (upd c (o+2) (.int .i64 (v:Int))) o { s with ahead:=v } :=
 ⟨un h.bits,un h.offset,upd_same _ _ _⟩
structure CS where
 count:Nat->Nat
 sym:Nat->Nat
 total:Nat
 longest:Nat
structure CSV (c:Nat->Value) (o:Nat) (s:CS):Prop where
 count:∀ i,i<16->c (o+i) = .int .i64 (s.count i:Int)
 sym:∀ i,i<288->c (o+16+i) = .int .i64 (s.sym i:Int)
 total:c (o+304) = .int .i64 (s.total:Int)
 longest:c (o+305) = .int .i64 (s.longest:Int)
theorem CSV.congr {c d:Nat->Value} {o:Nat} {s:CS} (h:CSV c o s) (e:∀ i,o<=i->i<o+306->d i=c i):CSV d o s:=
 ⟨fun i hi=>(e _ (by omega) (by omega)).trans (h.count i hi),fun i hi=>(e _ (by omega) (by omega)).trans (h.sym i hi),(e _ (by omega) (by omega)).trans h.total,(e _ (by omega) (by omega)).trans h.longest⟩
theorem CSV.set_count {c:Nat->Value} {o:Nat} {s:CS} (h:CSV c o s) (k:Nat) (v:Nat) (hk:k<16):CSV (upd c (o+k) (.int .i64 (v:Int))) o { s with count:=upd s.count k v } :=
 ⟨fun i hi=>by
  by_cases e:i=k
  ·subst e;rw[upd_same];show _=Value.int .i64 ((upd s.count i v i:Nat):Int);rw[upd_same]
  ·rw[upd_ne _ _ _ (by omega)];show _=Value.int .i64 ((upd s.count k v i:Nat):Int);rw[upd_ne _ _ _ e];exact h.count i hi,fun i hi=>un (h.sym i hi),un h.total,un h.longest⟩
theorem CSV.set_sym {c:Nat->Value} {o:Nat} {s:CS} (h:CSV c o s) (k:Nat) (v:Nat) (hk:k<288):CSV (upd c (o+16+k) (.int .i64 (v:Int))) o { s with sym:=upd s.sym k v } :=
 ⟨fun i hi=>un (h.count i hi),fun i hi=>by
  by_cases e:i=k
  ·subst e;rw[upd_same];show _=Value.int .i64 ((upd s.sym i v i:Nat):Int);rw[upd_same]
  ·rw[upd_ne _ _ _ (by omega)];show _=Value.int .i64 ((upd s.sym k v i:Nat):Int);rw[upd_ne _ _ _ e];exact h.sym i hi,un h.total,un h.longest⟩
theorem CSV.set_total {c:Nat->Value} {o:Nat} {s:CS} (h:CSV c o s) (v:Nat):CSV (upd c (o+304) (.int .i64 (v:Int))) o { s with total:=v } :=
 ⟨fun i hi=>un (h.count i hi),fun i hi=>un (h.sym i hi),upd_same _ _ _,un h.longest⟩
theorem CSV.set_longest {c:Nat->Value} {o:Nat} {s:CS} (h:CSV c o s) (v:Nat):CSV (upd c (o+305) (.int .i64 (v:Int))) o { s with longest:=v } :=
 ⟨fun i hi=>un (h.count i hi),fun i hi=>un (h.sym i hi),un h.total,upd_same _ _ _⟩
structure Tb where
 literals:Nat
 distances:Nat
 shorts:Nat
 short:CS
 sl:Nat->Nat
 ls:Nat->Nat
 told:Nat
 rep:Int
structure TbV (c:Nat->Value) (o:Nat) (s:Tb):Prop where
 literals:c (o) = .int .i64 (s.literals:Int)
 distances:c (o+1) = .int .i64 (s.distances:Int)
 shorts:c (o+2) = .int .i64 (s.shorts:Int)
 short:CSV c (o+3) s.short
 sl:∀ i,i<19->c (o+309+i) = .int .u8 (s.sl i:Int)
 ls:∀ i,i<316->c (o+328+i) = .int .u8 (s.ls i:Int)
 told:c (o+644) = .int .i64 (s.told:Int)
 rep:c (o+645) = .int .i64 s.rep
theorem TbV.congr {c d:Nat->Value} {o:Nat} {s:Tb} (h:TbV c o s) (e:∀ i,o<=i->i<o+646->d i=c i):TbV d o s:=
 ⟨(e _ (by omega) (by omega)).trans h.literals,(e _ (by omega) (by omega)).trans h.distances,(e _ (by omega) (by omega)).trans h.shorts,h.short.congr (fun i h1 h2=>e i (by omega) (by omega)),fun i hi=>(e _ (by omega) (by omega)).trans (h.sl i hi),fun i hi=>(e _ (by omega) (by omega)).trans (h.ls i hi),(e _ (by omega) (by omega)).trans h.told,(e _ (by omega) (by omega)).trans h.rep⟩
theorem TbV.set_short {c d:Nat->Value} {o:Nat} {s:Tb} (h:TbV c o s) (v:CS) (hv:CSV d (o+3) v) (e:∀ i,¬ (o+3<=i/\i<o+309)->d i=c i):TbV d o { s with short:=v } :=
 ⟨(e _ (by omega)).trans h.literals,(e _ (by omega)).trans h.distances,(e _ (by omega)).trans h.shorts,hv,fun i hi=>(e _ (by omega)).trans (h.sl i hi),fun i hi=>(e _ (by omega)).trans (h.ls i hi),(e _ (by omega)).trans h.told,(e _ (by omega)).trans h.rep⟩
theorem TbV.set_sl {c:Nat->Value} {o:Nat} {s:Tb} (h:TbV c o s) (k:Nat) (v:Nat) (hk:k<19):TbV (upd c (o+309+k) (.int .u8 (v:Int))) o { s with sl:=upd s.sl k v } :=
 ⟨un h.literals,un h.distances,un h.shorts,h.short.congr uc,fun i hi=>by
  by_cases e:i=k
  ·subst e;rw[upd_same];show _=Value.int .u8 ((upd s.sl i v i:Nat):Int);rw[upd_same]
  ·rw[upd_ne _ _ _ (by omega)];show _=Value.int .u8 ((upd s.sl k v i:Nat):Int);rw[upd_ne _ _ _ e];exact h.sl i hi,fun i hi=>un (h.ls i hi),un h.told,un h.rep⟩
theorem TbV.set_ls {c:Nat->Value} {o:Nat} {s:Tb} (h:TbV c o s) (k:Nat) (v:Nat) (hk:k<316):TbV (upd c (o+328+k) (.int .u8 (v:Int))) o { s with ls:=upd s.ls k v } :=
 ⟨un h.literals,un h.distances,un h.shorts,h.short.congr uc,fun i hi=>un (h.sl i hi),fun i hi=>by
  by_cases e:i=k
  ·subst e;rw[upd_same];show _=Value.int .u8 ((upd s.ls i v i:Nat):Int);rw[upd_same]
  ·rw[upd_ne _ _ _ (by omega)];show _=Value.int .u8 ((upd s.ls k v i:Nat):Int);rw[upd_ne _ _ _ e];exact h.ls i hi,un h.told,un h.rep⟩
theorem TbV.set_told {c:Nat->Value} {o:Nat} {s:Tb} (h:TbV c o s) (v:Nat):TbV (upd c (o+644) (.int .i64 (v:Int))) o { s with told:=v } :=
 ⟨un h.literals,un h.distances,un h.shorts,h.short.congr uc,fun i hi=>un (h.sl i hi),fun i hi=>un (h.ls i hi),upd_same _ _ _,un h.rep⟩
theorem TbV.set_rep {c:Nat->Value} {o:Nat} {s:Tb} (h:TbV c o s) (v:Int):TbV (upd c (o+645) (.int .i64 v)) o { s with rep:=v } :=
 ⟨un h.literals,un h.distances,un h.shorts,h.short.congr uc,fun i hi=>un (h.sl i hi),fun i hi=>un (h.ls i hi),un h.told,upd_same _ _ _⟩
structure St where
 part:Nat
 number:Nat
 got:Nat
 wanted:Nat
 path:Pt
 skip:Bool
 window:Nat
 last:Bool
 left:Nat
 lit:CS
 dist:CS
 tb:Tb
 length:Nat
 base:Nat
 hist:Nat->Nat
 count:Nat
 sum:Nat
structure StV (c:Nat->Value) (o:Nat) (s:St):Prop where
 part:c (o) = .int .i64 (s.part:Int)
 number:c (o+1) = .int .u32 (s.number:Int)
 got:c (o+2) = .int .u64 (s.got:Int)
 wanted:c (o+3) = .int .u64 (s.wanted:Int)
 path:PtV c (o+4) s.path
 skip:c (o+7) = .bool s.skip
 window:c (o+8) = .int .i64 (s.window:Int)
 last:c (o+9) = .bool s.last
 left:c (o+10) = .int .i64 (s.left:Int)
 lit:CSV c (o+11) s.lit
 dist:CSV c (o+317) s.dist
 tb:TbV c (o+623) s.tb
 length:c (o+1269) = .int .i64 (s.length:Int)
 base:c (o+1270) = .int .i64 (s.base:Int)
 hist:∀ i,i<2078->c (o+1271+i) = .int .u8 (s.hist i:Int)
 count:c (o+3349) = .int .i64 (s.count:Int)
 sum:c (o+3350) = .int .u32 (s.sum:Int)
theorem StV.congr {c d:Nat->Value} {o:Nat} {s:St} (h:StV c o s) (e:∀ i,o<=i->i<o+3351->d i=c i):StV d o s:=
 ⟨(e _ (by omega) (by omega)).trans h.part,(e _ (by omega) (by omega)).trans h.number,(e _ (by omega) (by omega)).trans h.got,(e _ (by omega) (by omega)).trans h.wanted,h.path.congr (fun i h1 h2=>e i (by omega) (by omega)),(e _ (by omega) (by omega)).trans h.skip,(e _ (by omega) (by omega)).trans h.window,(e _ (by omega) (by omega)).trans h.last,(e _ (by omega) (by omega)).trans h.left,h.lit.congr (fun i h1 h2=>e i (by omega) (by omega)),h.dist.congr (fun i h1 h2=>e i (by omega) (by omega)),h.tb.congr (fun i h1 h2=>e i (by omega) (by omega)),(e _ (by omega) (by omega)).trans h.length,(e _ (by omega) (by omega)).trans h.base,fun i hi=>(e _ (by omega) (by omega)).trans (h.hist i hi),(e _ (by omega) (by omega)).trans h.count,(e _ (by omega) (by omega)).trans h.sum⟩
theorem StV.set_part {c:Nat->Value} {o:Nat} {s:St} (h:StV c o s) (v:Nat):StV (upd c (o) (.int .i64 (v:Int))) o { s with part:=v } :=
 ⟨upd_same _ _ _,un h.number,un h.got,un h.wanted,h.path.congr uc,un h.skip,un h.window,un h.last,un h.left,h.lit.congr uc,h.dist.congr uc,h.tb.congr uc,un h.length,un h.base,fun i hi=>un (h.hist i hi),un h.count,un h.sum⟩
theorem StV.set_number {c:Nat->Value} {o:Nat} {s:St} (h:StV c o s) (v:Nat):StV (upd c (o+1) (.int .u32 (v:Int))) o { s with number:=v } :=
 ⟨un h.part,upd_same _ _ _,un h.got,un h.wanted,h.path.congr uc,un h.skip,un h.window,un h.last,un h.left,h.lit.congr uc,h.dist.congr uc,h.tb.congr uc,un h.length,un h.base,fun i hi=>un (h.hist i hi),un h.count,un h.sum⟩
theorem StV.set_got {c:Nat->Value} {o:Nat} {s:St} (h:StV c o s) (v:Nat):StV (upd c (o+2) (.int .u64 (v:Int))) o { s with got:=v } :=
 ⟨un h.part,un h.number,upd_same _ _ _,un h.wanted,h.path.congr uc,un h.skip,un h.window,un h.last,un h.left,h.lit.congr uc,h.dist.congr uc,h.tb.congr uc,un h.length,un h.base,fun i hi=>un (h.hist i hi),un h.count,un h.sum⟩
theorem StV.set_wanted {c:Nat->Value} {o:Nat} {s:St} (h:StV c o s) (v:Nat):StV (upd c (o+3) (.int .u64 (v:Int))) o { s with wanted:=v } :=
 ⟨un h.part,un h.number,un h.got,upd_same _ _ _,h.path.congr uc,un h.skip,un h.window,un h.last,un h.left,h.lit.congr uc,h.dist.congr uc,h.tb.congr uc,un h.length,un h.base,fun i hi=>un (h.hist i hi),un h.count,un h.sum⟩
theorem StV.set_path {c d:Nat->Value} {o:Nat} {s:St} (h:StV c o s) (v:Pt) (hv:PtV d (o+4) v) (e:∀ i,¬ (o+4<=i/\i<o+7)->d i=c i):StV d o { s with path:=v } :=
 ⟨(e _ (by omega)).trans h.part,(e _ (by omega)).trans h.number,(e _ (by omega)).trans h.got,(e _ (by omega)).trans h.wanted,hv,(e _ (by omega)).trans h.skip,(e _ (by omega)).trans h.window,(e _ (by omega)).trans h.last,(e _ (by omega)).trans h.left,h.lit.congr (fun i h1 h2=>e _ (by omega)),h.dist.congr (fun i h1 h2=>e _ (by omega)),h.tb.congr (fun i h1 h2=>e _ (by omega)),(e _ (by omega)).trans h.length,(e _ (by omega)).trans h.base,fun i hi=>(e _ (by omega)).trans (h.hist i hi),(e _ (by omega)).trans h.count,(e _ (by omega)).trans h.sum⟩
theorem StV.set_skip {c:Nat->Value} {o:Nat} {s:St} (h:StV c o s) (v:Bool):StV (upd c (o+7) (.bool v)) o { s with skip:=v } :=
 ⟨un h.part,un h.number,un h.got,un h.wanted,h.path.congr uc,upd_same _ _ _,un h.window,un h.last,un h.left,h.lit.congr uc,h.dist.congr uc,h.tb.congr uc,un h.length,un h.base,fun i hi=>un (h.hist i hi),un h.count,un h.sum⟩
theorem StV.set_window {c:Nat->Value} {o:Nat} {s:St} (h:StV c o s) (v:Nat):StV (upd c (o+8) (.int .i64 (v:Int))) o { s with window:=v } :=
 ⟨un h.part,un h.number,un h.got,un h.wanted,h.path.congr uc,un h.skip,upd_same _ _ _,un h.last,un h.left,h.lit.congr uc,h.dist.congr uc,h.tb.congr uc,un h.length,un h.base,fun i hi=>un (h.hist i hi),un h.count,un h.sum⟩
theorem StV.set_last {c:Nat->Value} {o:Nat} {s:St} (h:StV c o s) (v:Bool):StV (upd c (o+9) (.bool v)) o { s with last:=v } :=
 ⟨un h.part,un h.number,un h.got,un h.wanted,h.path.congr uc,un h.skip,un h.window,upd_same _ _ _,un h.left,h.lit.congr uc,h.dist.congr uc,h.tb.congr uc,un h.length,un h.base,fun i hi=>un (h.hist i hi),un h.count,un h.sum⟩
theorem StV.set_left {c:Nat->Value} {o:Nat} {s:St} (h:StV c o s) (v:Nat):StV (upd c (o+10) (.int .i64 (v:Int))) o { s with left:=v } :=
 ⟨un h.part,un h.number,un h.got,un h.wanted,h.path.congr uc,un h.skip,un h.window,un h.last,upd_same _ _ _,h.lit.congr uc,h.dist.congr uc,h.tb.congr uc,un h.length,un h.base,fun i hi=>un (h.hist i hi),un h.count,un h.sum⟩
theorem StV.set_lit {c d:Nat->Value} {o:Nat} {s:St} (h:StV c o s) (v:CS) (hv:CSV d (o+11) v) (e:∀ i,¬ (o+11<=i/\i<o+317)->d i=c i):StV d o { s with lit:=v } :=
 ⟨(e _ (by omega)).trans h.part,(e _ (by omega)).trans h.number,(e _ (by omega)).trans h.got,(e _ (by omega)).trans h.wanted,h.path.congr (fun i h1 h2=>e _ (by omega)),(e _ (by omega)).trans h.skip,(e _ (by omega)).trans h.window,(e _ (by omega)).trans h.last,(e _ (by omega)).trans h.left,hv,h.dist.congr (fun i h1 h2=>e _ (by omega)),h.tb.congr (fun i h1 h2=>e _ (by omega)),(e _ (by omega)).trans h.length,(e _ (by omega)).trans h.base,fun i hi=>(e _ (by omega)).trans (h.hist i hi),(e _ (by omega)).trans h.count,(e _ (by omega)).trans h.sum⟩
theorem StV.set_dist {c d:Nat->Value} {o:Nat} {s:St} (h:StV c o s) (v:CS) (hv:CSV d (o+317) v) (e:∀ i,¬ (o+317<=i/\i<o+623)->d i=c i):StV d o { s with dist:=v } :=
 ⟨(e _ (by omega)).trans h.part,(e _ (by omega)).trans h.number,(e _ (by omega)).trans h.got,(e _ (by omega)).trans h.wanted,h.path.congr (fun i h1 h2=>e _ (by omega)),(e _ (by omega)).trans h.skip,(e _ (by omega)).trans h.window,(e _ (by omega)).trans h.last,(e _ (by omega)).trans h.left,h.lit.congr (fun i h1 h2=>e _ (by omega)),hv,h.tb.congr (fun i h1 h2=>e _ (by omega)),(e _ (by omega)).trans h.length,(e _ (by omega)).trans h.base,fun i hi=>(e _ (by omega)).trans (h.hist i hi),(e _ (by omega)).trans h.count,(e _ (by omega)).trans h.sum⟩
theorem StV.set_length {c:Nat->Value} {o:Nat} {s:St} (h:StV c o s) (v:Nat):StV (upd c (o+1269) (.int .i64 (v:Int))) o { s with length:=v } :=
 ⟨un h.part,un h.number,un h.got,un h.wanted,h.path.congr uc,un h.skip,un h.window,un h.last,un h.left,h.lit.congr uc,h.dist.congr uc,h.tb.congr uc,upd_same _ _ _,un h.base,fun i hi=>un (h.hist i hi),un h.count,un h.sum⟩
theorem StV.set_base {c:Nat->Value} {o:Nat} {s:St} (h:StV c o s) (v:Nat):StV (upd c (o+1270) (.int .i64 (v:Int))) o { s with base:=v } :=
 ⟨un h.part,un h.number,un h.got,un h.wanted,h.path.congr uc,un h.skip,un h.window,un h.last,un h.left,h.lit.congr uc,h.dist.congr uc,h.tb.congr uc,un h.length,upd_same _ _ _,fun i hi=>un (h.hist i hi),un h.count,un h.sum⟩
theorem StV.set_hist {c:Nat->Value} {o:Nat} {s:St} (h:StV c o s) (k:Nat) (v:Nat) (hk:k<2078):StV (upd c (o+1271+k) (.int .u8 (v:Int))) o { s with hist:=upd s.hist k v } :=
 ⟨un h.part,un h.number,un h.got,un h.wanted,h.path.congr uc,un h.skip,un h.window,un h.last,un h.left,h.lit.congr uc,h.dist.congr uc,h.tb.congr uc,un h.length,un h.base,fun i hi=>by
  by_cases e:i=k
  ·subst e;rw[upd_same];show _=Value.int .u8 ((upd s.hist i v i:Nat):Int);rw[upd_same]
  ·rw[upd_ne _ _ _ (by omega)];show _=Value.int .u8 ((upd s.hist k v i:Nat):Int);rw[upd_ne _ _ _ e];exact h.hist i hi,un h.count,un h.sum⟩
theorem StV.set_count {c:Nat->Value} {o:Nat} {s:St} (h:StV c o s) (v:Nat):StV (upd c (o+3349) (.int .i64 (v:Int))) o { s with count:=v } :=
 ⟨un h.part,un h.number,un h.got,un h.wanted,h.path.congr uc,un h.skip,un h.window,un h.last,un h.left,h.lit.congr uc,h.dist.congr uc,h.tb.congr uc,un h.length,un h.base,fun i hi=>un (h.hist i hi),upd_same _ _ _,un h.sum⟩
theorem StV.set_sum {c:Nat->Value} {o:Nat} {s:St} (h:StV c o s) (v:Nat):StV (upd c (o+3350) (.int .u32 (v:Int))) o { s with sum:=v } :=
 ⟨un h.part,un h.number,un h.got,un h.wanted,h.path.congr uc,un h.skip,un h.window,un h.last,un h.left,h.lit.congr uc,h.dist.congr uc,h.tb.congr uc,un h.length,un h.base,fun i hi=>un (h.hist i hi),un h.count,upd_same _ _ _⟩
structure Hd where
 W:Nat
 H:Nat
 D:Nat
 K:Nat
 L:Nat
structure HdV (c:Nat->Value) (o:Nat) (s:Hd):Prop where
 W:c (o) = .int .i64 (s.W:Int)
 H:c (o+1) = .int .i64 (s.H:Int)
 D:c (o+2) = .int .i64 (s.D:Int)
 K:c (o+3) = .int .i64 (s.K:Int)
 L:c (o+4) = .int .i64 (s.L:Int)
theorem HdV.congr {c d:Nat->Value} {o:Nat} {s:Hd} (h:HdV c o s) (e:∀ i,o<=i->i<o+5->d i=c i):HdV d o s:=
 ⟨(e _ (by omega) (by omega)).trans h.W,(e _ (by omega) (by omega)).trans h.H,(e _ (by omega) (by omega)).trans h.D,(e _ (by omega) (by omega)).trans h.K,(e _ (by omega) (by omega)).trans h.L⟩
theorem HdV.set_W {c:Nat->Value} {o:Nat} {s:Hd} (h:HdV c o s) (v:Nat):HdV (upd c (o) (.int .i64 (v:Int))) o { s with W:=v } :=
 ⟨upd_same _ _ _,un h.H,un h.D,un h.K,un h.L⟩
theorem HdV.set_H {c:Nat->Value} {o:Nat} {s:Hd} (h:HdV c o s) (v:Nat):HdV (upd c (o+1) (.int .i64 (v:Int))) o { s with H:=v } :=
 ⟨un h.W,upd_same _ _ _,un h.D,un h.K,un h.L⟩
theorem HdV.set_D {c:Nat->Value} {o:Nat} {s:Hd} (h:HdV c o s) (v:Nat):HdV (upd c (o+2) (.int .i64 (v:Int))) o { s with D:=v } :=
 ⟨un h.W,un h.H,upd_same _ _ _,un h.K,un h.L⟩
theorem HdV.set_K {c:Nat->Value} {o:Nat} {s:Hd} (h:HdV c o s) (v:Nat):HdV (upd c (o+3) (.int .i64 (v:Int))) o { s with K:=v } :=
 ⟨un h.W,un h.H,un h.D,upd_same _ _ _,un h.L⟩
theorem HdV.set_L {c:Nat->Value} {o:Nat} {s:Hd} (h:HdV c o s) (v:Nat):HdV (upd c (o+4) (.int .i64 (v:Int))) o { s with L:=v } :=
 ⟨un h.W,un h.H,un h.D,un h.K,upd_same _ _ _⟩
structure Rw where
 hd:Hd
 colours:Nat
 pass:Int
 line:Nat
 columns:Nat
 lines:Nat
 size:Nat
 taken:Nat
 filter:Nat
 row:Nat->Nat
 above:Nat->Nat
 known:Nat->Bool
 smp:Nat->Nat
structure RwV (c:Nat->Value) (o:Nat) (s:Rw):Prop where
 hd:HdV c (o) s.hd
 colours:c (o+5) = .int .i64 (s.colours:Int)
 pass:c (o+6) = .int .i64 s.pass
 line:c (o+7) = .int .i64 (s.line:Int)
 columns:c (o+8) = .int .i64 (s.columns:Int)
 lines:c (o+9) = .int .i64 (s.lines:Int)
 size:c (o+10) = .int .i64 (s.size:Int)
 taken:c (o+11) = .int .i64 (s.taken:Int)
 filter:c (o+12) = .int .u8 (s.filter:Int)
 row:∀ i,i<128->c (o+13+i) = .int .u8 (s.row i:Int)
 above:∀ i,i<128->c (o+141+i) = .int .u8 (s.above i:Int)
 known:∀ i,i<256->c (o+269+i) = .bool (s.known i)
 smp:∀ i,i<1024->c (o+525+i) = .int .u16 (s.smp i:Int)
theorem RwV.congr {c d:Nat->Value} {o:Nat} {s:Rw} (h:RwV c o s) (e:∀ i,o<=i->i<o+1549->d i=c i):RwV d o s:=
 ⟨h.hd.congr (fun i h1 h2=>e i (by omega) (by omega)),(e _ (by omega) (by omega)).trans h.colours,(e _ (by omega) (by omega)).trans h.pass,(e _ (by omega) (by omega)).trans h.line,(e _ (by omega) (by omega)).trans h.columns,(e _ (by omega) (by omega)).trans h.lines,(e _ (by omega) (by omega)).trans h.size,(e _ (by omega) (by omega)).trans h.taken,(e _ (by omega) (by omega)).trans h.filter,fun i hi=>(e _ (by omega) (by omega)).trans (h.row i hi),fun i hi=>(e _ (by omega) (by omega)).trans (h.above i hi),fun i hi=>(e _ (by omega) (by omega)).trans (h.known i hi),fun i hi=>(e _ (by omega) (by omega)).trans (h.smp i hi)⟩
theorem RwV.set_pass {c:Nat->Value} {o:Nat} {s:Rw} (h:RwV c o s) (v:Int):RwV (upd c (o+6) (.int .i64 v)) o { s with pass:=v } :=
 ⟨h.hd.congr uc,un h.colours,upd_same _ _ _,un h.line,un h.columns,un h.lines,un h.size,un h.taken,un h.filter,fun i hi=>un (h.row i hi),fun i hi=>un (h.above i hi),fun i hi=>un (h.known i hi),fun i hi=>un (h.smp i hi)⟩
theorem RwV.set_line {c:Nat->Value} {o:Nat} {s:Rw} (h:RwV c o s) (v:Nat):RwV (upd c (o+7) (.int .i64 (v:Int))) o { s with line:=v } :=
 ⟨h.hd.congr uc,un h.colours,un h.pass,upd_same _ _ _,un h.columns,un h.lines,un h.size,un h.taken,un h.filter,fun i hi=>un (h.row i hi),fun i hi=>un (h.above i hi),fun i hi=>un (h.known i hi),fun i hi=>un (h.smp i hi)⟩
theorem RwV.set_columns {c:Nat->Value} {o:Nat} {s:Rw} (h:RwV c o s) (v:Nat):RwV (upd c (o+8) (.int .i64 (v:Int))) o { s with columns:=v } :=
 ⟨h.hd.congr uc,un h.colours,un h.pass,un h.line,upd_same _ _ _,un h.lines,un h.size,un h.taken,un h.filter,fun i hi=>un (h.row i hi),fun i hi=>un (h.above i hi),fun i hi=>un (h.known i hi),fun i hi=>un (h.smp i hi)⟩
theorem RwV.set_lines {c:Nat->Value} {o:Nat} {s:Rw} (h:RwV c o s) (v:Nat):RwV (upd c (o+9) (.int .i64 (v:Int))) o { s with lines:=v } :=
 ⟨h.hd.congr uc,un h.colours,un h.pass,un h.line,un h.columns,upd_same _ _ _,un h.size,un h.taken,un h.filter,fun i hi=>un (h.row i hi),fun i hi=>un (h.above i hi),fun i hi=>un (h.known i hi),fun i hi=>un (h.smp i hi)⟩
theorem RwV.set_size {c:Nat->Value} {o:Nat} {s:Rw} (h:RwV c o s) (v:Nat):RwV (upd c (o+10) (.int .i64 (v:Int))) o { s with size:=v } :=
 ⟨h.hd.congr uc,un h.colours,un h.pass,un h.line,un h.columns,un h.lines,upd_same _ _ _,un h.taken,un h.filter,fun i hi=>un (h.row i hi),fun i hi=>un (h.above i hi),fun i hi=>un (h.known i hi),fun i hi=>un (h.smp i hi)⟩
theorem RwV.set_taken {c:Nat->Value} {o:Nat} {s:Rw} (h:RwV c o s) (v:Nat):RwV (upd c (o+11) (.int .i64 (v:Int))) o { s with taken:=v } :=
 ⟨h.hd.congr uc,un h.colours,un h.pass,un h.line,un h.columns,un h.lines,un h.size,upd_same _ _ _,un h.filter,fun i hi=>un (h.row i hi),fun i hi=>un (h.above i hi),fun i hi=>un (h.known i hi),fun i hi=>un (h.smp i hi)⟩
theorem RwV.set_filter {c:Nat->Value} {o:Nat} {s:Rw} (h:RwV c o s) (v:Nat):RwV (upd c (o+12) (.int .u8 (v:Int))) o { s with filter:=v } :=
 ⟨h.hd.congr uc,un h.colours,un h.pass,un h.line,un h.columns,un h.lines,un h.size,un h.taken,upd_same _ _ _,fun i hi=>un (h.row i hi),fun i hi=>un (h.above i hi),fun i hi=>un (h.known i hi),fun i hi=>un (h.smp i hi)⟩
theorem RwV.set_row {c:Nat->Value} {o:Nat} {s:Rw} (h:RwV c o s) (k:Nat) (v:Nat) (hk:k<128):RwV (upd c (o+13+k) (.int .u8 (v:Int))) o { s with row:=upd s.row k v } :=
 ⟨h.hd.congr uc,un h.colours,un h.pass,un h.line,un h.columns,un h.lines,un h.size,un h.taken,un h.filter,fun i hi=>by
  by_cases e:i=k
  ·subst e;rw[upd_same];show _=Value.int .u8 ((upd s.row i v i:Nat):Int);rw[upd_same]
  ·rw[upd_ne _ _ _ (by omega)];show _=Value.int .u8 ((upd s.row k v i:Nat):Int);rw[upd_ne _ _ _ e];exact h.row i hi,fun i hi=>un (h.above i hi),fun i hi=>un (h.known i hi),fun i hi=>un (h.smp i hi)⟩
theorem RwV.all_above {c d:Nat->Value} {o:Nat} {s:Rw} (h:RwV c o s) (f:Nat->Nat) (hf:∀ i,i<128->d (o+141+i) = .int .u8 (f i:Int)) (e:∀ i,¬ (o+141<=i/\i<o+269)->d i=c i):RwV d o { s with above:=f } :=
 ⟨h.hd.congr (fun i h1 h2=>e _ (by omega)),(e _ (by omega)).trans h.colours,(e _ (by omega)).trans h.pass,(e _ (by omega)).trans h.line,(e _ (by omega)).trans h.columns,(e _ (by omega)).trans h.lines,(e _ (by omega)).trans h.size,(e _ (by omega)).trans h.taken,(e _ (by omega)).trans h.filter,fun i hi=>(e _ (by omega)).trans (h.row i hi),hf,fun i hi=>(e _ (by omega)).trans (h.known i hi),fun i hi=>(e _ (by omega)).trans (h.smp i hi)⟩
theorem RwV.set_known {c:Nat->Value} {o:Nat} {s:Rw} (h:RwV c o s) (k:Nat) (v:Bool) (hk:k<256):RwV (upd c (o+269+k) (.bool v)) o { s with known:=upd s.known k v } :=
 ⟨h.hd.congr uc,un h.colours,un h.pass,un h.line,un h.columns,un h.lines,un h.size,un h.taken,un h.filter,fun i hi=>un (h.row i hi),fun i hi=>un (h.above i hi),fun i hi=>by
  by_cases e:i=k
  ·subst e;rw[upd_same];show _=Value.bool (upd s.known i v i);rw[upd_same]
  ·rw[upd_ne _ _ _ (by omega)];show _=Value.bool (upd s.known k v i);rw[upd_ne _ _ _ e];exact h.known i hi,fun i hi=>un (h.smp i hi)⟩
theorem RwV.set_smp {c:Nat->Value} {o:Nat} {s:Rw} (h:RwV c o s) (k:Nat) (v:Nat) (hk:k<1024):RwV (upd c (o+525+k) (.int .u16 (v:Int))) o { s with smp:=upd s.smp k v } :=
 ⟨h.hd.congr uc,un h.colours,un h.pass,un h.line,un h.columns,un h.lines,un h.size,un h.taken,un h.filter,fun i hi=>un (h.row i hi),fun i hi=>un (h.above i hi),fun i hi=>un (h.known i hi),fun i hi=>by
  by_cases e:i=k
  ·subst e;rw[upd_same];show _=Value.int .u16 ((upd s.smp i v i:Nat):Int);rw[upd_same]
  ·rw[upd_ne _ _ _ (by omega)];show _=Value.int .u16 ((upd s.smp k v i:Nat):Int);rw[upd_ne _ _ _ e];exact h.smp i hi⟩
structure Tl where
 pal:Nat->Nat
 clear:Nat->Nat
 colours:Nat
 clears:Nat
structure TlV (c:Nat->Value) (o:Nat) (s:Tl):Prop where
 pal:∀ i,i<768->c (o+i) = .int .u8 (s.pal i:Int)
 clear:∀ i,i<256->c (o+768+i) = .int .u8 (s.clear i:Int)
 colours:c (o+1024) = .int .i64 (s.colours:Int)
 clears:c (o+1025) = .int .i64 (s.clears:Int)
theorem TlV.congr {c d:Nat->Value} {o:Nat} {s:Tl} (h:TlV c o s) (e:∀ i,o<=i->i<o+1026->d i=c i):TlV d o s:=
 ⟨fun i hi=>(e _ (by omega) (by omega)).trans (h.pal i hi),fun i hi=>(e _ (by omega) (by omega)).trans (h.clear i hi),(e _ (by omega) (by omega)).trans h.colours,(e _ (by omega) (by omega)).trans h.clears⟩
theorem TlV.set_pal {c:Nat->Value} {o:Nat} {s:Tl} (h:TlV c o s) (k:Nat) (v:Nat) (hk:k<768):TlV (upd c (o+k) (.int .u8 (v:Int))) o { s with pal:=upd s.pal k v } :=
 ⟨fun i hi=>by
  by_cases e:i=k
  ·subst e;rw[upd_same];show _=Value.int .u8 ((upd s.pal i v i:Nat):Int);rw[upd_same]
  ·rw[upd_ne _ _ _ (by omega)];show _=Value.int .u8 ((upd s.pal k v i:Nat):Int);rw[upd_ne _ _ _ e];exact h.pal i hi,fun i hi=>un (h.clear i hi),un h.colours,un h.clears⟩
theorem TlV.set_clear {c:Nat->Value} {o:Nat} {s:Tl} (h:TlV c o s) (k:Nat) (v:Nat) (hk:k<256):TlV (upd c (o+768+k) (.int .u8 (v:Int))) o { s with clear:=upd s.clear k v } :=
 ⟨fun i hi=>un (h.pal i hi),fun i hi=>by
  by_cases e:i=k
  ·subst e;rw[upd_same];show _=Value.int .u8 ((upd s.clear i v i:Nat):Int);rw[upd_same]
  ·rw[upd_ne _ _ _ (by omega)];show _=Value.int .u8 ((upd s.clear k v i:Nat):Int);rw[upd_ne _ _ _ e];exact h.clear i hi,un h.colours,un h.clears⟩
theorem TlV.set_colours {c:Nat->Value} {o:Nat} {s:Tl} (h:TlV c o s) (v:Nat):TlV (upd c (o+1024) (.int .i64 (v:Int))) o { s with colours:=v } :=
 ⟨fun i hi=>un (h.pal i hi),fun i hi=>un (h.clear i hi),upd_same _ _ _,un h.clears⟩
theorem TlV.set_clears {c:Nat->Value} {o:Nat} {s:Tl} (h:TlV c o s) (v:Nat):TlV (upd c (o+1025) (.int .i64 (v:Int))) o { s with clears:=v } :=
 ⟨fun i hi=>un (h.pal i hi),fun i hi=>un (h.clear i hi),un h.colours,upd_same _ _ _⟩
structure Rd where
 part:Nat
 taken:Nat
 number:Nat
 length:Nat
 ctype:Nat
 sum:Nat
 hd:Hd
 raw:Nat->Nat
 tl:Tl
 st:St
 rw:Rw
 sp:Bool
 sc:Bool
 sd:Bool
 dov:Bool
structure RdV (c:Nat->Value) (o:Nat) (s:Rd):Prop where
 part:c (o) = .int .i64 (s.part:Int)
 taken:c (o+1) = .int .u32 (s.taken:Int)
 number:c (o+2) = .int .u32 (s.number:Int)
 length:c (o+3) = .int .u32 (s.length:Int)
 ctype:c (o+4) = .int .u32 (s.ctype:Int)
 sum:c (o+5) = .int .u32 (s.sum:Int)
 hd:HdV c (o+6) s.hd
 raw:∀ i,i<13->c (o+11+i) = .int .u8 (s.raw i:Int)
 tl:TlV c (o+24) s.tl
 st:StV c (o+1050) s.st
 rw:RwV c (o+4401) s.rw
 sp:c (o+5950) = .bool s.sp
 sc:c (o+5951) = .bool s.sc
 sd:c (o+5952) = .bool s.sd
 dov:c (o+5953) = .bool s.dov
theorem RdV.congr {c d:Nat->Value} {o:Nat} {s:Rd} (h:RdV c o s) (e:∀ i,o<=i->i<o+5954->d i=c i):RdV d o s:=
 ⟨(e _ (by omega) (by omega)).trans h.part,(e _ (by omega) (by omega)).trans h.taken,(e _ (by omega) (by omega)).trans h.number,(e _ (by omega) (by omega)).trans h.length,(e _ (by omega) (by omega)).trans h.ctype,(e _ (by omega) (by omega)).trans h.sum,h.hd.congr (fun i h1 h2=>e i (by omega) (by omega)),fun i hi=>(e _ (by omega) (by omega)).trans (h.raw i hi),h.tl.congr (fun i h1 h2=>e i (by omega) (by omega)),h.st.congr (fun i h1 h2=>e i (by omega) (by omega)),h.rw.congr (fun i h1 h2=>e i (by omega) (by omega)),(e _ (by omega) (by omega)).trans h.sp,(e _ (by omega) (by omega)).trans h.sc,(e _ (by omega) (by omega)).trans h.sd,(e _ (by omega) (by omega)).trans h.dov⟩
theorem RdV.set_part {c:Nat->Value} {o:Nat} {s:Rd} (h:RdV c o s) (v:Nat):RdV (upd c (o) (.int .i64 (v:Int))) o { s with part:=v } :=
 ⟨upd_same _ _ _,un h.taken,un h.number,un h.length,un h.ctype,un h.sum,h.hd.congr uc,fun i hi=>un (h.raw i hi),h.tl.congr uc,h.st.congr uc,h.rw.congr uc,un h.sp,un h.sc,un h.sd,un h.dov⟩
theorem RdV.set_taken {c:Nat->Value} {o:Nat} {s:Rd} (h:RdV c o s) (v:Nat):RdV (upd c (o+1) (.int .u32 (v:Int))) o { s with taken:=v } :=
 ⟨un h.part,upd_same _ _ _,un h.number,un h.length,un h.ctype,un h.sum,h.hd.congr uc,fun i hi=>un (h.raw i hi),h.tl.congr uc,h.st.congr uc,h.rw.congr uc,un h.sp,un h.sc,un h.sd,un h.dov⟩
theorem RdV.set_number {c:Nat->Value} {o:Nat} {s:Rd} (h:RdV c o s) (v:Nat):RdV (upd c (o+2) (.int .u32 (v:Int))) o { s with number:=v } :=
 ⟨un h.part,un h.taken,upd_same _ _ _,un h.length,un h.ctype,un h.sum,h.hd.congr uc,fun i hi=>un (h.raw i hi),h.tl.congr uc,h.st.congr uc,h.rw.congr uc,un h.sp,un h.sc,un h.sd,un h.dov⟩
theorem RdV.set_length {c:Nat->Value} {o:Nat} {s:Rd} (h:RdV c o s) (v:Nat):RdV (upd c (o+3) (.int .u32 (v:Int))) o { s with length:=v } :=
 ⟨un h.part,un h.taken,un h.number,upd_same _ _ _,un h.ctype,un h.sum,h.hd.congr uc,fun i hi=>un (h.raw i hi),h.tl.congr uc,h.st.congr uc,h.rw.congr uc,un h.sp,un h.sc,un h.sd,un h.dov⟩
theorem RdV.set_ctype {c:Nat->Value} {o:Nat} {s:Rd} (h:RdV c o s) (v:Nat):RdV (upd c (o+4) (.int .u32 (v:Int))) o { s with ctype:=v } :=
 ⟨un h.part,un h.taken,un h.number,un h.length,upd_same _ _ _,un h.sum,h.hd.congr uc,fun i hi=>un (h.raw i hi),h.tl.congr uc,h.st.congr uc,h.rw.congr uc,un h.sp,un h.sc,un h.sd,un h.dov⟩
theorem RdV.set_sum {c:Nat->Value} {o:Nat} {s:Rd} (h:RdV c o s) (v:Nat):RdV (upd c (o+5) (.int .u32 (v:Int))) o { s with sum:=v } :=
 ⟨un h.part,un h.taken,un h.number,un h.length,un h.ctype,upd_same _ _ _,h.hd.congr uc,fun i hi=>un (h.raw i hi),h.tl.congr uc,h.st.congr uc,h.rw.congr uc,un h.sp,un h.sc,un h.sd,un h.dov⟩
theorem RdV.set_hd {c d:Nat->Value} {o:Nat} {s:Rd} (h:RdV c o s) (v:Hd) (hv:HdV d (o+6) v) (e:∀ i,¬ (o+6<=i/\i<o+11)->d i=c i):RdV d o { s with hd:=v } :=
 ⟨(e _ (by omega)).trans h.part,(e _ (by omega)).trans h.taken,(e _ (by omega)).trans h.number,(e _ (by omega)).trans h.length,(e _ (by omega)).trans h.ctype,(e _ (by omega)).trans h.sum,hv,fun i hi=>(e _ (by omega)).trans (h.raw i hi),h.tl.congr (fun i h1 h2=>e _ (by omega)),h.st.congr (fun i h1 h2=>e _ (by omega)),h.rw.congr (fun i h1 h2=>e _ (by omega)),(e _ (by omega)).trans h.sp,(e _ (by omega)).trans h.sc,(e _ (by omega)).trans h.sd,(e _ (by omega)).trans h.dov⟩
theorem RdV.set_raw {c:Nat->Value} {o:Nat} {s:Rd} (h:RdV c o s) (k:Nat) (v:Nat) (hk:k<13):RdV (upd c (o+11+k) (.int .u8 (v:Int))) o { s with raw:=upd s.raw k v } :=
 ⟨un h.part,un h.taken,un h.number,un h.length,un h.ctype,un h.sum,h.hd.congr uc,fun i hi=>by
  by_cases e:i=k
  ·subst e;rw[upd_same];show _=Value.int .u8 ((upd s.raw i v i:Nat):Int);rw[upd_same]
  ·rw[upd_ne _ _ _ (by omega)];show _=Value.int .u8 ((upd s.raw k v i:Nat):Int);rw[upd_ne _ _ _ e];exact h.raw i hi,h.tl.congr uc,h.st.congr uc,h.rw.congr uc,un h.sp,un h.sc,un h.sd,un h.dov⟩
theorem RdV.set_tl {c d:Nat->Value} {o:Nat} {s:Rd} (h:RdV c o s) (v:Tl) (hv:TlV d (o+24) v) (e:∀ i,¬ (o+24<=i/\i<o+1050)->d i=c i):RdV d o { s with tl:=v } :=
 ⟨(e _ (by omega)).trans h.part,(e _ (by omega)).trans h.taken,(e _ (by omega)).trans h.number,(e _ (by omega)).trans h.length,(e _ (by omega)).trans h.ctype,(e _ (by omega)).trans h.sum,h.hd.congr (fun i h1 h2=>e _ (by omega)),fun i hi=>(e _ (by omega)).trans (h.raw i hi),hv,h.st.congr (fun i h1 h2=>e _ (by omega)),h.rw.congr (fun i h1 h2=>e _ (by omega)),(e _ (by omega)).trans h.sp,(e _ (by omega)).trans h.sc,(e _ (by omega)).trans h.sd,(e _ (by omega)).trans h.dov⟩
theorem RdV.set_st {c d:Nat->Value} {o:Nat} {s:Rd} (h:RdV c o s) (v:St) (hv:StV d (o+1050) v) (e:∀ i,¬ (o+1050<=i/\i<o+4401)->d i=c i):RdV d o { s with st:=v } :=
 ⟨(e _ (by omega)).trans h.part,(e _ (by omega)).trans h.taken,(e _ (by omega)).trans h.number,(e _ (by omega)).trans h.length,(e _ (by omega)).trans h.ctype,(e _ (by omega)).trans h.sum,h.hd.congr (fun i h1 h2=>e _ (by omega)),fun i hi=>(e _ (by omega)).trans (h.raw i hi),h.tl.congr (fun i h1 h2=>e _ (by omega)),hv,h.rw.congr (fun i h1 h2=>e _ (by omega)),(e _ (by omega)).trans h.sp,(e _ (by omega)).trans h.sc,(e _ (by omega)).trans h.sd,(e _ (by omega)).trans h.dov⟩
theorem RdV.set_rw {c d:Nat->Value} {o:Nat} {s:Rd} (h:RdV c o s) (v:Rw) (hv:RwV d (o+4401) v) (e:∀ i,¬ (o+4401<=i/\i<o+5950)->d i=c i):RdV d o { s with rw:=v } :=
 ⟨(e _ (by omega)).trans h.part,(e _ (by omega)).trans h.taken,(e _ (by omega)).trans h.number,(e _ (by omega)).trans h.length,(e _ (by omega)).trans h.ctype,(e _ (by omega)).trans h.sum,h.hd.congr (fun i h1 h2=>e _ (by omega)),fun i hi=>(e _ (by omega)).trans (h.raw i hi),h.tl.congr (fun i h1 h2=>e _ (by omega)),h.st.congr (fun i h1 h2=>e _ (by omega)),hv,(e _ (by omega)).trans h.sp,(e _ (by omega)).trans h.sc,(e _ (by omega)).trans h.sd,(e _ (by omega)).trans h.dov⟩
theorem RdV.set_sp {c:Nat->Value} {o:Nat} {s:Rd} (h:RdV c o s) (v:Bool):RdV (upd c (o+5950) (.bool v)) o { s with sp:=v } :=
 ⟨un h.part,un h.taken,un h.number,un h.length,un h.ctype,un h.sum,h.hd.congr uc,fun i hi=>un (h.raw i hi),h.tl.congr uc,h.st.congr uc,h.rw.congr uc,upd_same _ _ _,un h.sc,un h.sd,un h.dov⟩
theorem RdV.set_sc {c:Nat->Value} {o:Nat} {s:Rd} (h:RdV c o s) (v:Bool):RdV (upd c (o+5951) (.bool v)) o { s with sc:=v } :=
 ⟨un h.part,un h.taken,un h.number,un h.length,un h.ctype,un h.sum,h.hd.congr uc,fun i hi=>un (h.raw i hi),h.tl.congr uc,h.st.congr uc,h.rw.congr uc,un h.sp,upd_same _ _ _,un h.sd,un h.dov⟩
theorem RdV.set_sd {c:Nat->Value} {o:Nat} {s:Rd} (h:RdV c o s) (v:Bool):RdV (upd c (o+5952) (.bool v)) o { s with sd:=v } :=
 ⟨un h.part,un h.taken,un h.number,un h.length,un h.ctype,un h.sum,h.hd.congr uc,fun i hi=>un (h.raw i hi),h.tl.congr uc,h.st.congr uc,h.rw.congr uc,un h.sp,un h.sc,upd_same _ _ _,un h.dov⟩
theorem RdV.set_dov {c:Nat->Value} {o:Nat} {s:Rd} (h:RdV c o s) (v:Bool):RdV (upd c (o+5953) (.bool v)) o { s with dov:=v } :=
 ⟨un h.part,un h.taken,un h.number,un h.length,un h.ctype,un h.sum,h.hd.congr uc,fun i hi=>un (h.raw i hi),h.tl.congr uc,h.st.congr uc,h.rw.congr uc,un h.sp,un h.sc,un h.sd,upd_same _ _ _⟩
structure Dc where
 file:Rd
 count:Nat
 err:Nat
 at1:Nat
structure DcV (c:Nat->Value) (o:Nat) (s:Dc):Prop where
 file:RdV c (o) s.file
 count:c (o+5954) = .int .i64 (s.count:Int)
 err:c (o+5955) = .int .i64 (s.err:Int)
 at1:c (o+5956) = .int .i64 (s.at1:Int)
theorem DcV.set_file {c d:Nat->Value} {o:Nat} {s:Dc} (h:DcV c o s) (v:Rd) (hv:RdV d (o) v) (e:∀ i,¬ (o<=i/\i<o+5954)->d i=c i):DcV d o { s with file:=v } :=
 ⟨hv,(e _ (by omega)).trans h.count,(e _ (by omega)).trans h.err,(e _ (by omega)).trans h.at1⟩
theorem DcV.set_count {c:Nat->Value} {o:Nat} {s:Dc} (h:DcV c o s) (v:Nat):DcV (upd c (o+5954) (.int .i64 (v:Int))) o { s with count:=v } :=
 ⟨h.file.congr uc,upd_same _ _ _,un h.err,un h.at1⟩
theorem DcV.set_err {c:Nat->Value} {o:Nat} {s:Dc} (h:DcV c o s) (v:Nat):DcV (upd c (o+5955) (.int .i64 (v:Int))) o { s with err:=v } :=
 ⟨h.file.congr uc,un h.count,upd_same _ _ _,un h.at1⟩
theorem DcV.set_at1 {c:Nat->Value} {o:Nat} {s:Dc} (h:DcV c o s) (v:Nat):DcV (upd c (o+5956) (.int .i64 (v:Int))) o { s with at1:=v } :=
 ⟨h.file.congr uc,un h.count,un h.err,upd_same _ _ _⟩
structure Blk (w:World) (b n:Nat) (c:Nat->Value):Prop where
 cell:∀ i,i<n->w.cell? ⟨b,i,none⟩=some (c i)
 fz:∀ i,w.frozen? ⟨b,i,none⟩=false
 lt:b<w.heap.size
theorem Blk.set {w:World} {b n:Nat} {c:Nat->Value} (h:Blk w b n c) {k:Nat} (hk:k<n) (v:Value):Blk (w.setCell ⟨b,k,none⟩ v) b n (upd c k v) :=
 ⟨fun i hi=>by
  by_cases e:i=k
  ·subst e;rw[upd_same];exact cell_set_same (h.cell i hi) _
  ·rw[upd_ne _ _ _ e,cell_set_other _ _ _ _ _ (fun q=>e q.symm)];exact h.cell i hi,fun i=>by rw[World.frozen?_setCell];exact h.fz i,by simpa [World.setCell] using h.lt⟩
theorem Blk.kept {w w':World} {b n:Nat} {c:Nat->Value} (h:Blk w b n c) (k:Kept w w'):Blk w' b n c:=
 ⟨fun i hi=>(k.cell (p:=⟨b,i,none⟩) h.lt).trans (h.cell i hi),fun i=>(k.frozen (p:=⟨b,i,none⟩) h.lt).trans (h.fz i),Nat.lt_of_lt_of_le h.lt k.size⟩
theorem Blk.fr {S:Nat->Prop} {w w':World} {b n:Nat} {c:Nat->Value} (h:Blk w b n c) (k:Fr S w w') (hS:¬ S b):Blk w' b n c:=
 ⟨fun i hi=>(k.cell h.lt hS).trans (h.cell i hi),fun i=>(k.frozen h.lt hS).trans (h.fz i),Nat.lt_of_lt_of_le h.lt k.size⟩
end Go.Proofs.YtmbmecfodigciaaGreatDoor
namespace Px
def dst (a b:Nat):Nat:=if a<b then b - a else a - b
def near (l u c:Nat):Nat:=if dst u c<=dst l c/\dst u c<=dst (l+u) (2*c) then l else if dst l c<=dst (l+u) (2*c) then u else c
def gss (f l u c:Nat):Nat:=if f=1 then l else if f=2 then u else if f=3 then (l+u) / 2 else if f=4 then near l u c else 0
theorem near_lt {l u c:Nat} (hl:l<256) (hu:u<256) (hc:c<256):near l u c<256:=by unfold near;split<;>(try split)<;>assumption
theorem gss_lt {f l u c:Nat} (hl:l<256) (hu:u<256) (hc:c<256):gss f l u c<256:=by
 unfold gss
 split
 ·exact hl
 ·split
  ·exact hu
  ·split
   ·omega
   ·split
    ·exact near_lt hl hu hc
    ·omega
def chn (K:Nat):Nat:=if K=0 then 1 else if K=2 then 3 else if K=3 then 1 else if K=4 then 2 else if K=6 then 4 else 0
theorem chn_le (K : Nat) : chn K ≤ 4 := by unfold chn; repeat' split
                                           all_goals omega
end Px
namespace Go.Proofs.YtmbmecfodigciaaGreatDoor
open Go.RowKit Px
set_option linter.unusedSimpArgs false
set_option linter.unusedVariables false
theorem dist_x (a b:Nat) (w:World) (ha:a<=1000) (hb:b<=1000) :
  Calls Tryz.prog 187 #[.int .i64 (a:Int),.int .i64 (b:Int)] w fun r w'=>r = .returned (.int .i64 (dst a b:Int))/\w'=w:=by
 unfold dst
 by_cases h:a<b
 ·rw[if_pos h]
  go_enter Tryz.func187,Tryz.ntmps187
  go_wp2
  go_ret
  exact ⟨ret_int (by omega),rfl⟩
 ·rw[if_neg h]
  have h':¬ (a:Int)<(b:Int):=by omega
  go_enter Tryz.func187,Tryz.ntmps187
  go_wp2
  go_ret
  exact ⟨ret_int (by omega),rfl⟩
theorem near_x (l u c:Nat) (w:World) (hl:l<256) (hu:u<256) (hc:c<256) :
  Calls Tryz.prog 169 #[.int .u8 (l:Int),.int .u8 (u:Int),.int .u8 (c:Int)] w fun r w'=>r = .returned (.int .u8 (near l u c:Int))/\w'=w:=by
 have F:Hid (∀ (a b:Nat),a<=1000->b<=1000->Calls Tryz.prog 187 #[.int .i64 (a:Int),.int .i64 (b:Int)] w fun r w'=>r = .returned (.int .i64 (dst a b:Int))/\w'=w):=fun a b h1 h2=>dist_x a b w h1 h2
 unfold near
 have d1:dst u c<=1000:=by unfold dst;split<;>omega
 have d2:dst l c<=1000:=by unfold dst;split<;>omega
 have d3:dst (l+u) (2*c)<=1000:=by unfold dst;split<;>omega
 obtain ⟨q1,h1⟩:∃ q,q=dst u c:=⟨_,rfl⟩
 obtain ⟨q2,h2⟩:∃ q,q=dst l c:=⟨_,rfl⟩
 obtain ⟨q3,h3⟩:∃ q,q=dst (l+u) (2*c):=⟨_,rfl⟩
 have F1:Hid (Calls Tryz.prog 187 #[.int .i64 (u:Int),.int .i64 (c:Int)] w fun r w'=>r = .returned (.int .i64 (q1:Int))/\w'=w):=by rw[h1];exact F.out u c (by omega) (by omega)
 have F2:Hid (Calls Tryz.prog 187 #[.int .i64 (l:Int),.int .i64 (c:Int)] w fun r w'=>r = .returned (.int .i64 (q2:Int))/\w'=w):=by rw[h2];exact F.out l c (by omega) (by omega)
 have F3:Hid (Calls Tryz.prog 187 #[.int .i64 ((l+u:Nat):Int),.int .i64 ((2*c:Nat):Int)] w fun r w'=>r = .returned (.int .i64 (q3:Int))/\w'=w):=by rw[h3];exact F.out (l+u) (2*c) (by omega) (by omega)
 rw[<- h1] at d1 ⊢
 rw[<- h2] at d2 ⊢
 rw[<- h3] at d3 ⊢
 clear F h1 h2 h3
 have e3:(l:Int)+(u:Int)=((l+u:Nat):Int):=by omega
 have e4:2*(c:Int)=((2*c:Nat):Int):=by omega
 replace e3:Hid _:=e3
 replace e4:Hid _:=e4
 go_enter Tryz.func169,Tryz.ntmps169
 go_wp2_with fail
 refine F1.out.mono ?_
 rintro r w1 ⟨rfl,rfl⟩
 go_wp2_with fail
 refine F2.out.mono ?_
 rintro r w1 ⟨rfl,rfl⟩
 go_wp2_with fail
 rw[e3.out,e4.out]
 refine F3.out.mono ?_
 rintro r w1 ⟨rfl,rfl⟩
 clear F1 F2 F3 e3 e4
 by_cases e1:q1<=q2
 ·by_cases e2:q1<=q3
  ·go_wp2
   go_ret
   exact ⟨rfl,rfl⟩
  ·have e2':¬ (q1:Int)<=(q3:Int):=by omega
   have e5':¬ (q2:Int)<=(q3:Int):=by omega
   go_wp2
   go_ret
   exact ⟨rfl,rfl⟩
 ·have e1':¬ (q1:Int)<=(q2:Int):=by omega
  by_cases e5:q2<=q3
  ·go_wp2
   go_ret
   exact ⟨rfl,rfl⟩
  ·have e5':¬ (q2:Int)<=(q3:Int):=by omega
   go_wp2
   go_ret
   exact ⟨rfl,rfl⟩
theorem gss_x (f l u c:Nat) (w:World) (hf:f<256) (hl:l<256) (hu:u<256) (hc:c<256) :
  Calls Tryz.prog 160 #[.int .u8 (f:Int),.int .u8 (l:Int),.int .u8 (u:Int),.int .u8 (c:Int)] w fun r w'=>r = .returned (.int .u8 (gss f l u c:Int))/\w'=w:=by
 have F:Hid (Calls Tryz.prog 169 #[.int .u8 (l:Int),.int .u8 (u:Int),.int .u8 (c:Int)] w fun r w'=>r = .returned (.int .u8 (near l u c:Int))/\w'=w):=near_x l u c w hl hu hc
 unfold gss
 by_cases h1:f=1
 ·subst h1
  rw[if_pos rfl]
  go_enter Tryz.func160,Tryz.ntmps160
  go_wp2
  go_ret
  exact ⟨rfl,rfl⟩
 by_cases h2:f=2
 ·subst h2
  rw[if_neg h1,if_pos rfl]
  go_enter Tryz.func160,Tryz.ntmps160
  go_wp2
  go_ret
  exact ⟨rfl,rfl⟩
 by_cases h3:f=3
 ·subst h3
  rw[if_neg h1,if_neg h2,if_pos rfl]
  go_enter Tryz.func160,Tryz.ntmps160
  go_wp2
  go_ret
  exact ⟨ret_int (by omega),rfl⟩
 by_cases h4:f=4
 ·subst h4
  rw[if_neg h1,if_neg h2,if_neg h3,if_pos rfl]
  go_enter Tryz.func160,Tryz.ntmps160
  go_wp2_with fail
  refine F.out.mono ?_
  rintro r w1 ⟨rfl,rfl⟩
  go_wp2
  go_ret
  exact ⟨rfl,rfl⟩
 rw[if_neg h1,if_neg h2,if_neg h3,if_neg h4]
 have g1:((f:Int) == 1)=false:=by rw[beq_eq_false_iff_ne];omega
 have g2:((f:Int) == 2)=false:=by rw[beq_eq_false_iff_ne];omega
 have g3:((f:Int) == 3)=false:=by rw[beq_eq_false_iff_ne];omega
 have g4:((f:Int) == 4)=false:=by rw[beq_eq_false_iff_ne];omega
 go_enter Tryz.func160,Tryz.ntmps160
 go_wp2
 go_ret
 exact ⟨rfl,rfl⟩
theorem samples_x (K:Nat) (w:World) (hK:K<=255) :
  Calls Tryz.prog 93 #[.int .i64 (K:Int)] w fun r w'=>r = .returned (.int .i64 (chn K:Int))/\w'=w:=by
 by_cases h:K=0\/K=2\/K=3\/K=4\/K=6
 ·rcases h with rfl | rfl | rfl | rfl | rfl
  all_goals
   go_enter Tryz.func93,Tryz.ntmps93
   go_wp2
   go_ret
   exact ⟨rfl,rfl⟩
 ·have e:chn K=0:=by unfold chn;rw[if_neg (by omega),if_neg (by omega),if_neg (by omega),if_neg (by omega),if_neg (by omega)]
  rw[e]
  have g0:((K:Int) == 0)=false:=by rw[beq_eq_false_iff_ne];omega
  have g2:((K:Int) == 2)=false:=by rw[beq_eq_false_iff_ne];omega
  have g3:((K:Int) == 3)=false:=by rw[beq_eq_false_iff_ne];omega
  have g4:((K:Int) == 4)=false:=by rw[beq_eq_false_iff_ne];omega
  have g6:((K:Int) == 6)=false:=by rw[beq_eq_false_iff_ne];omega
  go_enter Tryz.func93,Tryz.ntmps93
  go_wp2
  go_ret
  exact ⟨rfl,rfl⟩
structure RwOk (r:Rw):Prop where
 W:r.hd.W<=16
 H:r.hd.H<=16
 D:r.hd.D<=16
 K:r.hd.K<=6
 L:r.hd.L<=1
 filter:r.filter<256
 row:∀ i,r.row i<256
 above:∀ i,r.above i<256
theorem Blk.at {w:World} {b n:Nat} {c:Nat->Value} (h:Blk w b n c) {i:Nat} {v:Value} (hi:i<n) (e:c i=v):w.cell? ⟨b,i,none⟩=some v:=by rw[h.cell i hi,e]
def bitsP (h:Hd):Nat:=chn h.K*h.D
def stepP (h:Hd):Nat:=max 1 (bitsP h / 8)
theorem bitsP_le {r:Rw} (h:RwOk r):bitsP r.hd<=64:=Nat.mul_le_mul (chn_le _) h.D
theorem pixelBits_x (b o n:Nat) (c:Nat->Value) (r:Rw) (w:World) (hB:Blk w b n c) (hV:RwV c o r) (hn:o+1549<=n) (hk:RwOk r) :
  Calls Tryz.prog 163 #[.pointer (some ⟨b,o,none⟩)] w fun e w'=>e = .returned (.int .i64 (bitsP r.hd:Int))/\∃ q,w'=w.drewN q:=by
 have k3:=hB.at (i:=o+3) (by omega) hV.hd.K
 have k2:=hB.at (i:=o+2) (by omega) hV.hd.D
 have F:Hid (∀ W':World,Calls Tryz.prog 93 #[.int .i64 (r.hd.K:Int)] W' fun e w'=>e = .returned (.int .i64 (chn r.hd.K:Int))/\w'=W'):=fun W'=>samples_x _ W' (by have:=hk.K;omega)
 have hc:=chn_le r.hd.K
 have hd:=hk.D
 unfold bitsP
 generalize chn r.hd.K=C at *
 generalize r.hd.D=D at *
 generalize r.hd.K=K at *
 have hCD:C*D<=64:=Nat.mul_le_mul hc hd
 obtain ⟨T,hT⟩:∃ T,T=C*D:=⟨_,rfl⟩
 have e:(C:Int)*(D:Int)=(T:Int):=by rw[hT];simp
 rw[<- hT] at hCD ⊢
 clear hT
 clear hB hV hk
 go_enter Tryz.func163,Tryz.ntmps163
 go_wp2_with fail
 go_quiet ((go_at_call 93;exact Calls.quiet_of_same (F.out _)))
 go_wp2
 go_ret
 exact ⟨ret_int (by omega),_,rfl⟩
theorem step_x (b o n:Nat) (c:Nat->Value) (r:Rw) (w:World) (hB:Blk w b n c) (hV:RwV c o r) (hn:o+1549<=n) (hk:RwOk r) :
  Calls Tryz.prog 202 #[.pointer (some ⟨b,o,none⟩)] w fun e w'=>e = .returned (.int .i64 (stepP r.hd:Int))/\∃ q,w'=w.drewN q:=by
 have F:Hid (Calls Tryz.prog 163 #[.pointer (some ⟨b,o,none⟩)] w fun e w'=>e = .returned (.int .i64 (bitsP r.hd:Int))/\∃ q,w'=w.drewN q):=pixelBits_x b o n c r w hB hV hn hk
 have hb:=bitsP_le hk
 unfold stepP
 generalize bitsP r.hd=P at *
 clear hB hV hk
 go_enter Tryz.func202,Tryz.ntmps202
 go_wp2_with fail
 refine F.out.mono ?_
 rintro e w1 ⟨rfl,q,hk1⟩
 subst w1
 go_wp2
 all_goals
  go_ret
  exact ⟨ret_int (by omega),q,rfl⟩
def cntP (L:Nat):Nat:=if L=1 then 7 else 1
theorem count_x (L:Nat) (w:World) :
  Calls Tryz.prog 94 #[.int .i64 (L:Int)] w fun e w'=>e = .returned (.int .i64 (cntP L:Int))/\w'=w:=by
 unfold cntP
 by_cases h:L=1
 ·subst h
  rw[if_pos rfl]
  go_enter Tryz.func94,Tryz.ntmps94
  go_wp2
  go_ret
  exact ⟨rfl,rfl⟩
 ·rw[if_neg h]
  have h':((L:Int) == 1)=false:=by rw[beq_eq_false_iff_ne];omega
  go_enter Tryz.func94,Tryz.ntmps94
  go_wp2
  go_ret
  exact ⟨rfl,rfl⟩
def wholeP (r:Rw):Bool:=decide ((cntP r.hd.L:Int)<=r.pass)
theorem whole_x (b o n:Nat) (c:Nat->Value) (r:Rw) (w:World) (hB:Blk w b n c) (hV:RwV c o r) (hn:o+1549<=n) :
  Calls Tryz.prog 144 #[.pointer (some ⟨b,o,none⟩)] w fun e w'=>e = .returned (.bool (wholeP r))/\∃ q,w'=w.drewN q:=by
 have k4:=hB.at (i:=o+4) (by omega) hV.hd.L
 have k6:=hB.at (i:=o+6) (by omega) hV.pass
 have F:Hid (∀ W':World,Calls Tryz.prog 94 #[.int .i64 (r.hd.L:Int)] W' fun e w'=>e = .returned (.int .i64 (cntP r.hd.L:Int))/\w'=W'):=fun W'=>count_x _ W'
 unfold wholeP
 generalize cntP r.hd.L=C at *
 generalize r.hd.L=L at *
 generalize r.pass=P at *
 clear hB hV
 go_enter Tryz.func144,Tryz.ntmps144
 go_wp2_with fail
 go_quiet ((go_at_call 94;exact Calls.quiet_of_same (F.out _)))
 go_wp2
 go_ret
 exact ⟨ret_bool (by simp),_,rfl⟩
theorem index_x (x y:Nat) (w:World) (hx:x<=1000) (hy:y<=1000) :
  Calls Tryz.prog 124 #[.int .i64 (x:Int),.int .i64 (y:Int)] w fun e w'=>e = .returned (.tuple #[.int .i64 (if x<16/\y<16 then (y*16+x:Nat) else 0:Int),.bool (decide (x<16/\y<16))])/\w'=w:=by
 by_cases h:x<16
 ·by_cases h2:y<16
  ·rw[if_pos ⟨h,h2⟩,decide_eq_true (⟨h,h2⟩:x<16/\y<16)]
   have g1:¬ (x:Int)<0:=by omega
   have g2:¬ (y:Int)<0:=by omega
   have g3:¬ (16:Int)<=(x:Int):=by omega
   have g4:¬ (16:Int)<=(y:Int):=by omega
   go_enter Tryz.func124,Tryz.ntmps124
   go_wp2
   go_ret2
   refine ⟨?_,rfl⟩
   have e:(y:Int)*16+(x:Int)=((y*16+x:Nat):Int):=by omega
   rw[e]
   rfl
  ·rw[if_neg (fun q=>h2 q.2),decide_eq_false (fun q:x<16/\y<16=>h2 q.2)]
   have g1:¬ (x:Int)<0:=by omega
   have g2:¬ (y:Int)<0:=by omega
   have g3:¬ (16:Int)<=(x:Int):=by omega
   have g4:(16:Int)<=(y:Int):=by omega
   go_enter Tryz.func124,Tryz.ntmps124
   go_wp2
   go_ret2
   exact ⟨rfl,rfl⟩
 ·rw[if_neg (fun q=>h q.1),decide_eq_false (fun q:x<16/\y<16=>h q.1)]
  have g1:¬ (x:Int)<0:=by omega
  have g3:(16:Int)<=(x:Int):=by omega
  go_enter Tryz.func124,Tryz.ntmps124
  go_wp2
  go_ret2
  exact ⟨rfl,rfl⟩
def bitsO (x a n:Nat):Nat:=x / 2^(8 - a - n) % 2^n
theorem bitsO_lt (x a n:Nat):bitsO x a n<2^n:=Nat.mod_lt _ (Nat.two_pow_pos n)
theorem u16_and (a n:Nat) (h:a<65536) (hn:n<=8):bits .and .u16 (a:Int) ((2^n - 1:Nat):Int)=((a % 2^n:Nat):Int):=by
 have hp:2^n<=256:=Nat.pow_le_pow_right (n:=2) (by omega) hn
 show IntKind.u16.wrap ((BitVec.ofInt 16 (a:Int) &&& BitVec.ofInt 16 ((2^n - 1:Nat):Int)).toNat:Int)=_
 have e1:(BitVec.ofInt 16 (a:Int)).toNat=a:=by rw[BitVec.ofInt_natCast,BitVec.toNat_ofNat];exact Nat.mod_eq_of_lt (by omega)
 have e2:(BitVec.ofInt 16 ((2^n - 1:Nat):Int)).toNat=2^n - 1:=by rw[BitVec.ofInt_natCast,BitVec.toNat_ofNat];exact Nat.mod_eq_of_lt (by omega)
 rw[BitVec.toNat_and,e1,e2,Nat.and_two_pow_sub_one_eq_mod]
 have:a % 2^n<65536:=Nat.lt_of_le_of_lt (Nat.mod_le _ _) h
 rw[IntKind.wrap_u16]
 omega
theorem bitsOf_x (x a n:Nat) (w:World) (hx:x<256) (ha:a+n<=8) :
  Calls Tryz.prog 206 #[.int .u8 (x:Int),.int .i64 (a:Int),.int .i64 (n:Int)] w fun e w'=>e = .returned (.int .u16 (bitsO x a n:Int))/\w'=w:=by
 have g1:¬ (a:Int)<0:=by omega
 have g2:¬ (n:Int)<0:=by omega
 have g3:¬ (8:Int)<(a:Int)+(n:Int):=by omega
 have n8:n<=8:=by omega
 have a8:a<=8:=by omega
 go_enter Tryz.func206,Tryz.ntmps206
 go_wp2
 go_ret
 refine ⟨ret_int ?_,rfl⟩
 have hp:2^n<=256:=Nat.pow_le_pow_right (n:=2) (by omega) n8
 have hp1:1<=2^n:=Nat.one_le_two_pow
 have e0:(2:Int)^n=((2^n:Nat):Int):=by simp
 have e1:(x:Int) / 2^(8 - a - n)=((x / 2^(8 - a - n):Nat):Int):=by simp
 have e2:IntKind.u16.wrap (IntKind.u16.wrap (2^n) - 1)=((2^n - 1:Nat):Int):=by
  rw[e0,IntKind.wrap_u16,IntKind.wrap_u16];omega
 show bits .and .u16 ((x:Int) / 2^(8 - a - n)) (IntKind.u16.wrap (IntKind.u16.wrap (2^n) - 1))=_
 rw[e1,e2,u16_and _ _ (Nat.lt_of_le_of_lt (Nat.div_le_self _ _) (by omega)) n8]
 rfl
def smpO (r:Rw) (i:Nat):Nat:=if r.hd.D<16 then bitsO (r.row (i*r.hd.D / 8)) (i*r.hd.D % 8) r.hd.D else 256*r.row (i*r.hd.D / 8)+r.row (i*r.hd.D / 8+1)
def okD (D:Nat):Prop:=D=1\/D=2\/D=4\/D=8\/D=16
theorem u16_or8 (a c:Nat) (ha:a<256) (hc:c<256):bits .or .u16 ((a:Int)*256) (c:Int)=((256*a+c:Nat):Int):=by
 show IntKind.u16.wrap ((BitVec.ofInt 16 ((a:Int)*256) ||| BitVec.ofInt 16 (c:Int)).toNat:Int)=_
 have q:(a:Int)*256=((a*256:Nat):Int):=by omega
 have e1:(BitVec.ofInt 16 ((a:Int)*256)).toNat=a*256:=by rw[q,BitVec.ofInt_natCast,BitVec.toNat_ofNat];exact Nat.mod_eq_of_lt (by omega)
 have e2:(BitVec.ofInt 16 (c:Int)).toNat=c:=by rw[BitVec.ofInt_natCast,BitVec.toNat_ofNat];exact Nat.mod_eq_of_lt (by omega)
 have e3:a*256 ||| c=256*a+c:=by
  have:=Nat.shiftLeft_add_eq_or_of_lt (b:=c) (i:=8) (by omega) a
  rw[Nat.shiftLeft_eq,show (2^8:Nat)=256 from rfl] at this
  omega
 rw[BitVec.toNat_or,e1,e2,e3,IntKind.wrap_u16]
 omega
theorem sample_x (b o n i:Nat) (c:Nat->Value) (r:Rw) (w:World) (hB:Blk w b n c) (hV:RwV c o r) (hn:o+1549<=n) (hk:RwOk r) (hD:okD r.hd.D) (hi:i*r.hd.D+r.hd.D<=1024) (hi2:i<=1024) :
  Calls Tryz.prog 205 #[.pointer (some ⟨b,o,none⟩),.int .i64 (i:Int)] w fun e w'=>e = .returned (.int .u16 (smpO r i:Int))/\∃ q,w'=w.drewN q:=by
 have k2:=hB.at (i:=o+2) (by omega) hV.hd.D
 have hdd:=hk.D
 unfold smpO
 obtain ⟨D,hD0⟩:∃ D,D=r.hd.D:=⟨_,rfl⟩
 rw[<- hD0] at k2 hdd hD hi ⊢
 obtain ⟨T,hT⟩:∃ T,T=i*D:=⟨_,rfl⟩
 have eT:(i:Int)*(D:Int)=(T:Int):=by rw[hT];simp
 rw[<- hT] at hi ⊢
 have hr1:r.row (T / 8)<256:=hk.row _
 have hr2:r.row (T / 8+1)<256:=hk.row _
 have hDp:1<=D:=by unfold okD at hD;omega
 have ht8:T / 8<128:=by omega
 have q1:=hB.at (i:=o+13+T / 8) (by omega) (hV.row (T / 8) ht8)
 have eT8:(T:Int) / 8=((T / 8:Nat):Int):=by omega
 have eTm:(T:Int) % 8=((T % 8:Nat):Int):=by omega
 obtain ⟨A,hA⟩:∃ A,A=T / 8:=⟨_,rfl⟩
 obtain ⟨M,hM⟩:∃ M,M=T % 8:=⟨_,rfl⟩
 rw[<- hA] at hr1 hr2 ht8 q1 eT8 ⊢
 rw[<- hM] at eTm ⊢
 have g1:¬ (A:Int)<0:=by omega
 have g2:¬ (128:Int)<=(A:Int):=by omega
 have g3:(0:Int)<=(A:Int):=by omega
 have g4:(A:Int)<128:=by omega
 by_cases h16:D<16
 ·have hMD:M+D<=8:=by
   rw[hM,hT]
   rcases hD with h | h | h | h | h
   ·omega
   ·rw[h];omega
   ·rw[h];omega
   ·rw[h];omega
   ·omega
  have F:Hid (∀ W':World,Calls Tryz.prog 206 #[.int .u8 (r.row A:Int),.int .i64 (M:Int),.int .i64 (D:Int)] W' fun e w'=>e = .returned (.int .u16 (bitsO (r.row A) M D:Int))/\w'=W'):=fun W'=>bitsOf_x _ _ _ W' hr1 hMD
  rw[if_pos h16]
  generalize r.row A=X at *
  have h16':(D:Int)<16:=by omega
  generalize bitsO X M D=Y at *
  clear hB hV hk hT hA hM hD0
  go_enter Tryz.func205,Tryz.ntmps205
  go_wp2_with fail
  go_quiet ((go_at_call 206;exact Calls.quiet_of_same (F.out _)))
  go_wp2
  go_ret
  exact ⟨rfl,_,rfl⟩
 ·have hD16:D=16:=by omega
  have h16':¬ (D:Int)<16:=by omega
  have hA1:A+1<128:=by omega
  have q2:=hB.at (i:=o+13+(A+1)) (by omega) (hV.row (A+1) hA1)
  have e5:(A:Int)+1=((A+1:Nat):Int):=by omega
  have g5:¬ (128:Int)<=((A+1:Nat):Int):=by omega
  have g6:((A+1:Nat):Int)<128:=by omega
  have g7:(0:Int)<=((A+1:Nat):Int):=by omega
  obtain ⟨A1,hA1'⟩:∃ A1,A1=A+1:=⟨_,rfl⟩
  rw[<- hA1'] at q2 e5 g5 g6 g7 hr2 ⊢
  rw[if_neg h16]
  have hY:=u16_or8 (r.row A) (r.row A1) hr1 hr2
  generalize r.row A=X at *
  generalize r.row A1=X1 at *
  replace hY:Hid _:=hY
  clear hB hV hk hT hA hM hD0 hA1' hD16
  go_enter Tryz.func205,Tryz.ntmps205
  go_wp2_with fail
  go_quiet (fail)
  go_wp2
  go_ret
  exact ⟨ret_int (by first | exact hY.out | (rw[<- hY.out])),_,rfl⟩
def leftP (r:Rw) (i:Nat):Nat:=if stepP r.hd<=i then r.row (i - stepP r.hd) else 0
def cornP (r:Rw) (i:Nat):Nat:=if stepP r.hd<=i then r.above (i - stepP r.hd) else 0
def undo (r:Rw) (i x:Nat):Nat:=(x+gss r.filter (leftP r i) (r.above i) (cornP r i)) % 256
def Rw.lay (r:Rw) (i x:Nat):Rw:={ r with row:=upd r.row i (undo r i x) }
structure FrC (b lo hi:Nat) (c d:Nat->Value):Prop where
 out:∀ i,¬ (lo<=i/\i<hi)->d i=c i
theorem FrC.refl (b lo hi:Nat) (c:Nat->Value):FrC b lo hi c c:=⟨fun _ _=>rfl⟩
theorem FrC.trans {b lo hi:Nat} {c d e:Nat->Value} (h:FrC b lo hi c d) (k:FrC b lo hi d e):FrC b lo hi c e:=⟨fun i hi=>(k.out i hi).trans (h.out i hi)⟩
theorem FrC.mono {b lo hi lo' hi':Nat} {c d:Nat->Value} (h:FrC b lo hi c d) (h1:lo'<=lo) (h2:hi<=hi'):FrC b lo' hi' c d:=⟨fun i q=>h.out i (fun k=>q ⟨by omega,by omega⟩)⟩
theorem FrC.upd {b lo hi k:Nat} {c:Nat->Value} (v:Value) (h1:lo<=k) (h2:k<hi):FrC b lo hi c (upd c k v):=⟨fun i q=>upd_ne _ _ _ (fun e=>q ⟨by omega,by omega⟩)⟩
def RwStep (b o n:Nat) (c:Nat->Value) (r':Rw) (w w':World):Prop:=∃ d,Blk w' b n d/\RwV d o r'/\FrC b o (o+1549) c d/\Fr1 b w w'
theorem lay_end {b o n i x:Nat} {c:Nat->Value} {r:Rw} {w w1:World} {Z:Int} (hB:Blk w1 b n c) (hV:RwV c o r) (hn:o+1549<=n) (hi:i<128) (hk:Kept w w1) (hZ:Z=(undo r i x:Int)):RwStep b o n c (r.lay i x) w (w1.setCell ⟨b,o+13+i,none⟩ (.int .u8 Z)).drew:=by
 subst hZ
 refine ⟨_,(hB.set (by omega:o+13+i<n) _).kept ((Kept.refl _).drewN 1),hV.set_row i _ hi,FrC.upd _ (by omega) (by omega),?_⟩
 exact Fr1.drewN (Fr1.set (Fr.of_kept hk) _ _) 1
theorem u8_wrap (a:Nat):IntKind.u8.wrap (a:Int)=((a % 256:Nat):Int):=by rw[IntKind.wrap_u8];omega
theorem lay_x (b o n i x:Nat) (c:Nat->Value) (r:Rw) (w:World) (hB:Blk w b n c) (hV:RwV c o r) (hn:o+1549<=n) (hk:RwOk r) (hi:i<128) (hx:x<256) :
  Calls Tryz.prog 198 #[.pointer (some ⟨b,o,none⟩),.int .i64 (i:Int),.int .u8 (x:Int)] w fun e w'=>e = .returned (.tuple #[])/\RwStep b o n c (r.lay i x) w w':=by
 have FJ:Hid (Calls Tryz.prog 202 #[.pointer (some ⟨b,o,none⟩)] w fun e w'=>e = .returned (.int .i64 (stepP r.hd:Int))/\Kept w w'):=(step_x b o n c r w hB hV hn hk).mono (fun e w' ⟨h1,q,h2⟩=>⟨h1,by rw[h2];exact (Kept.refl _).drewN _⟩)
 have HB:Hid (Blk w b n c):=hB
 have HV:Hid (RwV c o r):=hV
 have HK:Hid (RwOk r):=hk
 have hst:1<=stepP r.hd/\stepP r.hd<=8:=by
  have:=bitsP_le hk
  unfold stepP;omega
 have hlf:leftP r i<256:=by unfold leftP;split;exact hk.row _;omega
 have hcf:cornP r i<256:=by unfold cornP;split;exact hk.above _;omega
 have hfl:=hk.filter
 have hab:=hk.above i
 have FG:Hid (∀ W':World,Calls Tryz.prog 160 #[.int .u8 (r.filter:Int),.int .u8 (leftP r i:Int),.int .u8 (r.above i:Int),.int .u8 (cornP r i:Int)] W' fun e w'=>e = .returned (.int .u8 (gss r.filter (leftP r i) (r.above i) (cornP r i):Int))/\w'=W'):=fun W'=>gss_x _ _ _ _ W' hfl hlf hab hcf
 have HU:Hid (undo r i x=(x+gss r.filter (leftP r i) (r.above i) (cornP r i)) % 256):=rfl
 have hg:=gss_lt (f:=r.filter) hlf hab hcf
 obtain ⟨S,hS⟩:∃ S,S=stepP r.hd:=⟨_,rfl⟩
 rw[<- hS] at FJ hst
 have g1:¬ (i:Int)<0:=by omega
 have g2:¬ (128:Int)<=(i:Int):=by omega
 have g3:(0:Int)<=(i:Int):=by omega
 have g4:(i:Int)<128:=by omega
 clear hB hV hk
 go_enter Tryz.func198,Tryz.ntmps198
 go_wp2_with fail
 refine FJ.out.mono ?_
 rintro e w1 ⟨rfl,hk1⟩
 have B1:Hid (Blk w1 b n c):=HB.out.kept hk1
 have HK1:Hid (Kept w w1):=hk1
 clear hk1 FJ HB
 have k12:=B1.out.at (i:=o+12) (by omega) HV.out.filter
 have ka:=B1.out.at (i:=o+141+i) (by omega) (HV.out.above i hi)
 have kr:=B1.out.at (i:=o+13+i) (by omega) (HV.out.row i hi)
 have zr:=B1.out.fz (o+13+i)
 generalize hU:undo r i x=U at *
 replace hU:Hid _:=hU
 by_cases hb:S<=i
 ·have kb:=B1.out.at (i:=o+13+(i - S)) (by omega) (HV.out.row (i - S) (by omega))
  have kc:=B1.out.at (i:=o+141+(i - S)) (by omega) (HV.out.above (i - S) (by omega))
  have eL:leftP r i=r.row (i - S):=by unfold leftP;rw[<- hS,if_pos hb]
  have eC:cornP r i=r.above (i - S):=by unfold cornP;rw[<- hS,if_pos hb]
  have eI:(i:Int) - (S:Int)=((i - S:Nat):Int):=by omega
  rw[eL,eC] at FG HU hg
  rw[eL] at hlf
  rw[eC] at hcf
  clear eL eC
  obtain ⟨J,hJ⟩:∃ J,J=i - S:=⟨_,rfl⟩
  rw[<- hJ] at kb kc eI FG HU hg hlf hcf
  have g5:¬ (J:Int)<0:=by omega
  have g6:¬ (128:Int)<=(J:Int):=by omega
  have g7:(0:Int)<=(J:Int):=by omega
  have g8:(J:Int)<128:=by omega
  clear hJ hS
  generalize hX1:r.row J=X1 at *
  generalize hX2:r.above J=X2 at *
  generalize hX3:r.filter=X3 at *
  generalize hX4:r.above i=X4 at *
  generalize hX5:gss X3 X1 X4 X2=G at *
  replace hX1:Hid _:=hX1
  replace hX2:Hid _:=hX2
  replace hX3:Hid _:=hX3
  replace hX4:Hid _:=hX4
  replace hX5:Hid _:=hX5
  go_wp2_with fail
  go_region_held3 (fun W=>W.cell? ⟨b,o+12,none⟩=some (.int .u8 (X3:Int))/\W.cell? ⟨b,o+141+i,none⟩=some (.int .u8 (X4:Int))) (first | exact ⟨k12,ka⟩ | exact ⟨(cell_set_other _ _ _ _ _ (by omega)).trans k12,(cell_set_other _ _ _ _ _ (by omega)).trans ka⟩ | go_keep) ((go_at_call 160;refine (FG.out _).mono ?_;rintro e w2 ⟨rfl,rfl⟩))
  go_wp2_with fail
  go_end0
  refine ⟨rfl,lay_end B1.out HV.out hn hi HK1.out ?_⟩
  rw[hU.out,HU.out,show (x:Int)+(G:Int)=((x+G:Nat):Int) from by omega,u8_wrap]
 ·have eL:leftP r i=0:=by unfold leftP;rw[<- hS,if_neg hb]
  have eC:cornP r i=0:=by unfold cornP;rw[<- hS,if_neg hb]
  rw[eL,eC] at FG HU hg
  clear eL eC hlf hcf
  have g5:(i:Int) - (S:Int)<0:=by omega
  have g6:¬ (0:Int)<=(i:Int) - (S:Int):=by omega
  clear hS
  generalize hX3:r.filter=X3 at *
  generalize hX4:r.above i=X4 at *
  generalize hX5:gss X3 0 X4 0=G at *
  replace hX3:Hid _:=hX3
  replace hX4:Hid _:=hX4
  replace hX5:Hid _:=hX5
  have FG0:Hid (∀ W':World,Calls Tryz.prog 160 #[.int .u8 (X3:Int),.int .u8 0,.int .u8 (X4:Int),.int .u8 0] W' fun e w'=>e = .returned (.int .u8 (G:Int))/\w'=W'):=FG
  clear FG
  go_wp2_with fail
  go_region_held3 (fun W=>W.cell? ⟨b,o+12,none⟩=some (.int .u8 (X3:Int))/\W.cell? ⟨b,o+141+i,none⟩=some (.int .u8 (X4:Int))) (first | exact ⟨k12,ka⟩ | exact ⟨(cell_set_other _ _ _ _ _ (by omega)).trans k12,(cell_set_other _ _ _ _ _ (by omega)).trans ka⟩ | go_keep) ((go_at_call 160;refine (FG0.out _).mono ?_;rintro e w2 ⟨rfl,rfl⟩))
  go_wp2_with fail
  go_end0
  refine ⟨rfl,lay_end B1.out HV.out hn hi HK1.out ?_⟩
  rw[hU.out,HU.out,show (x:Int)+(G:Int)=((x+G:Nat):Int) from by omega,u8_wrap]
