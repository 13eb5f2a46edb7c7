import Derived.Test.YtmbmecfodigciaaGreatDoorMo00
import Derived.Deep.RegionHeld3
set_option maxRecDepth 100000
set_option maxHeartbeats 6400000
namespace Px
def upd {A:Type} (f:Nat→A) (i:Nat) (v:A):Nat→A:=fun j=>if j=i then v else f j
theorem upd_same {A:Type} (f:Nat→A) (i:Nat) (v:A):upd f i v i=v:=if_pos rfl
theorem upd_ne {A:Type} (f:Nat→A) (i:Nat) (v:A) {j:Nat} (h:j≠i):upd f i v j=f j:=if_neg h
end Px
namespace Go.Proofs.YtmbmecfodigciaaGreatDoor
open Go.RowKit Px
structure Pt where
 bits:Nat
 offset:Nat
 ahead:Nat
structure PtV (c:Nat→Value) (o:Nat) (s:Pt):Prop where
 bits:c (o) = .int .i64 (s.bits:Int)
 offset:c (o+1) = .int .i64 (s.offset:Int)
 ahead:c (o+2) = .int .i64 (s.ahead:Int)
theorem PtV.congr {c d:Nat→Value} {o:Nat} {s:Pt} (h:PtV c o s) (e:∀ i,o≤i→i<o+3→d i=c i):PtV d o s:=
 ⟨(e _ (by omega) (by omega)).trans h.bits,(e _ (by omega) (by omega)).trans h.offset,(e _ (by omega) (by omega)).trans h.ahead⟩
theorem PtV.set_bits {c:Nat→Value} {o:Nat} {s:Pt} (h:PtV c o s) (v:Nat):PtV (upd c (o) (.int .i64 (v:Int))) o { s with bits:=v } :=
 ⟨upd_same _ _ _,(upd_ne _ _ _ (by omega)).trans h.offset,(upd_ne _ _ _ (by omega)).trans h.ahead⟩
theorem PtV.set_offset {c:Nat→Value} {o:Nat} {s:Pt} (h:PtV c o s) (v:Nat):PtV (upd c (o+1) (.int .i64 (v:Int))) o { s with offset:=v } :=
 ⟨(upd_ne _ _ _ (by omega)).trans h.bits,upd_same _ _ _,(upd_ne _ _ _ (by omega)).trans h.ahead⟩
theorem PtV.set_ahead {c:Nat→Value} {o:Nat} {s:Pt} (h:PtV c o s) (v:Nat):PtV (upd c (o+2) (.int .i64 (v:Int))) o { s with ahead:=v } :=
 ⟨(upd_ne _ _ _ (by omega)).trans h.bits,(upd_ne _ _ _ (by omega)).trans h.offset,upd_same _ _ _⟩
structure CS where
 count:Nat→Nat
 sym:Nat→Nat
 total:Nat
 longest:Nat
structure CSV (c:Nat→Value) (o:Nat) (s:CS):Prop where
 count:∀ i,i<16→c (o+i) = .int .i64 (s.count i:Int)
 sym:∀ i,i<288→c (o+16+i) = .int .i64 (s.sym i:Int)
 total:c (o+304) = .int .i64 (s.total:Int)
 longest:c (o+305) = .int .i64 (s.longest:Int)
theorem CSV.congr {c d:Nat→Value} {o:Nat} {s:CS} (h:CSV c o s) (e:∀ i,o≤i→i<o+306→d i=c i):CSV d o s:=
 ⟨fun i hi=>(e _ (by omega) (by omega)).trans (h.count i hi),fun i hi=>(e _ (by omega) (by omega)).trans (h.sym i hi),(e _ (by omega) (by omega)).trans h.total,(e _ (by omega) (by omega)).trans h.longest⟩
theorem CSV.set_count {c:Nat→Value} {o:Nat} {s:CS} (h:CSV c o s) (k:Nat) (v:Nat) (hk:k<16):CSV (upd c (o+k) (.int .i64 (v:Int))) o { s with count:=upd s.count k v } :=
 ⟨fun i hi=>by
  by_cases e:i=k
  ·subst e;rw[upd_same];show _=Value.int .i64 ((upd s.count i v i:Nat):Int);rw[upd_same]
  ·rw[upd_ne _ _ _ (by omega)];show _=Value.int .i64 ((upd s.count k v i:Nat):Int);rw[upd_ne _ _ _ e];exact h.count i hi,fun i hi=>(upd_ne _ _ _ (by omega)).trans (h.sym i hi),(upd_ne _ _ _ (by omega)).trans h.total,(upd_ne _ _ _ (by omega)).trans h.longest⟩
theorem CSV.set_sym {c:Nat→Value} {o:Nat} {s:CS} (h:CSV c o s) (k:Nat) (v:Nat) (hk:k<288):CSV (upd c (o+16+k) (.int .i64 (v:Int))) o { s with sym:=upd s.sym k v } :=
 ⟨fun i hi=>(upd_ne _ _ _ (by omega)).trans (h.count i hi),fun i hi=>by
  by_cases e:i=k
  ·subst e;rw[upd_same];show _=Value.int .i64 ((upd s.sym i v i:Nat):Int);rw[upd_same]
  ·rw[upd_ne _ _ _ (by omega)];show _=Value.int .i64 ((upd s.sym k v i:Nat):Int);rw[upd_ne _ _ _ e];exact h.sym i hi,(upd_ne _ _ _ (by omega)).trans h.total,(upd_ne _ _ _ (by omega)).trans h.longest⟩
theorem CSV.set_total {c:Nat→Value} {o:Nat} {s:CS} (h:CSV c o s) (v:Nat):CSV (upd c (o+304) (.int .i64 (v:Int))) o { s with total:=v } :=
 ⟨fun i hi=>(upd_ne _ _ _ (by omega)).trans (h.count i hi),fun i hi=>(upd_ne _ _ _ (by omega)).trans (h.sym i hi),upd_same _ _ _,(upd_ne _ _ _ (by omega)).trans h.longest⟩
theorem CSV.set_longest {c:Nat→Value} {o:Nat} {s:CS} (h:CSV c o s) (v:Nat):CSV (upd c (o+305) (.int .i64 (v:Int))) o { s with longest:=v } :=
 ⟨fun i hi=>(upd_ne _ _ _ (by omega)).trans (h.count i hi),fun i hi=>(upd_ne _ _ _ (by omega)).trans (h.sym i hi),(upd_ne _ _ _ (by omega)).trans h.total,upd_same _ _ _⟩
structure Tb where
 literals:Nat
 distances:Nat
 shorts:Nat
 short:CS
 sl:Nat→Nat
 ls:Nat→Nat
 told:Nat
 rep:Int
structure TbV (c:Nat→Value) (o:Nat) (s:Tb):Prop where
 literals:c (o) = .int .i64 (s.literals:Int)
 distances:c (o+1) = .int .i64 (s.distances:Int)
 shorts:c (o+2) = .int .i64 (s.shorts:Int)
 short:CSV c (o+3) s.short
 sl:∀ i,i<19→c (o+309+i) = .int .u8 (s.sl i:Int)
 ls:∀ i,i<316→c (o+328+i) = .int .u8 (s.ls i:Int)
 told:c (o+644) = .int .i64 (s.told:Int)
 rep:c (o+645) = .int .i64 s.rep
theorem TbV.congr {c d:Nat→Value} {o:Nat} {s:Tb} (h:TbV c o s) (e:∀ i,o≤i→i<o+646→d i=c i):TbV d o s:=
 ⟨(e _ (by omega) (by omega)).trans h.literals,(e _ (by omega) (by omega)).trans h.distances,(e _ (by omega) (by omega)).trans h.shorts,h.short.congr (fun i h1 h2=>e i (by omega) (by omega)),fun i hi=>(e _ (by omega) (by omega)).trans (h.sl i hi),fun i hi=>(e _ (by omega) (by omega)).trans (h.ls i hi),(e _ (by omega) (by omega)).trans h.told,(e _ (by omega) (by omega)).trans h.rep⟩
structure St where
 part:Nat
 number:Nat
 got:Nat
 wanted:Nat
 path:Pt
 skip:Bool
 window:Nat
 last:Bool
 left:Nat
 lit:CS
 dist:CS
 tb:Tb
 length:Nat
 base:Nat
 hist:Nat→Nat
 count:Nat
 sum:Nat
structure StV (c:Nat→Value) (o:Nat) (s:St):Prop where
 part:c (o) = .int .i64 (s.part:Int)
 number:c (o+1) = .int .u32 (s.number:Int)
 got:c (o+2) = .int .u64 (s.got:Int)
 wanted:c (o+3) = .int .u64 (s.wanted:Int)
 path:PtV c (o+4) s.path
 skip:c (o+7) = .bool s.skip
 window:c (o+8) = .int .i64 (s.window:Int)
 last:c (o+9) = .bool s.last
 left:c (o+10) = .int .i64 (s.left:Int)
 lit:CSV c (o+11) s.lit
 dist:CSV c (o+317) s.dist
 tb:TbV c (o+623) s.tb
 length:c (o+1269) = .int .i64 (s.length:Int)
 base:c (o+1270) = .int .i64 (s.base:Int)
 hist:∀ i,i<2078→c (o+1271+i) = .int .u8 (s.hist i:Int)
 count:c (o+3349) = .int .i64 (s.count:Int)
 sum:c (o+3350) = .int .u32 (s.sum:Int)
theorem StV.congr {c d:Nat→Value} {o:Nat} {s:St} (h:StV c o s) (e:∀ i,o≤i→i<o+3351→d i=c i):StV d o s:=
 ⟨(e _ (by omega) (by omega)).trans h.part,(e _ (by omega) (by omega)).trans h.number,(e _ (by omega) (by omega)).trans h.got,(e _ (by omega) (by omega)).trans h.wanted,h.path.congr (fun i h1 h2=>e i (by omega) (by omega)),(e _ (by omega) (by omega)).trans h.skip,(e _ (by omega) (by omega)).trans h.window,(e _ (by omega) (by omega)).trans h.last,(e _ (by omega) (by omega)).trans h.left,h.lit.congr (fun i h1 h2=>e i (by omega) (by omega)),h.dist.congr (fun i h1 h2=>e i (by omega) (by omega)),h.tb.congr (fun i h1 h2=>e i (by omega) (by omega)),(e _ (by omega) (by omega)).trans h.length,(e _ (by omega) (by omega)).trans h.base,fun i hi=>(e _ (by omega) (by omega)).trans (h.hist i hi),(e _ (by omega) (by omega)).trans h.count,(e _ (by omega) (by omega)).trans h.sum⟩
theorem StV.set_part {c:Nat→Value} {o:Nat} {s:St} (h:StV c o s) (v:Nat):StV (upd c (o) (.int .i64 (v:Int))) o { s with part:=v } :=
 ⟨upd_same _ _ _,(upd_ne _ _ _ (by omega)).trans h.number,(upd_ne _ _ _ (by omega)).trans h.got,(upd_ne _ _ _ (by omega)).trans h.wanted,h.path.congr (fun i h1 h2=>upd_ne _ _ _ (by omega)),(upd_ne _ _ _ (by omega)).trans h.skip,(upd_ne _ _ _ (by omega)).trans h.window,(upd_ne _ _ _ (by omega)).trans h.last,(upd_ne _ _ _ (by omega)).trans h.left,h.lit.congr (fun i h1 h2=>upd_ne _ _ _ (by omega)),h.dist.congr (fun i h1 h2=>upd_ne _ _ _ (by omega)),h.tb.congr (fun i h1 h2=>upd_ne _ _ _ (by omega)),(upd_ne _ _ _ (by omega)).trans h.length,(upd_ne _ _ _ (by omega)).trans h.base,fun i hi=>(upd_ne _ _ _ (by omega)).trans (h.hist i hi),(upd_ne _ _ _ (by omega)).trans h.count,(upd_ne _ _ _ (by omega)).trans h.sum⟩
theorem StV.set_number {c:Nat→Value} {o:Nat} {s:St} (h:StV c o s) (v:Nat):StV (upd c (o+1) (.int .u32 (v:Int))) o { s with number:=v } :=
 ⟨(upd_ne _ _ _ (by omega)).trans h.part,upd_same _ _ _,(upd_ne _ _ _ (by omega)).trans h.got,(upd_ne _ _ _ (by omega)).trans h.wanted,h.path.congr (fun i h1 h2=>upd_ne _ _ _ (by omega)),(upd_ne _ _ _ (by omega)).trans h.skip,(upd_ne _ _ _ (by omega)).trans h.window,(upd_ne _ _ _ (by omega)).trans h.last,(upd_ne _ _ _ (by omega)).trans h.left,h.lit.congr (fun i h1 h2=>upd_ne _ _ _ (by omega)),h.dist.congr (fun i h1 h2=>upd_ne _ _ _ (by omega)),h.tb.congr (fun i h1 h2=>upd_ne _ _ _ (by omega)),(upd_ne _ _ _ (by omega)).trans h.length,(upd_ne _ _ _ (by omega)).trans h.base,fun i hi=>(upd_ne _ _ _ (by omega)).trans (h.hist i hi),(upd_ne _ _ _ (by omega)).trans h.count,(upd_ne _ _ _ (by omega)).trans h.sum⟩
theorem StV.set_got {c:Nat→Value} {o:Nat} {s:St} (h:StV c o s) (v:Nat):StV (upd c (o+2) (.int .u64 (v:Int))) o { s with got:=v } :=
 ⟨(upd_ne _ _ _ (by omega)).trans h.part,(upd_ne _ _ _ (by omega)).trans h.number,upd_same _ _ _,(upd_ne _ _ _ (by omega)).trans h.wanted,h.path.congr (fun i h1 h2=>upd_ne _ _ _ (by omega)),(upd_ne _ _ _ (by omega)).trans h.skip,(upd_ne _ _ _ (by omega)).trans h.window,(upd_ne _ _ _ (by omega)).trans h.last,(upd_ne _ _ _ (by omega)).trans h.left,h.lit.congr (fun i h1 h2=>upd_ne _ _ _ (by omega)),h.dist.congr (fun i h1 h2=>upd_ne _ _ _ (by omega)),h.tb.congr (fun i h1 h2=>upd_ne _ _ _ (by omega)),(upd_ne _ _ _ (by omega)).trans h.length,(upd_ne _ _ _ (by omega)).trans h.base,fun i hi=>(upd_ne _ _ _ (by omega)).trans (h.hist i hi),(upd_ne _ _ _ (by omega)).trans h.count,(upd_ne _ _ _ (by omega)).trans h.sum⟩
theorem StV.set_wanted {c:Nat→Value} {o:Nat} {s:St} (h:StV c o s) (v:Nat):StV (upd c (o+3) (.int .u64 (v:Int))) o { s with wanted:=v } :=
 ⟨(upd_ne _ _ _ (by omega)).trans h.part,(upd_ne _ _ _ (by omega)).trans h.number,(upd_ne _ _ _ (by omega)).trans h.got,upd_same _ _ _,h.path.congr (fun i h1 h2=>upd_ne _ _ _ (by omega)),(upd_ne _ _ _ (by omega)).trans h.skip,(upd_ne _ _ _ (by omega)).trans h.window,(upd_ne _ _ _ (by omega)).trans h.last,(upd_ne _ _ _ (by omega)).trans h.left,h.lit.congr (fun i h1 h2=>upd_ne _ _ _ (by omega)),h.dist.congr (fun i h1 h2=>upd_ne _ _ _ (by omega)),h.tb.congr (fun i h1 h2=>upd_ne _ _ _ (by omega)),(upd_ne _ _ _ (by omega)).trans h.length,(upd_ne _ _ _ (by omega)).trans h.base,fun i hi=>(upd_ne _ _ _ (by omega)).trans (h.hist i hi),(upd_ne _ _ _ (by omega)).trans h.count,(upd_ne _ _ _ (by omega)).trans h.sum⟩
theorem StV.set_path {c d:Nat→Value} {o:Nat} {s:St} (h:StV c o s) (v:Pt) (hv:PtV d (o+4) v) (e:∀ i,¬ (o+4≤i∧i<o+7)→d i=c i):StV d o { s with path:=v } :=
 ⟨(e _ (by omega)).trans h.part,(e _ (by omega)).trans h.number,(e _ (by omega)).trans h.got,(e _ (by omega)).trans h.wanted,hv,(e _ (by omega)).trans h.skip,(e _ (by omega)).trans h.window,(e _ (by omega)).trans h.last,(e _ (by omega)).trans h.left,h.lit.congr (fun i h1 h2=>e _ (by omega)),h.dist.congr (fun i h1 h2=>e _ (by omega)),h.tb.congr (fun i h1 h2=>e _ (by omega)),(e _ (by omega)).trans h.length,(e _ (by omega)).trans h.base,fun i hi=>(e _ (by omega)).trans (h.hist i hi),(e _ (by omega)).trans h.count,(e _ (by omega)).trans h.sum⟩
theorem StV.set_skip {c:Nat→Value} {o:Nat} {s:St} (h:StV c o s) (v:Bool):StV (upd c (o+7) (.bool v)) o { s with skip:=v } :=
 ⟨(upd_ne _ _ _ (by omega)).trans h.part,(upd_ne _ _ _ (by omega)).trans h.number,(upd_ne _ _ _ (by omega)).trans h.got,(upd_ne _ _ _ (by omega)).trans h.wanted,h.path.congr (fun i h1 h2=>upd_ne _ _ _ (by omega)),upd_same _ _ _,(upd_ne _ _ _ (by omega)).trans h.window,(upd_ne _ _ _ (by omega)).trans h.last,(upd_ne _ _ _ (by omega)).trans h.left,h.lit.congr (fun i h1 h2=>upd_ne _ _ _ (by omega)),h.dist.congr (fun i h1 h2=>upd_ne _ _ _ (by omega)),h.tb.congr (fun i h1 h2=>upd_ne _ _ _ (by omega)),(upd_ne _ _ _ (by omega)).trans h.length,(upd_ne _ _ _ (by omega)).trans h.base,fun i hi=>(upd_ne _ _ _ (by omega)).trans (h.hist i hi),(upd_ne _ _ _ (by omega)).trans h.count,(upd_ne _ _ _ (by omega)).trans h.sum⟩
theorem StV.set_window {c:Nat→Value} {o:Nat} {s:St} (h:StV c o s) (v:Nat):StV (upd c (o+8) (.int .i64 (v:Int))) o { s with window:=v } :=
 ⟨(upd_ne _ _ _ (by omega)).trans h.part,(upd_ne _ _ _ (by omega)).trans h.number,(upd_ne _ _ _ (by omega)).trans h.got,(upd_ne _ _ _ (by omega)).trans h.wanted,h.path.congr (fun i h1 h2=>upd_ne _ _ _ (by omega)),(upd_ne _ _ _ (by omega)).trans h.skip,upd_same _ _ _,(upd_ne _ _ _ (by omega)).trans h.last,(upd_ne _ _ _ (by omega)).trans h.left,h.lit.congr (fun i h1 h2=>upd_ne _ _ _ (by omega)),h.dist.congr (fun i h1 h2=>upd_ne _ _ _ (by omega)),h.tb.congr (fun i h1 h2=>upd_ne _ _ _ (by omega)),(upd_ne _ _ _ (by omega)).trans h.length,(upd_ne _ _ _ (by omega)).trans h.base,fun i hi=>(upd_ne _ _ _ (by omega)).trans (h.hist i hi),(upd_ne _ _ _ (by omega)).trans h.count,(upd_ne _ _ _ (by omega)).trans h.sum⟩
theorem StV.set_last {c:Nat→Value} {o:Nat} {s:St} (h:StV c o s) (v:Bool):StV (upd c (o+9) (.bool v)) o { s with last:=v } :=
 ⟨(upd_ne _ _ _ (by omega)).trans h.part,(upd_ne _ _ _ (by omega)).trans h.number,(upd_ne _ _ _ (by omega)).trans h.got,(upd_ne _ _ _ (by omega)).trans h.wanted,h.path.congr (fun i h1 h2=>upd_ne _ _ _ (by omega)),(upd_ne _ _ _ (by omega)).trans h.skip,(upd_ne _ _ _ (by omega)).trans h.window,upd_same _ _ _,(upd_ne _ _ _ (by omega)).trans h.left,h.lit.congr (fun i h1 h2=>upd_ne _ _ _ (by omega)),h.dist.congr (fun i h1 h2=>upd_ne _ _ _ (by omega)),h.tb.congr (fun i h1 h2=>upd_ne _ _ _ (by omega)),(upd_ne _ _ _ (by omega)).trans h.length,(upd_ne _ _ _ (by omega)).trans h.base,fun i hi=>(upd_ne _ _ _ (by omega)).trans (h.hist i hi),(upd_ne _ _ _ (by omega)).trans h.count,(upd_ne _ _ _ (by omega)).trans h.sum⟩
theorem StV.set_left {c:Nat→Value} {o:Nat} {s:St} (h:StV c o s) (v:Nat):StV (upd c (o+10) (.int .i64 (v:Int))) o { s with left:=v } :=
 ⟨(upd_ne _ _ _ (by omega)).trans h.part,(upd_ne _ _ _ (by omega)).trans h.number,(upd_ne _ _ _ (by omega)).trans h.got,(upd_ne _ _ _ (by omega)).trans h.wanted,h.path.congr (fun i h1 h2=>upd_ne _ _ _ (by omega)),(upd_ne _ _ _ (by omega)).trans h.skip,(upd_ne _ _ _ (by omega)).trans h.window,(upd_ne _ _ _ (by omega)).trans h.last,upd_same _ _ _,h.lit.congr (fun i h1 h2=>upd_ne _ _ _ (by omega)),h.dist.congr (fun i h1 h2=>upd_ne _ _ _ (by omega)),h.tb.congr (fun i h1 h2=>upd_ne _ _ _ (by omega)),(upd_ne _ _ _ (by omega)).trans h.length,(upd_ne _ _ _ (by omega)).trans h.base,fun i hi=>(upd_ne _ _ _ (by omega)).trans (h.hist i hi),(upd_ne _ _ _ (by omega)).trans h.count,(upd_ne _ _ _ (by omega)).trans h.sum⟩
theorem StV.set_lit {c d:Nat→Value} {o:Nat} {s:St} (h:StV c o s) (v:CS) (hv:CSV d (o+11) v) (e:∀ i,¬ (o+11≤i∧i<o+317)→d i=c i):StV d o { s with lit:=v } :=
 ⟨(e _ (by omega)).trans h.part,(e _ (by omega)).trans h.number,(e _ (by omega)).trans h.got,(e _ (by omega)).trans h.wanted,h.path.congr (fun i h1 h2=>e _ (by omega)),(e _ (by omega)).trans h.skip,(e _ (by omega)).trans h.window,(e _ (by omega)).trans h.last,(e _ (by omega)).trans h.left,hv,h.dist.congr (fun i h1 h2=>e _ (by omega)),h.tb.congr (fun i h1 h2=>e _ (by omega)),(e _ (by omega)).trans h.length,(e _ (by omega)).trans h.base,fun i hi=>(e _ (by omega)).trans (h.hist i hi),(e _ (by omega)).trans h.count,(e _ (by omega)).trans h.sum⟩
theorem StV.set_dist {c d:Nat→Value} {o:Nat} {s:St} (h:StV c o s) (v:CS) (hv:CSV d (o+317) v) (e:∀ i,¬ (o+317≤i∧i<o+623)→d i=c i):StV d o { s with dist:=v } :=
 ⟨(e _ (by omega)).trans h.part,(e _ (by omega)).trans h.number,(e _ (by omega)).trans h.got,(e _ (by omega)).trans h.wanted,h.path.congr (fun i h1 h2=>e _ (by omega)),(e _ (by omega)).trans h.skip,(e _ (by omega)).trans h.window,(e _ (by omega)).trans h.last,(e _ (by omega)).trans h.left,h.lit.congr (fun i h1 h2=>e _ (by omega)),hv,h.tb.congr (fun i h1 h2=>e _ (by omega)),(e _ (by omega)).trans h.length,(e _ (by omega)).trans h.base,fun i hi=>(e _ (by omega)).trans (h.hist i hi),(e _ (by omega)).trans h.count,(e _ (by omega)).trans h.sum⟩
theorem StV.set_hist {c:Nat→Value} {o:Nat} {s:St} (h:StV c o s) (k:Nat) (v:Nat) (hk:k<2078):StV (upd c (o+1271+k) (.int .u8 (v:Int))) o { s with hist:=upd s.hist k v } :=
 ⟨(upd_ne _ _ _ (by omega)).trans h.part,(upd_ne _ _ _ (by omega)).trans h.number,(upd_ne _ _ _ (by omega)).trans h.got,(upd_ne _ _ _ (by omega)).trans h.wanted,h.path.congr (fun i h1 h2=>upd_ne _ _ _ (by omega)),(upd_ne _ _ _ (by omega)).trans h.skip,(upd_ne _ _ _ (by omega)).trans h.window,(upd_ne _ _ _ (by omega)).trans h.last,(upd_ne _ _ _ (by omega)).trans h.left,h.lit.congr (fun i h1 h2=>upd_ne _ _ _ (by omega)),h.dist.congr (fun i h1 h2=>upd_ne _ _ _ (by omega)),h.tb.congr (fun i h1 h2=>upd_ne _ _ _ (by omega)),(upd_ne _ _ _ (by omega)).trans h.length,(upd_ne _ _ _ (by omega)).trans h.base,fun i hi=>by
  by_cases e:i=k
  ·subst e;rw[upd_same];show _=Value.int .u8 ((upd s.hist i v i:Nat):Int);rw[upd_same]
  ·rw[upd_ne _ _ _ (by omega)];show _=Value.int .u8 ((upd s.hist k v i:Nat):Int);rw[upd_ne _ _ _ e];exact h.hist i hi,(upd_ne _ _ _ (by omega)).trans h.count,(upd_ne _ _ _ (by omega)).trans h.sum⟩
theorem StV.set_count {c:Nat→Value} {o:Nat} {s:St} (h:StV c o s) (v:Nat):StV (upd c (o+3349) (.int .i64 (v:Int))) o { s with count:=v } :=
 ⟨(upd_ne _ _ _ (by omega)).trans h.part,(upd_ne _ _ _ (by omega)).trans h.number,(upd_ne _ _ _ (by omega)).trans h.got,(upd_ne _ _ _ (by omega)).trans h.wanted,h.path.congr (fun i h1 h2=>upd_ne _ _ _ (by omega)),(upd_ne _ _ _ (by omega)).trans h.skip,(upd_ne _ _ _ (by omega)).trans h.window,(upd_ne _ _ _ (by omega)).trans h.last,(upd_ne _ _ _ (by omega)).trans h.left,h.lit.congr (fun i h1 h2=>upd_ne _ _ _ (by omega)),h.dist.congr (fun i h1 h2=>upd_ne _ _ _ (by omega)),h.tb.congr (fun i h1 h2=>upd_ne _ _ _ (by omega)),(upd_ne _ _ _ (by omega)).trans h.length,(upd_ne _ _ _ (by omega)).trans h.base,fun i hi=>(upd_ne _ _ _ (by omega)).trans (h.hist i hi),upd_same _ _ _,(upd_ne _ _ _ (by omega)).trans h.sum⟩
theorem StV.set_sum {c:Nat→Value} {o:Nat} {s:St} (h:StV c o s) (v:Nat):StV (upd c (o+3350) (.int .u32 (v:Int))) o { s with sum:=v } :=
 ⟨(upd_ne _ _ _ (by omega)).trans h.part,(upd_ne _ _ _ (by omega)).trans h.number,(upd_ne _ _ _ (by omega)).trans h.got,(upd_ne _ _ _ (by omega)).trans h.wanted,h.path.congr (fun i h1 h2=>upd_ne _ _ _ (by omega)),(upd_ne _ _ _ (by omega)).trans h.skip,(upd_ne _ _ _ (by omega)).trans h.window,(upd_ne _ _ _ (by omega)).trans h.last,(upd_ne _ _ _ (by omega)).trans h.left,h.lit.congr (fun i h1 h2=>upd_ne _ _ _ (by omega)),h.dist.congr (fun i h1 h2=>upd_ne _ _ _ (by omega)),h.tb.congr (fun i h1 h2=>upd_ne _ _ _ (by omega)),(upd_ne _ _ _ (by omega)).trans h.length,(upd_ne _ _ _ (by omega)).trans h.base,fun i hi=>(upd_ne _ _ _ (by omega)).trans (h.hist i hi),(upd_ne _ _ _ (by omega)).trans h.count,upd_same _ _ _⟩
structure Hd where
 W:Nat
 H:Nat
 D:Nat
 K:Nat
 L:Nat
structure HdV (c:Nat→Value) (o:Nat) (s:Hd):Prop where
 W:c (o) = .int .i64 (s.W:Int)
 H:c (o+1) = .int .i64 (s.H:Int)
 D:c (o+2) = .int .i64 (s.D:Int)
 K:c (o+3) = .int .i64 (s.K:Int)
 L:c (o+4) = .int .i64 (s.L:Int)
theorem HdV.congr {c d:Nat→Value} {o:Nat} {s:Hd} (h:HdV c o s) (e:∀ i,o≤i→i<o+5→d i=c i):HdV d o s:=
 ⟨(e _ (by omega) (by omega)).trans h.W,(e _ (by omega) (by omega)).trans h.H,(e _ (by omega) (by omega)).trans h.D,(e _ (by omega) (by omega)).trans h.K,(e _ (by omega) (by omega)).trans h.L⟩
theorem HdV.set_W {c:Nat→Value} {o:Nat} {s:Hd} (h:HdV c o s) (v:Nat):HdV (upd c (o) (.int .i64 (v:Int))) o { s with W:=v } :=
 ⟨upd_same _ _ _,(upd_ne _ _ _ (by omega)).trans h.H,(upd_ne _ _ _ (by omega)).trans h.D,(upd_ne _ _ _ (by omega)).trans h.K,(upd_ne _ _ _ (by omega)).trans h.L⟩
theorem HdV.set_H {c:Nat→Value} {o:Nat} {s:Hd} (h:HdV c o s) (v:Nat):HdV (upd c (o+1) (.int .i64 (v:Int))) o { s with H:=v } :=
 ⟨(upd_ne _ _ _ (by omega)).trans h.W,upd_same _ _ _,(upd_ne _ _ _ (by omega)).trans h.D,(upd_ne _ _ _ (by omega)).trans h.K,(upd_ne _ _ _ (by omega)).trans h.L⟩
theorem HdV.set_D {c:Nat→Value} {o:Nat} {s:Hd} (h:HdV c o s) (v:Nat):HdV (upd c (o+2) (.int .i64 (v:Int))) o { s with D:=v } :=
 ⟨(upd_ne _ _ _ (by omega)).trans h.W,(upd_ne _ _ _ (by omega)).trans h.H,upd_same _ _ _,(upd_ne _ _ _ (by omega)).trans h.K,(upd_ne _ _ _ (by omega)).trans h.L⟩
theorem HdV.set_K {c:Nat→Value} {o:Nat} {s:Hd} (h:HdV c o s) (v:Nat):HdV (upd c (o+3) (.int .i64 (v:Int))) o { s with K:=v } :=
 ⟨(upd_ne _ _ _ (by omega)).trans h.W,(upd_ne _ _ _ (by omega)).trans h.H,(upd_ne _ _ _ (by omega)).trans h.D,upd_same _ _ _,(upd_ne _ _ _ (by omega)).trans h.L⟩
theorem HdV.set_L {c:Nat→Value} {o:Nat} {s:Hd} (h:HdV c o s) (v:Nat):HdV (upd c (o+4) (.int .i64 (v:Int))) o { s with L:=v } :=
 ⟨(upd_ne _ _ _ (by omega)).trans h.W,(upd_ne _ _ _ (by omega)).trans h.H,(upd_ne _ _ _ (by omega)).trans h.D,(upd_ne _ _ _ (by omega)).trans h.K,upd_same _ _ _⟩
structure Rw where
 hd:Hd
 colours:Nat
 pass:Int
 line:Nat
 columns:Nat
 lines:Nat
 size:Nat
 taken:Nat
 filter:Nat
 row:Nat→Nat
 above:Nat→Nat
 known:Nat→Bool
 smp:Nat→Nat
structure RwV (c:Nat→Value) (o:Nat) (s:Rw):Prop where
 hd:HdV c (o) s.hd
 colours:c (o+5) = .int .i64 (s.colours:Int)
 pass:c (o+6) = .int .i64 s.pass
 line:c (o+7) = .int .i64 (s.line:Int)
 columns:c (o+8) = .int .i64 (s.columns:Int)
 lines:c (o+9) = .int .i64 (s.lines:Int)
 size:c (o+10) = .int .i64 (s.size:Int)
 taken:c (o+11) = .int .i64 (s.taken:Int)
 filter:c (o+12) = .int .u8 (s.filter:Int)
 row:∀ i,i<128→c (o+13+i) = .int .u8 (s.row i:Int)
 above:∀ i,i<128→c (o+141+i) = .int .u8 (s.above i:Int)
 known:∀ i,i<256→c (o+269+i) = .bool (s.known i)
 smp:∀ i,i<1024→c (o+525+i) = .int .u16 (s.smp i:Int)
theorem RwV.congr {c d:Nat→Value} {o:Nat} {s:Rw} (h:RwV c o s) (e:∀ i,o≤i→i<o+1549→d i=c i):RwV d o s:=
 ⟨h.hd.congr (fun i h1 h2=>e i (by omega) (by omega)),(e _ (by omega) (by omega)).trans h.colours,(e _ (by omega) (by omega)).trans h.pass,(e _ (by omega) (by omega)).trans h.line,(e _ (by omega) (by omega)).trans h.columns,(e _ (by omega) (by omega)).trans h.lines,(e _ (by omega) (by omega)).trans h.size,(e _ (by omega) (by omega)).trans h.taken,(e _ (by omega) (by omega)).trans h.filter,fun i hi=>(e _ (by omega) (by omega)).trans (h.row i hi),fun i hi=>(e _ (by omega) (by omega)).trans (h.above i hi),fun i hi=>(e _ (by omega) (by omega)).trans (h.known i hi),fun i hi=>(e _ (by omega) (by omega)).trans (h.smp i hi)⟩
theorem RwV.set_pass {c:Nat→Value} {o:Nat} {s:Rw} (h:RwV c o s) (v:Int):RwV (upd c (o+6) (.int .i64 v)) o { s with pass:=v } :=
 ⟨h.hd.congr (fun i h1 h2=>upd_ne _ _ _ (by omega)),(upd_ne _ _ _ (by omega)).trans h.colours,upd_same _ _ _,(upd_ne _ _ _ (by omega)).trans h.line,(upd_ne _ _ _ (by omega)).trans h.columns,(upd_ne _ _ _ (by omega)).trans h.lines,(upd_ne _ _ _ (by omega)).trans h.size,(upd_ne _ _ _ (by omega)).trans h.taken,(upd_ne _ _ _ (by omega)).trans h.filter,fun i hi=>(upd_ne _ _ _ (by omega)).trans (h.row i hi),fun i hi=>(upd_ne _ _ _ (by omega)).trans (h.above i hi),fun i hi=>(upd_ne _ _ _ (by omega)).trans (h.known i hi),fun i hi=>(upd_ne _ _ _ (by omega)).trans (h.smp i hi)⟩
theorem RwV.set_line {c:Nat→Value} {o:Nat} {s:Rw} (h:RwV c o s) (v:Nat):RwV (upd c (o+7) (.int .i64 (v:Int))) o { s with line:=v } :=
 ⟨h.hd.congr (fun i h1 h2=>upd_ne _ _ _ (by omega)),(upd_ne _ _ _ (by omega)).trans h.colours,(upd_ne _ _ _ (by omega)).trans h.pass,upd_same _ _ _,(upd_ne _ _ _ (by omega)).trans h.columns,(upd_ne _ _ _ (by omega)).trans h.lines,(upd_ne _ _ _ (by omega)).trans h.size,(upd_ne _ _ _ (by omega)).trans h.taken,(upd_ne _ _ _ (by omega)).trans h.filter,fun i hi=>(upd_ne _ _ _ (by omega)).trans (h.row i hi),fun i hi=>(upd_ne _ _ _ (by omega)).trans (h.above i hi),fun i hi=>(upd_ne _ _ _ (by omega)).trans (h.known i hi),fun i hi=>(upd_ne _ _ _ (by omega)).trans (h.smp i hi)⟩
theorem RwV.set_columns {c:Nat→Value} {o:Nat} {s:Rw} (h:RwV c o s) (v:Nat):RwV (upd c (o+8) (.int .i64 (v:Int))) o { s with columns:=v } :=
 ⟨h.hd.congr (fun i h1 h2=>upd_ne _ _ _ (by omega)),(upd_ne _ _ _ (by omega)).trans h.colours,(upd_ne _ _ _ (by omega)).trans h.pass,(upd_ne _ _ _ (by omega)).trans h.line,upd_same _ _ _,(upd_ne _ _ _ (by omega)).trans h.lines,(upd_ne _ _ _ (by omega)).trans h.size,(upd_ne _ _ _ (by omega)).trans h.taken,(upd_ne _ _ _ (by omega)).trans h.filter,fun i hi=>(upd_ne _ _ _ (by omega)).trans (h.row i hi),fun i hi=>(upd_ne _ _ _ (by omega)).trans (h.above i hi),fun i hi=>(upd_ne _ _ _ (by omega)).trans (h.known i hi),fun i hi=>(upd_ne _ _ _ (by omega)).trans (h.smp i hi)⟩
theorem RwV.set_lines {c:Nat→Value} {o:Nat} {s:Rw} (h:RwV c o s) (v:Nat):RwV (upd c (o+9) (.int .i64 (v:Int))) o { s with lines:=v } :=
 ⟨h.hd.congr (fun i h1 h2=>upd_ne _ _ _ (by omega)),(upd_ne _ _ _ (by omega)).trans h.colours,(upd_ne _ _ _ (by omega)).trans h.pass,(upd_ne _ _ _ (by omega)).trans h.line,(upd_ne _ _ _ (by omega)).trans h.columns,upd_same _ _ _,(upd_ne _ _ _ (by omega)).trans h.size,(upd_ne _ _ _ (by omega)).trans h.taken,(upd_ne _ _ _ (by omega)).trans h.filter,fun i hi=>(upd_ne _ _ _ (by omega)).trans (h.row i hi),fun i hi=>(upd_ne _ _ _ (by omega)).trans (h.above i hi),fun i hi=>(upd_ne _ _ _ (by omega)).trans (h.known i hi),fun i hi=>(upd_ne _ _ _ (by omega)).trans (h.smp i hi)⟩
theorem RwV.set_size {c:Nat→Value} {o:Nat} {s:Rw} (h:RwV c o s) (v:Nat):RwV (upd c (o+10) (.int .i64 (v:Int))) o { s with size:=v } :=
 ⟨h.hd.congr (fun i h1 h2=>upd_ne _ _ _ (by omega)),(upd_ne _ _ _ (by omega)).trans h.colours,(upd_ne _ _ _ (by omega)).trans h.pass,(upd_ne _ _ _ (by omega)).trans h.line,(upd_ne _ _ _ (by omega)).trans h.columns,(upd_ne _ _ _ (by omega)).trans h.lines,upd_same _ _ _,(upd_ne _ _ _ (by omega)).trans h.taken,(upd_ne _ _ _ (by omega)).trans h.filter,fun i hi=>(upd_ne _ _ _ (by omega)).trans (h.row i hi),fun i hi=>(upd_ne _ _ _ (by omega)).trans (h.above i hi),fun i hi=>(upd_ne _ _ _ (by omega)).trans (h.known i hi),fun i hi=>(upd_ne _ _ _ (by omega)).trans (h.smp i hi)⟩
theorem RwV.set_taken {c:Nat→Value} {o:Nat} {s:Rw} (h:RwV c o s) (v:Nat):RwV (upd c (o+11) (.int .i64 (v:Int))) o { s with taken:=v } :=
 ⟨h.hd.congr (fun i h1 h2=>upd_ne _ _ _ (by omega)),(upd_ne _ _ _ (by omega)).trans h.colours,(upd_ne _ _ _ (by omega)).trans h.pass,(upd_ne _ _ _ (by omega)).trans h.line,(upd_ne _ _ _ (by omega)).trans h.columns,(upd_ne _ _ _ (by omega)).trans h.lines,(upd_ne _ _ _ (by omega)).trans h.size,upd_same _ _ _,(upd_ne _ _ _ (by omega)).trans h.filter,fun i hi=>(upd_ne _ _ _ (by omega)).trans (h.row i hi),fun i hi=>(upd_ne _ _ _ (by omega)).trans (h.above i hi),fun i hi=>(upd_ne _ _ _ (by omega)).trans (h.known i hi),fun i hi=>(upd_ne _ _ _ (by omega)).trans (h.smp i hi)⟩
theorem RwV.set_filter {c:Nat→Value} {o:Nat} {s:Rw} (h:RwV c o s) (v:Nat):RwV (upd c (o+12) (.int .u8 (v:Int))) o { s with filter:=v } :=
 ⟨h.hd.congr (fun i h1 h2=>upd_ne _ _ _ (by omega)),(upd_ne _ _ _ (by omega)).trans h.colours,(upd_ne _ _ _ (by omega)).trans h.pass,(upd_ne _ _ _ (by omega)).trans h.line,(upd_ne _ _ _ (by omega)).trans h.columns,(upd_ne _ _ _ (by omega)).trans h.lines,(upd_ne _ _ _ (by omega)).trans h.size,(upd_ne _ _ _ (by omega)).trans h.taken,upd_same _ _ _,fun i hi=>(upd_ne _ _ _ (by omega)).trans (h.row i hi),fun i hi=>(upd_ne _ _ _ (by omega)).trans (h.above i hi),fun i hi=>(upd_ne _ _ _ (by omega)).trans (h.known i hi),fun i hi=>(upd_ne _ _ _ (by omega)).trans (h.smp i hi)⟩
theorem RwV.set_row {c:Nat→Value} {o:Nat} {s:Rw} (h:RwV c o s) (k:Nat) (v:Nat) (hk:k<128):RwV (upd c (o+13+k) (.int .u8 (v:Int))) o { s with row:=upd s.row k v } :=
 ⟨h.hd.congr (fun i h1 h2=>upd_ne _ _ _ (by omega)),(upd_ne _ _ _ (by omega)).trans h.colours,(upd_ne _ _ _ (by omega)).trans h.pass,(upd_ne _ _ _ (by omega)).trans h.line,(upd_ne _ _ _ (by omega)).trans h.columns,(upd_ne _ _ _ (by omega)).trans h.lines,(upd_ne _ _ _ (by omega)).trans h.size,(upd_ne _ _ _ (by omega)).trans h.taken,(upd_ne _ _ _ (by omega)).trans h.filter,fun i hi=>by
  by_cases e:i=k
  ·subst e;rw[upd_same];show _=Value.int .u8 ((upd s.row i v i:Nat):Int);rw[upd_same]
  ·rw[upd_ne _ _ _ (by omega)];show _=Value.int .u8 ((upd s.row k v i:Nat):Int);rw[upd_ne _ _ _ e];exact h.row i hi,fun i hi=>(upd_ne _ _ _ (by omega)).trans (h.above i hi),fun i hi=>(upd_ne _ _ _ (by omega)).trans (h.known i hi),fun i hi=>(upd_ne _ _ _ (by omega)).trans (h.smp i hi)⟩
theorem RwV.all_above {c d:Nat→Value} {o:Nat} {s:Rw} (h:RwV c o s) (f:Nat→Nat) (hf:∀ i,i<128→d (o+141+i) = .int .u8 (f i:Int)) (e:∀ i,¬ (o+141≤i∧i<o+269)→d i=c i):RwV d o { s with above:=f } :=
 ⟨h.hd.congr (fun i h1 h2=>e _ (by omega)),(e _ (by omega)).trans h.colours,(e _ (by omega)).trans h.pass,(e _ (by omega)).trans h.line,(e _ (by omega)).trans h.columns,(e _ (by omega)).trans h.lines,(e _ (by omega)).trans h.size,(e _ (by omega)).trans h.taken,(e _ (by omega)).trans h.filter,fun i hi=>(e _ (by omega)).trans (h.row i hi),hf,fun i hi=>(e _ (by omega)).trans (h.known i hi),fun i hi=>(e _ (by omega)).trans (h.smp i hi)⟩
theorem RwV.set_known {c:Nat→Value} {o:Nat} {s:Rw} (h:RwV c o s) (k:Nat) (v:Bool) (hk:k<256):RwV (upd c (o+269+k) (.bool v)) o { s with known:=upd s.known k v } :=
 ⟨h.hd.congr (fun i h1 h2=>upd_ne _ _ _ (by omega)),(upd_ne _ _ _ (by omega)).trans h.colours,(upd_ne _ _ _ (by omega)).trans h.pass,(upd_ne _ _ _ (by omega)).trans h.line,(upd_ne _ _ _ (by omega)).trans h.columns,(upd_ne _ _ _ (by omega)).trans h.lines,(upd_ne _ _ _ (by omega)).trans h.size,(upd_ne _ _ _ (by omega)).trans h.taken,(upd_ne _ _ _ (by omega)).trans h.filter,fun i hi=>(upd_ne _ _ _ (by omega)).trans (h.row i hi),fun i hi=>(upd_ne _ _ _ (by omega)).trans (h.above i hi),fun i hi=>by
  by_cases e:i=k
  ·subst e;rw[upd_same];show _=Value.bool (upd s.known i v i);rw[upd_same]
  ·rw[upd_ne _ _ _ (by omega)];show _=Value.bool (upd s.known k v i);rw[upd_ne _ _ _ e];exact h.known i hi,fun i hi=>(upd_ne _ _ _ (by omega)).trans (h.smp i hi)⟩
theorem RwV.set_smp {c:Nat→Value} {o:Nat} {s:Rw} (h:RwV c o s) (k:Nat) (v:Nat) (hk:k<1024):RwV (upd c (o+525+k) (.int .u16 (v:Int))) o { s with smp:=upd s.smp k v } :=
 ⟨h.hd.congr (fun i h1 h2=>upd_ne _ _ _ (by omega)),(upd_ne _ _ _ (by omega)).trans h.colours,(upd_ne _ _ _ (by omega)).trans h.pass,(upd_ne _ _ _ (by omega)).trans h.line,(upd_ne _ _ _ (by omega)).trans h.columns,(upd_ne _ _ _ (by omega)).trans h.lines,(upd_ne _ _ _ (by omega)).trans h.size,(upd_ne _ _ _ (by omega)).trans h.taken,(upd_ne _ _ _ (by omega)).trans h.filter,fun i hi=>(upd_ne _ _ _ (by omega)).trans (h.row i hi),fun i hi=>(upd_ne _ _ _ (by omega)).trans (h.above i hi),fun i hi=>(upd_ne _ _ _ (by omega)).trans (h.known i hi),fun i hi=>by
  by_cases e:i=k
  ·subst e;rw[upd_same];show _=Value.int .u16 ((upd s.smp i v i:Nat):Int);rw[upd_same]
  ·rw[upd_ne _ _ _ (by omega)];show _=Value.int .u16 ((upd s.smp k v i:Nat):Int);rw[upd_ne _ _ _ e];exact h.smp i hi⟩
structure Tl where
 pal:Nat→Nat
 clear:Nat→Nat
 colours:Nat
 clears:Nat
structure TlV (c:Nat→Value) (o:Nat) (s:Tl):Prop where
 pal:∀ i,i<768→c (o+i) = .int .u8 (s.pal i:Int)
 clear:∀ i,i<256→c (o+768+i) = .int .u8 (s.clear i:Int)
 colours:c (o+1024) = .int .i64 (s.colours:Int)
 clears:c (o+1025) = .int .i64 (s.clears:Int)
theorem TlV.congr {c d:Nat→Value} {o:Nat} {s:Tl} (h:TlV c o s) (e:∀ i,o≤i→i<o+1026→d i=c i):TlV d o s:=
 ⟨fun i hi=>(e _ (by omega) (by omega)).trans (h.pal i hi),fun i hi=>(e _ (by omega) (by omega)).trans (h.clear i hi),(e _ (by omega) (by omega)).trans h.colours,(e _ (by omega) (by omega)).trans h.clears⟩
theorem TlV.set_pal {c:Nat→Value} {o:Nat} {s:Tl} (h:TlV c o s) (k:Nat) (v:Nat) (hk:k<768):TlV (upd c (o+k) (.int .u8 (v:Int))) o { s with pal:=upd s.pal k v } :=
 ⟨fun i hi=>by
  by_cases e:i=k
  ·subst e;rw[upd_same];show _=Value.int .u8 ((upd s.pal i v i:Nat):Int);rw[upd_same]
  ·rw[upd_ne _ _ _ (by omega)];show _=Value.int .u8 ((upd s.pal k v i:Nat):Int);rw[upd_ne _ _ _ e];exact h.pal i hi,fun i hi=>(upd_ne _ _ _ (by omega)).trans (h.clear i hi),(upd_ne _ _ _ (by omega)).trans h.colours,(upd_ne _ _ _ (by omega)).trans h.clears⟩
theorem TlV.set_clear {c:Nat→Value} {o:Nat} {s:Tl} (h:TlV c o s) (k:Nat) (v:Nat) (hk:k<256):TlV (upd c (o+768+k) (.int .u8 (v:Int))) o { s with clear:=upd s.clear k v } :=
 ⟨fun i hi=>(upd_ne _ _ _ (by omega)).trans (h.pal i hi),fun i hi=>by
  by_cases e:i=k
  ·subst e;rw[upd_same];show _=Value.int .u8 ((upd s.clear i v i:Nat):Int);rw[upd_same]
  ·rw[upd_ne _ _ _ (by omega)];show _=Value.int .u8 ((upd s.clear k v i:Nat):Int);rw[upd_ne _ _ _ e];exact h.clear i hi,(upd_ne _ _ _ (by omega)).trans h.colours,(upd_ne _ _ _ (by omega)).trans h.clears⟩
theorem TlV.set_colours {c:Nat→Value} {o:Nat} {s:Tl} (h:TlV c o s) (v:Nat):TlV (upd c (o+1024) (.int .i64 (v:Int))) o { s with colours:=v } :=
 ⟨fun i hi=>(upd_ne _ _ _ (by omega)).trans (h.pal i hi),fun i hi=>(upd_ne _ _ _ (by omega)).trans (h.clear i hi),upd_same _ _ _,(upd_ne _ _ _ (by omega)).trans h.clears⟩
theorem TlV.set_clears {c:Nat→Value} {o:Nat} {s:Tl} (h:TlV c o s) (v:Nat):TlV (upd c (o+1025) (.int .i64 (v:Int))) o { s with clears:=v } :=
 ⟨fun i hi=>(upd_ne _ _ _ (by omega)).trans (h.pal i hi),fun i hi=>(upd_ne _ _ _ (by omega)).trans (h.clear i hi),(upd_ne _ _ _ (by omega)).trans h.colours,upd_same _ _ _⟩
structure Rd where
 part:Nat
 taken:Nat
 number:Nat
 length:Nat
 ctype:Nat
 sum:Nat
 hd:Hd
 raw:Nat→Nat
 tl:Tl
 st:St
 rw:Rw
 sp:Bool
 sc:Bool
 sd:Bool
 dov:Bool
structure RdV (c:Nat→Value) (o:Nat) (s:Rd):Prop where
 part:c (o) = .int .i64 (s.part:Int)
 taken:c (o+1) = .int .u32 (s.taken:Int)
 number:c (o+2) = .int .u32 (s.number:Int)
 length:c (o+3) = .int .u32 (s.length:Int)
 ctype:c (o+4) = .int .u32 (s.ctype:Int)
 sum:c (o+5) = .int .u32 (s.sum:Int)
 hd:HdV c (o+6) s.hd
 raw:∀ i,i<13→c (o+11+i) = .int .u8 (s.raw i:Int)
 tl:TlV c (o+24) s.tl
 st:StV c (o+1050) s.st
 rw:RwV c (o+4401) s.rw
 sp:c (o+5950) = .bool s.sp
 sc:c (o+5951) = .bool s.sc
 sd:c (o+5952) = .bool s.sd
 dov:c (o+5953) = .bool s.dov
theorem RdV.congr {c d:Nat→Value} {o:Nat} {s:Rd} (h:RdV c o s) (e:∀ i,o≤i→i<o+5954→d i=c i):RdV d o s:=
 ⟨(e _ (by omega) (by omega)).trans h.part,(e _ (by omega) (by omega)).trans h.taken,(e _ (by omega) (by omega)).trans h.number,(e _ (by omega) (by omega)).trans h.length,(e _ (by omega) (by omega)).trans h.ctype,(e _ (by omega) (by omega)).trans h.sum,h.hd.congr (fun i h1 h2=>e i (by omega) (by omega)),fun i hi=>(e _ (by omega) (by omega)).trans (h.raw i hi),h.tl.congr (fun i h1 h2=>e i (by omega) (by omega)),h.st.congr (fun i h1 h2=>e i (by omega) (by omega)),h.rw.congr (fun i h1 h2=>e i (by omega) (by omega)),(e _ (by omega) (by omega)).trans h.sp,(e _ (by omega) (by omega)).trans h.sc,(e _ (by omega) (by omega)).trans h.sd,(e _ (by omega) (by omega)).trans h.dov⟩
theorem RdV.set_part {c:Nat→Value} {o:Nat} {s:Rd} (h:RdV c o s) (v:Nat):RdV (upd c (o) (.int .i64 (v:Int))) o { s with part:=v } :=
 ⟨upd_same _ _ _,(upd_ne _ _ _ (by omega)).trans h.taken,(upd_ne _ _ _ (by omega)).trans h.number,(upd_ne _ _ _ (by omega)).trans h.length,(upd_ne _ _ _ (by omega)).trans h.ctype,(upd_ne _ _ _ (by omega)).trans h.sum,h.hd.congr (fun i h1 h2=>upd_ne _ _ _ (by omega)),fun i hi=>(upd_ne _ _ _ (by omega)).trans (h.raw i hi),h.tl.congr (fun i h1 h2=>upd_ne _ _ _ (by omega)),h.st.congr (fun i h1 h2=>upd_ne _ _ _ (by omega)),h.rw.congr (fun i h1 h2=>upd_ne _ _ _ (by omega)),(upd_ne _ _ _ (by omega)).trans h.sp,(upd_ne _ _ _ (by omega)).trans h.sc,(upd_ne _ _ _ (by omega)).trans h.sd,(upd_ne _ _ _ (by omega)).trans h.dov⟩
theorem RdV.set_taken {c:Nat→Value} {o:Nat} {s:Rd} (h:RdV c o s) (v:Nat):RdV (upd c (o+1) (.int .u32 (v:Int))) o { s with taken:=v } :=
 ⟨(upd_ne _ _ _ (by omega)).trans h.part,upd_same _ _ _,(upd_ne _ _ _ (by omega)).trans h.number,(upd_ne _ _ _ (by omega)).trans h.length,(upd_ne _ _ _ (by omega)).trans h.ctype,(upd_ne _ _ _ (by omega)).trans h.sum,h.hd.congr (fun i h1 h2=>upd_ne _ _ _ (by omega)),fun i hi=>(upd_ne _ _ _ (by omega)).trans (h.raw i hi),h.tl.congr (fun i h1 h2=>upd_ne _ _ _ (by omega)),h.st.congr (fun i h1 h2=>upd_ne _ _ _ (by omega)),h.rw.congr (fun i h1 h2=>upd_ne _ _ _ (by omega)),(upd_ne _ _ _ (by omega)).trans h.sp,(upd_ne _ _ _ (by omega)).trans h.sc,(upd_ne _ _ _ (by omega)).trans h.sd,(upd_ne _ _ _ (by omega)).trans h.dov⟩
theorem RdV.set_number {c:Nat→Value} {o:Nat} {s:Rd} (h:RdV c o s) (v:Nat):RdV (upd c (o+2) (.int .u32 (v:Int))) o { s with number:=v } :=
 ⟨(upd_ne _ _ _ (by omega)).trans h.part,(upd_ne _ _ _ (by omega)).trans h.taken,upd_same _ _ _,(upd_ne _ _ _ (by omega)).trans h.length,(upd_ne _ _ _ (by omega)).trans h.ctype,(upd_ne _ _ _ (by omega)).trans h.sum,h.hd.congr (fun i h1 h2=>upd_ne _ _ _ (by omega)),fun i hi=>(upd_ne _ _ _ (by omega)).trans (h.raw i hi),h.tl.congr (fun i h1 h2=>upd_ne _ _ _ (by omega)),h.st.congr (fun i h1 h2=>upd_ne _ _ _ (by omega)),h.rw.congr (fun i h1 h2=>upd_ne _ _ _ (by omega)),(upd_ne _ _ _ (by omega)).trans h.sp,(upd_ne _ _ _ (by omega)).trans h.sc,(upd_ne _ _ _ (by omega)).trans h.sd,(upd_ne _ _ _ (by omega)).trans h.dov⟩
theorem RdV.set_length {c:Nat→Value} {o:Nat} {s:Rd} (h:RdV c o s) (v:Nat):RdV (upd c (o+3) (.int .u32 (v:Int))) o { s with length:=v } :=
 ⟨(upd_ne _ _ _ (by omega)).trans h.part,(upd_ne _ _ _ (by omega)).trans h.taken,(upd_ne _ _ _ (by omega)).trans h.number,upd_same _ _ _,(upd_ne _ _ _ (by omega)).trans h.ctype,(upd_ne _ _ _ (by omega)).trans h.sum,h.hd.congr (fun i h1 h2=>upd_ne _ _ _ (by omega)),fun i hi=>(upd_ne _ _ _ (by omega)).trans (h.raw i hi),h.tl.congr (fun i h1 h2=>upd_ne _ _ _ (by omega)),h.st.congr (fun i h1 h2=>upd_ne _ _ _ (by omega)),h.rw.congr (fun i h1 h2=>upd_ne _ _ _ (by omega)),(upd_ne _ _ _ (by omega)).trans h.sp,(upd_ne _ _ _ (by omega)).trans h.sc,(upd_ne _ _ _ (by omega)).trans h.sd,(upd_ne _ _ _ (by omega)).trans h.dov⟩
theorem RdV.set_ctype {c:Nat→Value} {o:Nat} {s:Rd} (h:RdV c o s) (v:Nat):RdV (upd c (o+4) (.int .u32 (v:Int))) o { s with ctype:=v } :=
 ⟨(upd_ne _ _ _ (by omega)).trans h.part,(upd_ne _ _ _ (by omega)).trans h.taken,(upd_ne _ _ _ (by omega)).trans h.number,(upd_ne _ _ _ (by omega)).trans h.length,upd_same _ _ _,(upd_ne _ _ _ (by omega)).trans h.sum,h.hd.congr (fun i h1 h2=>upd_ne _ _ _ (by omega)),fun i hi=>(upd_ne _ _ _ (by omega)).trans (h.raw i hi),h.tl.congr (fun i h1 h2=>upd_ne _ _ _ (by omega)),h.st.congr (fun i h1 h2=>upd_ne _ _ _ (by omega)),h.rw.congr (fun i h1 h2=>upd_ne _ _ _ (by omega)),(upd_ne _ _ _ (by omega)).trans h.sp,(upd_ne _ _ _ (by omega)).trans h.sc,(upd_ne _ _ _ (by omega)).trans h.sd,(upd_ne _ _ _ (by omega)).trans h.dov⟩
theorem RdV.set_sum {c:Nat→Value} {o:Nat} {s:Rd} (h:RdV c o s) (v:Nat):RdV (upd c (o+5) (.int .u32 (v:Int))) o { s with sum:=v } :=
 ⟨(upd_ne _ _ _ (by omega)).trans h.part,(upd_ne _ _ _ (by omega)).trans h.taken,(upd_ne _ _ _ (by omega)).trans h.number,(upd_ne _ _ _ (by omega)).trans h.length,(upd_ne _ _ _ (by omega)).trans h.ctype,upd_same _ _ _,h.hd.congr (fun i h1 h2=>upd_ne _ _ _ (by omega)),fun i hi=>(upd_ne _ _ _ (by omega)).trans (h.raw i hi),h.tl.congr (fun i h1 h2=>upd_ne _ _ _ (by omega)),h.st.congr (fun i h1 h2=>upd_ne _ _ _ (by omega)),h.rw.congr (fun i h1 h2=>upd_ne _ _ _ (by omega)),(upd_ne _ _ _ (by omega)).trans h.sp,(upd_ne _ _ _ (by omega)).trans h.sc,(upd_ne _ _ _ (by omega)).trans h.sd,(upd_ne _ _ _ (by omega)).trans h.dov⟩
theorem RdV.set_hd {c d:Nat→Value} {o:Nat} {s:Rd} (h:RdV c o s) (v:Hd) (hv:HdV d (o+6) v) (e:∀ i,¬ (o+6≤i∧i<o+11)→d i=c i):RdV d o { s with hd:=v } :=
 ⟨(e _ (by omega)).trans h.part,(e _ (by omega)).trans h.taken,(e _ (by omega)).trans h.number,(e _ (by omega)).trans h.length,(e _ (by omega)).trans h.ctype,(e _ (by omega)).trans h.sum,hv,fun i hi=>(e _ (by omega)).trans (h.raw i hi),h.tl.congr (fun i h1 h2=>e _ (by omega)),h.st.congr (fun i h1 h2=>e _ (by omega)),h.rw.congr (fun i h1 h2=>e _ (by omega)),(e _ (by omega)).trans h.sp,(e _ (by omega)).trans h.sc,(e _ (by omega)).trans h.sd,(e _ (by omega)).trans h.dov⟩
theorem RdV.set_raw {c:Nat→Value} {o:Nat} {s:Rd} (h:RdV c o s) (k:Nat) (v:Nat) (hk:k<13):RdV (upd c (o+11+k) (.int .u8 (v:Int))) o { s with raw:=upd s.raw k v } :=
 ⟨(upd_ne _ _ _ (by omega)).trans h.part,(upd_ne _ _ _ (by omega)).trans h.taken,(upd_ne _ _ _ (by omega)).trans h.number,(upd_ne _ _ _ (by omega)).trans h.length,(upd_ne _ _ _ (by omega)).trans h.ctype,(upd_ne _ _ _ (by omega)).trans h.sum,h.hd.congr (fun i h1 h2=>upd_ne _ _ _ (by omega)),fun i hi=>by
  by_cases e:i=k
  ·subst e;rw[upd_same];show _=Value.int .u8 ((upd s.raw i v i:Nat):Int);rw[upd_same]
  ·rw[upd_ne _ _ _ (by omega)];show _=Value.int .u8 ((upd s.raw k v i:Nat):Int);rw[upd_ne _ _ _ e];exact h.raw i hi,h.tl.congr (fun i h1 h2=>upd_ne _ _ _ (by omega)),h.st.congr (fun i h1 h2=>upd_ne _ _ _ (by omega)),h.rw.congr (fun i h1 h2=>upd_ne _ _ _ (by omega)),(upd_ne _ _ _ (by omega)).trans h.sp,(upd_ne _ _ _ (by omega)).trans h.sc,(upd_ne _ _ _ (by omega)).trans h.sd,(upd_ne _ _ _ (by omega)).trans h.dov⟩
theorem RdV.set_tl {c d:Nat→Value} {o:Nat} {s:Rd} (h:RdV c o s) (v:Tl) (hv:TlV d (o+24) v) (e:∀ i,¬ (o+24≤i∧i<o+1050)→d i=c i):RdV d o { s with tl:=v } :=
 ⟨(e _ (by omega)).trans h.part,(e _ (by omega)).trans h.taken,(e _ (by omega)).trans h.number,(e _ (by omega)).trans h.length,(e _ (by omega)).trans h.ctype,(e _ (by omega)).trans h.sum,h.hd.congr (fun i h1 h2=>e _ (by omega)),fun i hi=>(e _ (by omega)).trans (h.raw i hi),hv,h.st.congr (fun i h1 h2=>e _ (by omega)),h.rw.congr (fun i h1 h2=>e _ (by omega)),(e _ (by omega)).trans h.sp,(e _ (by omega)).trans h.sc,(e _ (by omega)).trans h.sd,(e _ (by omega)).trans h.dov⟩
theorem RdV.set_st {c d:Nat→Value} {o:Nat} {s:Rd} (h:RdV c o s) (v:St) (hv:StV d (o+1050) v) (e:∀ i,¬ (o+1050≤i∧i<o+4401)→d i=c i):RdV d o { s with st:=v } :=
 ⟨(e _ (by omega)).trans h.part,(e _ (by omega)).trans h.taken,(e _ (by omega)).trans h.number,(e _ (by omega)).trans h.length,(e _ (by omega)).trans h.ctype,(e _ (by omega)).trans h.sum,h.hd.congr (fun i h1 h2=>e _ (by omega)),fun i hi=>(e _ (by omega)).trans (h.raw i hi),h.tl.congr (fun i h1 h2=>e _ (by omega)),hv,h.rw.congr (fun i h1 h2=>e _ (by omega)),(e _ (by omega)).trans h.sp,(e _ (by omega)).trans h.sc,(e _ (by omega)).trans h.sd,(e _ (by omega)).trans h.dov⟩
theorem RdV.set_rw {c d:Nat→Value} {o:Nat} {s:Rd} (h:RdV c o s) (v:Rw) (hv:RwV d (o+4401) v) (e:∀ i,¬ (o+4401≤i∧i<o+5950)→d i=c i):RdV d o { s with rw:=v } :=
 ⟨(e _ (by omega)).trans h.part,(e _ (by omega)).trans h.taken,(e _ (by omega)).trans h.number,(e _ (by omega)).trans h.length,(e _ (by omega)).trans h.ctype,(e _ (by omega)).trans h.sum,h.hd.congr (fun i h1 h2=>e _ (by omega)),fun i hi=>(e _ (by omega)).trans (h.raw i hi),h.tl.congr (fun i h1 h2=>e _ (by omega)),h.st.congr (fun i h1 h2=>e _ (by omega)),hv,(e _ (by omega)).trans h.sp,(e _ (by omega)).trans h.sc,(e _ (by omega)).trans h.sd,(e _ (by omega)).trans h.dov⟩
theorem RdV.set_sp {c:Nat→Value} {o:Nat} {s:Rd} (h:RdV c o s) (v:Bool):RdV (upd c (o+5950) (.bool v)) o { s with sp:=v } :=
 ⟨(upd_ne _ _ _ (by omega)).trans h.part,(upd_ne _ _ _ (by omega)).trans h.taken,(upd_ne _ _ _ (by omega)).trans h.number,(upd_ne _ _ _ (by omega)).trans h.length,(upd_ne _ _ _ (by omega)).trans h.ctype,(upd_ne _ _ _ (by omega)).trans h.sum,h.hd.congr (fun i h1 h2=>upd_ne _ _ _ (by omega)),fun i hi=>(upd_ne _ _ _ (by omega)).trans (h.raw i hi),h.tl.congr (fun i h1 h2=>upd_ne _ _ _ (by omega)),h.st.congr (fun i h1 h2=>upd_ne _ _ _ (by omega)),h.rw.congr (fun i h1 h2=>upd_ne _ _ _ (by omega)),upd_same _ _ _,(upd_ne _ _ _ (by omega)).trans h.sc,(upd_ne _ _ _ (by omega)).trans h.sd,(upd_ne _ _ _ (by omega)).trans h.dov⟩
theorem RdV.set_sc {c:Nat→Value} {o:Nat} {s:Rd} (h:RdV c o s) (v:Bool):RdV (upd c (o+5951) (.bool v)) o { s with sc:=v } :=
 ⟨(upd_ne _ _ _ (by omega)).trans h.part,(upd_ne _ _ _ (by omega)).trans h.taken,(upd_ne _ _ _ (by omega)).trans h.number,(upd_ne _ _ _ (by omega)).trans h.length,(upd_ne _ _ _ (by omega)).trans h.ctype,(upd_ne _ _ _ (by omega)).trans h.sum,h.hd.congr (fun i h1 h2=>upd_ne _ _ _ (by omega)),fun i hi=>(upd_ne _ _ _ (by omega)).trans (h.raw i hi),h.tl.congr (fun i h1 h2=>upd_ne _ _ _ (by omega)),h.st.congr (fun i h1 h2=>upd_ne _ _ _ (by omega)),h.rw.congr (fun i h1 h2=>upd_ne _ _ _ (by omega)),(upd_ne _ _ _ (by omega)).trans h.sp,upd_same _ _ _,(upd_ne _ _ _ (by omega)).trans h.sd,(upd_ne _ _ _ (by omega)).trans h.dov⟩
theorem RdV.set_sd {c:Nat→Value} {o:Nat} {s:Rd} (h:RdV c o s) (v:Bool):RdV (upd c (o+5952) (.bool v)) o { s with sd:=v } :=
 ⟨(upd_ne _ _ _ (by omega)).trans h.part,(upd_ne _ _ _ (by omega)).trans h.taken,(upd_ne _ _ _ (by omega)).trans h.number,(upd_ne _ _ _ (by omega)).trans h.length,(upd_ne _ _ _ (by omega)).trans h.ctype,(upd_ne _ _ _ (by omega)).trans h.sum,h.hd.congr (fun i h1 h2=>upd_ne _ _ _ (by omega)),fun i hi=>(upd_ne _ _ _ (by omega)).trans (h.raw i hi),h.tl.congr (fun i h1 h2=>upd_ne _ _ _ (by omega)),h.st.congr (fun i h1 h2=>upd_ne _ _ _ (by omega)),h.rw.congr (fun i h1 h2=>upd_ne _ _ _ (by omega)),(upd_ne _ _ _ (by omega)).trans h.sp,(upd_ne _ _ _ (by omega)).trans h.sc,upd_same _ _ _,(upd_ne _ _ _ (by omega)).trans h.dov⟩
theorem RdV.set_dov {c:Nat→Value} {o:Nat} {s:Rd} (h:RdV c o s) (v:Bool):RdV (upd c (o+5953) (.bool v)) o { s with dov:=v } :=
 ⟨(upd_ne _ _ _ (by omega)).trans h.part,(upd_ne _ _ _ (by omega)).trans h.taken,(upd_ne _ _ _ (by omega)).trans h.number,(upd_ne _ _ _ (by omega)).trans h.length,(upd_ne _ _ _ (by omega)).trans h.ctype,(upd_ne _ _ _ (by omega)).trans h.sum,h.hd.congr (fun i h1 h2=>upd_ne _ _ _ (by omega)),fun i hi=>(upd_ne _ _ _ (by omega)).trans (h.raw i hi),h.tl.congr (fun i h1 h2=>upd_ne _ _ _ (by omega)),h.st.congr (fun i h1 h2=>upd_ne _ _ _ (by omega)),h.rw.congr (fun i h1 h2=>upd_ne _ _ _ (by omega)),(upd_ne _ _ _ (by omega)).trans h.sp,(upd_ne _ _ _ (by omega)).trans h.sc,(upd_ne _ _ _ (by omega)).trans h.sd,upd_same _ _ _⟩
structure Dc where
 file:Rd
 count:Nat
 err:Nat
 at1:Nat
structure DcV (c:Nat→Value) (o:Nat) (s:Dc):Prop where
 file:RdV c (o) s.file
 count:c (o+5954) = .int .i64 (s.count:Int)
 err:c (o+5955) = .int .i64 (s.err:Int)
 at1:c (o+5956) = .int .i64 (s.at1:Int)
theorem DcV.set_file {c d:Nat→Value} {o:Nat} {s:Dc} (h:DcV c o s) (v:Rd) (hv:RdV d (o) v) (e:∀ i,¬ (o≤i∧i<o+5954)→d i=c i):DcV d o { s with file:=v } :=
 ⟨hv,(e _ (by omega)).trans h.count,(e _ (by omega)).trans h.err,(e _ (by omega)).trans h.at1⟩
theorem DcV.set_count {c:Nat→Value} {o:Nat} {s:Dc} (h:DcV c o s) (v:Nat):DcV (upd c (o+5954) (.int .i64 (v:Int))) o { s with count:=v } :=
 ⟨h.file.congr (fun i h1 h2=>upd_ne _ _ _ (by omega)),upd_same _ _ _,(upd_ne _ _ _ (by omega)).trans h.err,(upd_ne _ _ _ (by omega)).trans h.at1⟩
theorem DcV.set_err {c:Nat→Value} {o:Nat} {s:Dc} (h:DcV c o s) (v:Nat):DcV (upd c (o+5955) (.int .i64 (v:Int))) o { s with err:=v } :=
 ⟨h.file.congr (fun i h1 h2=>upd_ne _ _ _ (by omega)),(upd_ne _ _ _ (by omega)).trans h.count,upd_same _ _ _,(upd_ne _ _ _ (by omega)).trans h.at1⟩
theorem DcV.set_at1 {c:Nat→Value} {o:Nat} {s:Dc} (h:DcV c o s) (v:Nat):DcV (upd c (o+5956) (.int .i64 (v:Int))) o { s with at1:=v } :=
 ⟨h.file.congr (fun i h1 h2=>upd_ne _ _ _ (by omega)),(upd_ne _ _ _ (by omega)).trans h.count,(upd_ne _ _ _ (by omega)).trans h.err,upd_same _ _ _⟩
structure Blk (w:World) (b n:Nat) (c:Nat→Value):Prop where
 cell:∀ i,i<n→w.cell? ⟨b,i,none⟩=some (c i)
 fz:∀ i,w.frozen? ⟨b,i,none⟩=false
 lt:b<w.heap.size
theorem Blk.set {w:World} {b n:Nat} {c:Nat→Value} (h:Blk w b n c) {k:Nat} (hk:k<n) (v:Value):Blk (w.setCell ⟨b,k,none⟩ v) b n (upd c k v) :=
 ⟨fun i hi=>by
  by_cases e:i=k
  ·subst e;rw[upd_same];exact cell_set_same (h.cell i hi) _
  ·rw[upd_ne _ _ _ e,cell_set_other _ _ _ _ _ (fun q=>e q.symm)];exact h.cell i hi,fun i=>by rw[World.frozen?_setCell];exact h.fz i,by simpa [World.setCell] using h.lt⟩
theorem Blk.kept {w w':World} {b n:Nat} {c:Nat→Value} (h:Blk w b n c) (k:Kept w w'):Blk w' b n c:=
 ⟨fun i hi=>(k.cell (p:=⟨b,i,none⟩) h.lt).trans (h.cell i hi),fun i=>(k.frozen (p:=⟨b,i,none⟩) h.lt).trans (h.fz i),Nat.lt_of_lt_of_le h.lt k.size⟩
theorem Blk.fr {S:Nat→Prop} {w w':World} {b n:Nat} {c:Nat→Value} (h:Blk w b n c) (k:Fr S w w') (hS:¬ S b):Blk w' b n c:=
 ⟨fun i hi=>(k.cell h.lt hS).trans (h.cell i hi),fun i=>(k.frozen h.lt hS).trans (h.fz i),Nat.lt_of_lt_of_le h.lt k.size⟩
end Go.Proofs.YtmbmecfodigciaaGreatDoor
namespace Px
def dst (a b:Nat):Nat:=if a<b then b - a else a - b
def near (l u c:Nat):Nat:=if dst u c≤dst l c∧dst u c≤dst (l+u) (2*c) then l else if dst l c≤dst (l+u) (2*c) then u else c
def gss (f l u c:Nat):Nat:=if f=1 then l else if f=2 then u else if f=3 then (l+u) / 2 else if f=4 then near l u c else 0
theorem near_lt {l u c:Nat} (hl:l<256) (hu:u<256) (hc:c<256):near l u c<256:=by unfold near;split<;>(try split)<;>assumption
theorem gss_lt {f l u c:Nat} (hl:l<256) (hu:u<256) (hc:c<256):gss f l u c<256:=by
 unfold gss
 split
 ·exact hl
 ·split
  ·exact hu
  ·split
   ·omega
   ·split
    ·exact near_lt hl hu hc
    ·omega
def chn (K:Nat):Nat:=if K=0 then 1 else if K=2 then 3 else if K=3 then 1 else if K=4 then 2 else if K=6 then 4 else 0
theorem chn_le (K : Nat) : chn K ≤ 4 := by unfold chn; repeat' split
                                           all_goals omega
end Px
namespace Go.Proofs.YtmbmecfodigciaaGreatDoor
open Go.RowKit Px
set_option linter.unusedSimpArgs false
set_option linter.unusedVariables false
theorem dist_x (a b:Nat) (w:World) (ha:a≤1000) (hb:b≤1000) :
  Calls Tryz.prog 187 #[.int .i64 (a:Int),.int .i64 (b:Int)] w fun r w'=>r = .returned (.int .i64 (dst a b:Int))∧w'=w:=by
 unfold dst
 by_cases h:a<b
 ·rw[if_pos h]
  go_enter Tryz.func187,Tryz.ntmps187
  go_wp2
  go_ret
  exact ⟨ret_int (by omega),rfl⟩
 ·rw[if_neg h]
  have h':¬ (a:Int)<(b:Int):=by omega
  go_enter Tryz.func187,Tryz.ntmps187
  go_wp2
  go_ret
  exact ⟨ret_int (by omega),rfl⟩
theorem near_x (l u c:Nat) (w:World) (hl:l<256) (hu:u<256) (hc:c<256) :
  Calls Tryz.prog 169 #[.int .u8 (l:Int),.int .u8 (u:Int),.int .u8 (c:Int)] w fun r w'=>r = .returned (.int .u8 (near l u c:Int))∧w'=w:=by
 have F:Hid (∀ (a b:Nat),a≤1000→b≤1000→Calls Tryz.prog 187 #[.int .i64 (a:Int),.int .i64 (b:Int)] w fun r w'=>r = .returned (.int .i64 (dst a b:Int))∧w'=w):=fun a b h1 h2=>dist_x a b w h1 h2
 unfold near
 have d1:dst u c≤1000:=by unfold dst;split<;>omega
 have d2:dst l c≤1000:=by unfold dst;split<;>omega
 have d3:dst (l+u) (2*c)≤1000:=by unfold dst;split<;>omega
 obtain ⟨q1,h1⟩:∃ q,q=dst u c:=⟨_,rfl⟩
 obtain ⟨q2,h2⟩:∃ q,q=dst l c:=⟨_,rfl⟩
 obtain ⟨q3,h3⟩:∃ q,q=dst (l+u) (2*c):=⟨_,rfl⟩
 have F1:Hid (Calls Tryz.prog 187 #[.int .i64 (u:Int),.int .i64 (c:Int)] w fun r w'=>r = .returned (.int .i64 (q1:Int))∧w'=w):=by rw[h1];exact F.out u c (by omega) (by omega)
 have F2:Hid (Calls Tryz.prog 187 #[.int .i64 (l:Int),.int .i64 (c:Int)] w fun r w'=>r = .returned (.int .i64 (q2:Int))∧w'=w):=by rw[h2];exact F.out l c (by omega) (by omega)
 have F3:Hid (Calls Tryz.prog 187 #[.int .i64 ((l+u:Nat):Int),.int .i64 ((2*c:Nat):Int)] w fun r w'=>r = .returned (.int .i64 (q3:Int))∧w'=w):=by rw[h3];exact F.out (l+u) (2*c) (by omega) (by omega)
 rw[← h1] at d1 ⊢
 rw[← h2] at d2 ⊢
 rw[← h3] at d3 ⊢
 clear F h1 h2 h3
 have e3:(l:Int)+(u:Int)=((l+u:Nat):Int):=by omega
 have e4:2*(c:Int)=((2*c:Nat):Int):=by omega
 replace e3:Hid _:=e3
 replace e4:Hid _:=e4
 go_enter Tryz.func169,Tryz.ntmps169
 go_wp2_with fail
 refine F1.out.mono ?_
 rintro r w1 ⟨rfl,rfl⟩
 go_wp2_with fail
 refine F2.out.mono ?_
 rintro r w1 ⟨rfl,rfl⟩
 go_wp2_with fail
 rw[e3.out,e4.out]
 refine F3.out.mono ?_
 rintro r w1 ⟨rfl,rfl⟩
 clear F1 F2 F3 e3 e4
 by_cases e1:q1≤q2
 ·by_cases e2:q1≤q3
  ·go_wp2
   go_ret
   exact ⟨rfl,rfl⟩
  ·have e2':¬ (q1:Int)≤(q3:Int):=by omega
   have e5':¬ (q2:Int)≤(q3:Int):=by omega
   go_wp2
   go_ret
   exact ⟨rfl,rfl⟩
 ·have e1':¬ (q1:Int)≤(q2:Int):=by omega
  by_cases e5:q2≤q3
  ·go_wp2
   go_ret
   exact ⟨rfl,rfl⟩
  ·have e5':¬ (q2:Int)≤(q3:Int):=by omega
   go_wp2
   go_ret
   exact ⟨rfl,rfl⟩
theorem gss_x (f l u c:Nat) (w:World) (hf:f<256) (hl:l<256) (hu:u<256) (hc:c<256) :
  Calls Tryz.prog 160 #[.int .u8 (f:Int),.int .u8 (l:Int),.int .u8 (u:Int),.int .u8 (c:Int)] w fun r w'=>r = .returned (.int .u8 (gss f l u c:Int))∧w'=w:=by
 have F:Hid (Calls Tryz.prog 169 #[.int .u8 (l:Int),.int .u8 (u:Int),.int .u8 (c:Int)] w fun r w'=>r = .returned (.int .u8 (near l u c:Int))∧w'=w):=near_x l u c w hl hu hc
 unfold gss
 by_cases h1:f=1
 ·subst h1
  rw[if_pos rfl]
  go_enter Tryz.func160,Tryz.ntmps160
  go_wp2
  go_ret
  exact ⟨rfl,rfl⟩
 by_cases h2:f=2
 ·subst h2
  rw[if_neg h1,if_pos rfl]
  go_enter Tryz.func160,Tryz.ntmps160
  go_wp2
  go_ret
  exact ⟨rfl,rfl⟩
 by_cases h3:f=3
 ·subst h3
  rw[if_neg h1,if_neg h2,if_pos rfl]
  go_enter Tryz.func160,Tryz.ntmps160
  go_wp2
  go_ret
  exact ⟨ret_int (by omega),rfl⟩
 by_cases h4:f=4
 ·subst h4
  rw[if_neg h1,if_neg h2,if_neg h3,if_pos rfl]
  go_enter Tryz.func160,Tryz.ntmps160
  go_wp2_with fail
  refine F.out.mono ?_
  rintro r w1 ⟨rfl,rfl⟩
  go_wp2
  go_ret
  exact ⟨rfl,rfl⟩
 rw[if_neg h1,if_neg h2,if_neg h3,if_neg h4]
 have g1:((f:Int) == 1)=false:=by rw[beq_eq_false_iff_ne];omega
 have g2:((f:Int) == 2)=false:=by rw[beq_eq_false_iff_ne];omega
 have g3:((f:Int) == 3)=false:=by rw[beq_eq_false_iff_ne];omega
 have g4:((f:Int) == 4)=false:=by rw[beq_eq_false_iff_ne];omega
 go_enter Tryz.func160,Tryz.ntmps160
 go_wp2
 go_ret
 exact ⟨rfl,rfl⟩
theorem samples_x (K:Nat) (w:World) (hK:K≤255) :
  Calls Tryz.prog 93 #[.int .i64 (K:Int)] w fun r w'=>r = .returned (.int .i64 (chn K:Int))∧w'=w:=by
 by_cases h:K=0∨K=2∨K=3∨K=4∨K=6
 ·rcases h with rfl | rfl | rfl | rfl | rfl
  all_goals
   go_enter Tryz.func93,Tryz.ntmps93
   go_wp2
   go_ret
   exact ⟨rfl,rfl⟩
 ·have e:chn K=0:=by unfold chn;rw[if_neg (by omega),if_neg (by omega),if_neg (by omega),if_neg (by omega),if_neg (by omega)]
  rw[e]
  have g0:((K:Int) == 0)=false:=by rw[beq_eq_false_iff_ne];omega
  have g2:((K:Int) == 2)=false:=by rw[beq_eq_false_iff_ne];omega
  have g3:((K:Int) == 3)=false:=by rw[beq_eq_false_iff_ne];omega
  have g4:((K:Int) == 4)=false:=by rw[beq_eq_false_iff_ne];omega
  have g6:((K:Int) == 6)=false:=by rw[beq_eq_false_iff_ne];omega
  go_enter Tryz.func93,Tryz.ntmps93
  go_wp2
  go_ret
  exact ⟨rfl,rfl⟩
end Go.Proofs.YtmbmecfodigciaaGreatDoor
