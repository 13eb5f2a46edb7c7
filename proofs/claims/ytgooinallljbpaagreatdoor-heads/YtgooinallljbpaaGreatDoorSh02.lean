import Derived.Test.YtgooinallljbpaaGreatDoorSh00
import Derived.Deep.RegionHeld3
import Derived.Laws.IdiomCopy
import Derived.Deep.WholeRow
import Derived.Deep.MidRow
import Derived.Deep.CutBlock
import Derived.Deep.CutRange
set_option linter.all false
set_option maxRecDepth 100000
set_option maxHeartbeats 0
namespace Px
def upd{A:Type}(f:Nat->A)(i:Nat)(v:A):Nat->A:=λj=>if j=i then v else f j
theorem upd_same{A}f i(v:A):upd f i v i=v:=I rfl
theorem upd_ne{A}f i(v:A){j:Nat}(h:j≠i):upd f i v j=f j:=N h
end Px
namespace Go.Proofs.YtgooinallljbpaaGreatDoor
open Go.RowKit Px Tryz
structure Pt where
 bits:Nat
 offset:Nat
 ahead:Nat
structure PtV (c:Nat->Value) (o:Nat) (s:Pt):Prop where
 bits:c (o)=.int .i64 (s.bits:Int)
 offset:c (o+1)=.int .i64 (s.offset:Int)
 ahead:c (o+2)=.int .i64 (s.ahead:Int)
theorem PtV.congr{c d o s}(h:PtV c o s)(e:∀a,o<=a->a<o+3->d a=c a):PtV d o s:=
 ⟨(e _ O O).trans h.bits,(e _ O O).trans h.offset,(e _ O O).trans h.ahead⟩
theorem un{c:Nat->Value}{i k:Nat}{v x:Value}(h:c i=x)(e:i≠k:=by omega):upd c k v i=x:=(upd_ne _ _ _ e).trans h
theorem uc{c:Nat->Value}{a b k:Nat}{v:Value}(e:∀d,a<=d->d<b->d≠k:=by omega):∀d,a<=d->d<b->upd c k v d=c d:=λd f g=>upd_ne _ _ _ (e d f g)
theorem PtV.set_bits{c o s}(h:PtV c o s)(v:Nat):PtV (upd c (o) (.int .i64 v)) o {s with bits:=v} :=
 ⟨upd_same _ _ _,un h.offset,un h.ahead⟩
theorem PtV.set_offset{c o s}(h:PtV c o s)(v:Nat):PtV (upd c (o+1) (.int .i64 v)) o {s with offset:=v} :=
 ⟨un h.bits,upd_same _ _ _,un h.ahead⟩
theorem PtV.set_ahead{c o s}(h:PtV c o s)(v:Nat):PtV (upd c (o+2) (.int .i64 v)) o {s with ahead:=v} :=
 ⟨un h.bits,un h.offset,upd_same _ _ _⟩
structure CS where
 count:Nat->Nat
 sym:Nat->Nat
 total:Nat
 longest:Nat
structure CSV (c:Nat->Value) (o:Nat) (s:CS):Prop where
 count:∀i,i<16->c (o+i)=.int .i64 (s.count i)
 sym:∀i,i<288->c (o+16+i)=.int .i64 (s.sym i)
 total:c (o+304)=.int .i64 (s.total:Int)
 longest:c (o+305)=.int .i64 (s.longest:Int)
theorem CSV.congr{c d o s}(h:CSV c o s)(e:∀a,o<=a->a<o+306->d a=c a):CSV d o s:=
 ⟨λa b=>(e _ O O).trans (h.count a b),λa b=>(e _ O O).trans (h.sym a b),(e _ O O).trans h.total,(e _ O O).trans h.longest⟩
theorem CSV.set_count{c o s}(h:CSV c o s)k(v:Nat)(e:k<16):CSV (upd c (o+k) (.int .i64 v)) o {s with count:=upd s.count k v} :=
 ⟨λa b=>by
  by_cases d:a=k
  .subst d;rw[upd_same];show _=Value.int .i64 ((upd s.count a v a:Nat):Int);rw[upd_same]
  .rw[upd_ne _ _ _ O];show _=Value.int .i64 ((upd s.count k v a:Nat):Int);rw[upd_ne _ _ _ d];exact h.count a b,λa b=>un (h.sym a b),un h.total,un h.longest⟩
theorem CSV.set_sym{c o s}(h:CSV c o s)k(v:Nat)(e:k<288):CSV (upd c (o+16+k) (.int .i64 v)) o {s with sym:=upd s.sym k v} :=
 ⟨λa b=>un (h.count a b),λa b=>by
  by_cases d:a=k
  .subst d;rw[upd_same];show _=Value.int .i64 ((upd s.sym a v a:Nat):Int);rw[upd_same]
  .rw[upd_ne _ _ _ O];show _=Value.int .i64 ((upd s.sym k v a:Nat):Int);rw[upd_ne _ _ _ d];exact h.sym a b,un h.total,un h.longest⟩
theorem CSV.set_total{c o s}(h:CSV c o s)(v:Nat):CSV (upd c (o+304) (.int .i64 v)) o {s with total:=v} :=
 ⟨λa b=>un (h.count a b),λa b=>un (h.sym a b),upd_same _ _ _,un h.longest⟩
theorem CSV.set_longest{c o s}(h:CSV c o s)(v:Nat):CSV (upd c (o+305) (.int .i64 v)) o {s with longest:=v} :=
 ⟨λa b=>un (h.count a b),λa b=>un (h.sym a b),un h.total,upd_same _ _ _⟩
structure Tb where
 literals:Nat
 distances:Nat
 shorts:Nat
 short:CS
 sl:Nat->Nat
 ls:Nat->Nat
 told:Nat
 rep:Int
structure TbV (c:Nat->Value) (o:Nat) (s:Tb):Prop where
 literals:c (o)=.int .i64 (s.literals:Int)
 distances:c (o+1)=.int .i64 (s.distances:Int)
 shorts:c (o+2)=.int .i64 (s.shorts:Int)
 short:CSV c (o+3) s.short
 sl:∀i,i<19->c (o+309+i)=.int .u8 (s.sl i)
 ls:∀i,i<316->c (o+328+i)=.int .u8 (s.ls i)
 told:c (o+644)=.int .i64 (s.told:Int)
 rep:c (o+645)=.int .i64 s.rep
theorem TbV.congr{c d o s}(h:TbV c o s)(e:∀a,o<=a->a<o+646->d a=c a):TbV d o s:=
 ⟨(e _ O O).trans h.literals,(e _ O O).trans h.distances,(e _ O O).trans h.shorts,h.short.congr (λa f g=>e a O O),λa b=>(e _ O O).trans (h.sl a b),λa b=>(e _ O O).trans (h.ls a b),(e _ O O).trans h.told,(e _ O O).trans h.rep⟩
theorem TbV.set_short{c d o s}(h:TbV c o s)v(f:CSV d (o+3) v)(e:∀a,¬(o+3<=a/\a<o+309)->d a=c a):TbV d o {s with short:=v} :=
 ⟨(e _ O).trans h.literals,(e _ O).trans h.distances,(e _ O).trans h.shorts,f,λa b=>(e _ O).trans (h.sl a b),λa b=>(e _ O).trans (h.ls a b),(e _ O).trans h.told,(e _ O).trans h.rep⟩
theorem TbV.set_sl{c o s}(h:TbV c o s)k(v:Nat)(e:k<19):TbV (upd c (o+309+k) (.int .u8 v)) o {s with sl:=upd s.sl k v} :=
 ⟨un h.literals,un h.distances,un h.shorts,h.short.congr uc,λa b=>by
  by_cases d:a=k
  .subst d;rw[upd_same];show _=Value.int .u8 ((upd s.sl a v a:Nat):Int);rw[upd_same]
  .rw[upd_ne _ _ _ O];show _=Value.int .u8 ((upd s.sl k v a:Nat):Int);rw[upd_ne _ _ _ d];exact h.sl a b,λa b=>un (h.ls a b),un h.told,un h.rep⟩
theorem TbV.set_ls{c o s}(h:TbV c o s)k(v:Nat)(e:k<316):TbV (upd c (o+328+k) (.int .u8 v)) o {s with ls:=upd s.ls k v} :=
 ⟨un h.literals,un h.distances,un h.shorts,h.short.congr uc,λa b=>un (h.sl a b),λa b=>by
  by_cases d:a=k
  .subst d;rw[upd_same];show _=Value.int .u8 ((upd s.ls a v a:Nat):Int);rw[upd_same]
  .rw[upd_ne _ _ _ O];show _=Value.int .u8 ((upd s.ls k v a:Nat):Int);rw[upd_ne _ _ _ d];exact h.ls a b,un h.told,un h.rep⟩
theorem TbV.set_told{c o s}(h:TbV c o s)(v:Nat):TbV (upd c (o+644) (.int .i64 v)) o {s with told:=v} :=
 ⟨un h.literals,un h.distances,un h.shorts,h.short.congr uc,λa b=>un (h.sl a b),λa b=>un (h.ls a b),upd_same _ _ _,un h.rep⟩
theorem TbV.set_rep{c o s}(h:TbV c o s)v:TbV (upd c (o+645) (.int .i64 v)) o {s with rep:=v} :=
 ⟨un h.literals,un h.distances,un h.shorts,h.short.congr uc,λa b=>un (h.sl a b),λa b=>un (h.ls a b),un h.told,upd_same _ _ _⟩
structure St where
 part:Nat
 number:Nat
 got:Nat
 wanted:Nat
 path:Pt
 skip:Bool
 window:Nat
 last:Bool
 left:Nat
 lit:CS
 dist:CS
 tb:Tb
 length:Nat
 base:Nat
 hist:Nat->Nat
 count:Nat
 sum:Nat
structure StV (c:Nat->Value) (o:Nat) (s:St):Prop where
 part:c (o)=.int .i64 (s.part:Int)
 number:c (o+1)=.int .u32 (s.number:Int)
 got:c (o+2)=.int .u64 (s.got:Int)
 wanted:c (o+3)=.int .u64 (s.wanted:Int)
 path:PtV c (o+4) s.path
 skip:c (o+7)=.bool s.skip
 window:c (o+8)=.int .i64 (s.window:Int)
 last:c (o+9)=.bool s.last
 left:c (o+10)=.int .i64 (s.left:Int)
 lit:CSV c (o+11) s.lit
 dist:CSV c (o+317) s.dist
 tb:TbV c (o+623) s.tb
 length:c (o+1269)=.int .i64 (s.length:Int)
 base:c (o+1270)=.int .i64 (s.base:Int)
 hist:∀i,i<2078->c (o+1271+i)=.int .u8 (s.hist i)
 count:c (o+3349)=.int .i64 (s.count:Int)
 sum:c (o+3350)=.int .u32 (s.sum:Int)
theorem StV.congr{c d o s}(h:StV c o s)(e:∀a,o<=a->a<o+3351->d a=c a):StV d o s:=
 ⟨(e _ O O).trans h.part,(e _ O O).trans h.number,(e _ O O).trans h.got,(e _ O O).trans h.wanted,h.path.congr (λa b f=>e a O O),(e _ O O).trans h.skip,(e _ O O).trans h.window,(e _ O O).trans h.last,(e _ O O).trans h.left,h.lit.congr (λa b f=>e a O O),h.dist.congr (λa b f=>e a O O),h.tb.congr (λa b f=>e a O O),(e _ O O).trans h.length,(e _ O O).trans h.base,λa g=>(e _ O O).trans (h.hist a g),(e _ O O).trans h.count,(e _ O O).trans h.sum⟩
theorem StV.set_part{c o s}(h:StV c o s)(v:Nat):StV (upd c (o) (.int .i64 v)) o {s with part:=v} :=
 ⟨upd_same _ _ _,un h.number,un h.got,un h.wanted,h.path.congr uc,un h.skip,un h.window,un h.last,un h.left,h.lit.congr uc,h.dist.congr uc,h.tb.congr uc,un h.length,un h.base,λa b=>un (h.hist a b),un h.count,un h.sum⟩
theorem StV.set_number{c o s}(h:StV c o s)(v:Nat):StV (upd c (o+1) (.int .u32 v)) o {s with number:=v} :=
 ⟨un h.part,upd_same _ _ _,un h.got,un h.wanted,h.path.congr uc,un h.skip,un h.window,un h.last,un h.left,h.lit.congr uc,h.dist.congr uc,h.tb.congr uc,un h.length,un h.base,λa b=>un (h.hist a b),un h.count,un h.sum⟩
theorem StV.set_got{c o s}(h:StV c o s)(v:Nat):StV (upd c (o+2) (.int .u64 v)) o {s with got:=v} :=
 ⟨un h.part,un h.number,upd_same _ _ _,un h.wanted,h.path.congr uc,un h.skip,un h.window,un h.last,un h.left,h.lit.congr uc,h.dist.congr uc,h.tb.congr uc,un h.length,un h.base,λa b=>un (h.hist a b),un h.count,un h.sum⟩
theorem StV.set_wanted{c o s}(h:StV c o s)(v:Nat):StV (upd c (o+3) (.int .u64 v)) o {s with wanted:=v} :=
 ⟨un h.part,un h.number,un h.got,upd_same _ _ _,h.path.congr uc,un h.skip,un h.window,un h.last,un h.left,h.lit.congr uc,h.dist.congr uc,h.tb.congr uc,un h.length,un h.base,λa b=>un (h.hist a b),un h.count,un h.sum⟩
theorem StV.set_path{c d o s}(h:StV c o s)v(g:PtV d (o+4) v)(e:∀a,¬(o+4<=a/\a<o+7)->d a=c a):StV d o {s with path:=v} :=
 ⟨(e _ O).trans h.part,(e _ O).trans h.number,(e _ O).trans h.got,(e _ O).trans h.wanted,g,(e _ O).trans h.skip,(e _ O).trans h.window,(e _ O).trans h.last,(e _ O).trans h.left,h.lit.congr (λa b f=>e _ O),h.dist.congr (λa b f=>e _ O),h.tb.congr (λa b f=>e _ O),(e _ O).trans h.length,(e _ O).trans h.base,λa i=>(e _ O).trans (h.hist a i),(e _ O).trans h.count,(e _ O).trans h.sum⟩
theorem StV.set_skip{c o s}(h:StV c o s)v:StV (upd c (o+7) (.bool v)) o {s with skip:=v} :=
 ⟨un h.part,un h.number,un h.got,un h.wanted,h.path.congr uc,upd_same _ _ _,un h.window,un h.last,un h.left,h.lit.congr uc,h.dist.congr uc,h.tb.congr uc,un h.length,un h.base,λa b=>un (h.hist a b),un h.count,un h.sum⟩
theorem StV.set_window{c o s}(h:StV c o s)(v:Nat):StV (upd c (o+8) (.int .i64 v)) o {s with window:=v} :=
 ⟨un h.part,un h.number,un h.got,un h.wanted,h.path.congr uc,un h.skip,upd_same _ _ _,un h.last,un h.left,h.lit.congr uc,h.dist.congr uc,h.tb.congr uc,un h.length,un h.base,λa b=>un (h.hist a b),un h.count,un h.sum⟩
theorem StV.set_last{c o s}(h:StV c o s)v:StV (upd c (o+9) (.bool v)) o {s with last:=v} :=
 ⟨un h.part,un h.number,un h.got,un h.wanted,h.path.congr uc,un h.skip,un h.window,upd_same _ _ _,un h.left,h.lit.congr uc,h.dist.congr uc,h.tb.congr uc,un h.length,un h.base,λa b=>un (h.hist a b),un h.count,un h.sum⟩
theorem StV.set_left{c o s}(h:StV c o s)(v:Nat):StV (upd c (o+10) (.int .i64 v)) o {s with left:=v} :=
 ⟨un h.part,un h.number,un h.got,un h.wanted,h.path.congr uc,un h.skip,un h.window,un h.last,upd_same _ _ _,h.lit.congr uc,h.dist.congr uc,h.tb.congr uc,un h.length,un h.base,λa b=>un (h.hist a b),un h.count,un h.sum⟩
theorem StV.set_lit{c d o s}(h:StV c o s)v(g:CSV d (o+11) v)(e:∀a,¬(o+11<=a/\a<o+317)->d a=c a):StV d o {s with lit:=v} :=
 ⟨(e _ O).trans h.part,(e _ O).trans h.number,(e _ O).trans h.got,(e _ O).trans h.wanted,h.path.congr (λa b f=>e _ O),(e _ O).trans h.skip,(e _ O).trans h.window,(e _ O).trans h.last,(e _ O).trans h.left,g,h.dist.congr (λa b f=>e _ O),h.tb.congr (λa b f=>e _ O),(e _ O).trans h.length,(e _ O).trans h.base,λa i=>(e _ O).trans (h.hist a i),(e _ O).trans h.count,(e _ O).trans h.sum⟩
theorem StV.set_dist{c d o s}(h:StV c o s)v(g:CSV d (o+317) v)(e:∀a,¬(o+317<=a/\a<o+623)->d a=c a):StV d o {s with dist:=v} :=
 ⟨(e _ O).trans h.part,(e _ O).trans h.number,(e _ O).trans h.got,(e _ O).trans h.wanted,h.path.congr (λa b f=>e _ O),(e _ O).trans h.skip,(e _ O).trans h.window,(e _ O).trans h.last,(e _ O).trans h.left,h.lit.congr (λa b f=>e _ O),g,h.tb.congr (λa b f=>e _ O),(e _ O).trans h.length,(e _ O).trans h.base,λa i=>(e _ O).trans (h.hist a i),(e _ O).trans h.count,(e _ O).trans h.sum⟩
theorem StV.set_length{c o s}(h:StV c o s)(v:Nat):StV (upd c (o+1269) (.int .i64 v)) o {s with length:=v} :=
 ⟨un h.part,un h.number,un h.got,un h.wanted,h.path.congr uc,un h.skip,un h.window,un h.last,un h.left,h.lit.congr uc,h.dist.congr uc,h.tb.congr uc,upd_same _ _ _,un h.base,λa b=>un (h.hist a b),un h.count,un h.sum⟩
theorem StV.set_base{c o s}(h:StV c o s)(v:Nat):StV (upd c (o+1270) (.int .i64 v)) o {s with base:=v} :=
 ⟨un h.part,un h.number,un h.got,un h.wanted,h.path.congr uc,un h.skip,un h.window,un h.last,un h.left,h.lit.congr uc,h.dist.congr uc,h.tb.congr uc,un h.length,upd_same _ _ _,λa b=>un (h.hist a b),un h.count,un h.sum⟩
theorem StV.set_hist{c o s}(h:StV c o s)k(v:Nat)(e:k<2078):StV (upd c (o+1271+k) (.int .u8 v)) o {s with hist:=upd s.hist k v} :=
 ⟨un h.part,un h.number,un h.got,un h.wanted,h.path.congr uc,un h.skip,un h.window,un h.last,un h.left,h.lit.congr uc,h.dist.congr uc,h.tb.congr uc,un h.length,un h.base,λa d=>by
  by_cases b:a=k
  .subst b;rw[upd_same];show _=Value.int .u8 ((upd s.hist a v a:Nat):Int);rw[upd_same]
  .rw[upd_ne _ _ _ O];show _=Value.int .u8 ((upd s.hist k v a:Nat):Int);rw[upd_ne _ _ _ b];exact h.hist a d,un h.count,un h.sum⟩
theorem StV.set_count{c o s}(h:StV c o s)(v:Nat):StV (upd c (o+3349) (.int .i64 v)) o {s with count:=v} :=
 ⟨un h.part,un h.number,un h.got,un h.wanted,h.path.congr uc,un h.skip,un h.window,un h.last,un h.left,h.lit.congr uc,h.dist.congr uc,h.tb.congr uc,un h.length,un h.base,λa b=>un (h.hist a b),upd_same _ _ _,un h.sum⟩
theorem StV.set_sum{c o s}(h:StV c o s)(v:Nat):StV (upd c (o+3350) (.int .u32 v)) o {s with sum:=v} :=
 ⟨un h.part,un h.number,un h.got,un h.wanted,h.path.congr uc,un h.skip,un h.window,un h.last,un h.left,h.lit.congr uc,h.dist.congr uc,h.tb.congr uc,un h.length,un h.base,λa b=>un (h.hist a b),un h.count,upd_same _ _ _⟩
structure Hd where
 W:Nat
 H:Nat
 D:Nat
 K:Nat
 L:Nat
structure HdV (c:Nat->Value) (o:Nat) (s:Hd):Prop where
 W:c (o)=.int .i64 (s.W:Int)
 H:c (o+1)=.int .i64 (s.H:Int)
 D:c (o+2)=.int .i64 (s.D:Int)
 K:c (o+3)=.int .i64 (s.K:Int)
 L:c (o+4)=.int .i64 (s.L:Int)
theorem HdV.congr{c d o s}(h:HdV c o s)(e:∀a,o<=a->a<o+5->d a=c a):HdV d o s:=
 ⟨(e _ O O).trans h.W,(e _ O O).trans h.H,(e _ O O).trans h.D,(e _ O O).trans h.K,(e _ O O).trans h.L⟩
theorem HdV.set_W{c o s}(h:HdV c o s)(v:Nat):HdV (upd c (o) (.int .i64 v)) o {s with W:=v} :=
 ⟨upd_same _ _ _,un h.H,un h.D,un h.K,un h.L⟩
theorem HdV.set_H{c o s}(h:HdV c o s)(v:Nat):HdV (upd c (o+1) (.int .i64 v)) o {s with H:=v} :=
 ⟨un h.W,upd_same _ _ _,un h.D,un h.K,un h.L⟩
theorem HdV.set_D{c o s}(h:HdV c o s)(v:Nat):HdV (upd c (o+2) (.int .i64 v)) o {s with D:=v} :=
 ⟨un h.W,un h.H,upd_same _ _ _,un h.K,un h.L⟩
theorem HdV.set_K{c o s}(h:HdV c o s)(v:Nat):HdV (upd c (o+3) (.int .i64 v)) o {s with K:=v} :=
 ⟨un h.W,un h.H,un h.D,upd_same _ _ _,un h.L⟩
theorem HdV.set_L{c o s}(h:HdV c o s)(v:Nat):HdV (upd c (o+4) (.int .i64 v)) o {s with L:=v} :=
 ⟨un h.W,un h.H,un h.D,un h.K,upd_same _ _ _⟩
structure Rw where
 hd:Hd
 colours:Nat
 pass:Int
 line:Nat
 columns:Nat
 lines:Nat
 size:Nat
 taken:Nat
 filter:Nat
 row:Nat->Nat
 above:Nat->Nat
 known:Nat->Bool
 smp:Nat->Nat
structure RwV (c:Nat->Value) (o:Nat) (s:Rw):Prop where
 hd:HdV c (o) s.hd
 colours:c (o+5)=.int .i64 (s.colours:Int)
 pass:c (o+6)=.int .i64 s.pass
 line:c (o+7)=.int .i64 (s.line:Int)
 columns:c (o+8)=.int .i64 (s.columns:Int)
 lines:c (o+9)=.int .i64 (s.lines:Int)
 size:c (o+10)=.int .i64 (s.size:Int)
 taken:c (o+11)=.int .i64 (s.taken:Int)
 filter:c (o+12)=.int .u8 (s.filter:Int)
 row:∀i,i<128->c (o+13+i)=.int .u8 (s.row i)
 above:∀i,i<128->c (o+141+i)=.int .u8 (s.above i)
 known:∀i,i<256->c (o+269+i)=.bool (s.known i)
 smp:∀i,i<1024->c (o+525+i)=.int .u16 (s.smp i)
theorem RwV.congr{c d o s}(h:RwV c o s)(e:∀a,o<=a->a<o+1549->d a=c a):RwV d o s:=
 ⟨h.hd.congr (λa f g=>e a O O),(e _ O O).trans h.colours,(e _ O O).trans h.pass,(e _ O O).trans h.line,(e _ O O).trans h.columns,(e _ O O).trans h.lines,(e _ O O).trans h.size,(e _ O O).trans h.taken,(e _ O O).trans h.filter,λa b=>(e _ O O).trans (h.row a b),λa b=>(e _ O O).trans (h.above a b),λa b=>(e _ O O).trans (h.known a b),λa b=>(e _ O O).trans (h.smp a b)⟩
theorem RwV.set_pass{c o s}(h:RwV c o s)v:RwV (upd c (o+6) (.int .i64 v)) o {s with pass:=v} :=
 ⟨h.hd.congr uc,un h.colours,upd_same _ _ _,un h.line,un h.columns,un h.lines,un h.size,un h.taken,un h.filter,λa b=>un (h.row a b),λa b=>un (h.above a b),λa b=>un (h.known a b),λa b=>un (h.smp a b)⟩
theorem RwV.set_line{c o s}(h:RwV c o s)(v:Nat):RwV (upd c (o+7) (.int .i64 v)) o {s with line:=v} :=
 ⟨h.hd.congr uc,un h.colours,un h.pass,upd_same _ _ _,un h.columns,un h.lines,un h.size,un h.taken,un h.filter,λa b=>un (h.row a b),λa b=>un (h.above a b),λa b=>un (h.known a b),λa b=>un (h.smp a b)⟩
theorem RwV.set_columns{c o s}(h:RwV c o s)(v:Nat):RwV (upd c (o+8) (.int .i64 v)) o {s with columns:=v} :=
 ⟨h.hd.congr uc,un h.colours,un h.pass,un h.line,upd_same _ _ _,un h.lines,un h.size,un h.taken,un h.filter,λa b=>un (h.row a b),λa b=>un (h.above a b),λa b=>un (h.known a b),λa b=>un (h.smp a b)⟩
theorem RwV.set_lines{c o s}(h:RwV c o s)(v:Nat):RwV (upd c (o+9) (.int .i64 v)) o {s with lines:=v} :=
 ⟨h.hd.congr uc,un h.colours,un h.pass,un h.line,un h.columns,upd_same _ _ _,un h.size,un h.taken,un h.filter,λa b=>un (h.row a b),λa b=>un (h.above a b),λa b=>un (h.known a b),λa b=>un (h.smp a b)⟩
theorem RwV.set_size{c o s}(h:RwV c o s)(v:Nat):RwV (upd c (o+10) (.int .i64 v)) o {s with size:=v} :=
 ⟨h.hd.congr uc,un h.colours,un h.pass,un h.line,un h.columns,un h.lines,upd_same _ _ _,un h.taken,un h.filter,λa b=>un (h.row a b),λa b=>un (h.above a b),λa b=>un (h.known a b),λa b=>un (h.smp a b)⟩
theorem RwV.set_taken{c o s}(h:RwV c o s)(v:Nat):RwV (upd c (o+11) (.int .i64 v)) o {s with taken:=v} :=
 ⟨h.hd.congr uc,un h.colours,un h.pass,un h.line,un h.columns,un h.lines,un h.size,upd_same _ _ _,un h.filter,λa b=>un (h.row a b),λa b=>un (h.above a b),λa b=>un (h.known a b),λa b=>un (h.smp a b)⟩
theorem RwV.set_filter{c o s}(h:RwV c o s)(v:Nat):RwV (upd c (o+12) (.int .u8 v)) o {s with filter:=v} :=
 ⟨h.hd.congr uc,un h.colours,un h.pass,un h.line,un h.columns,un h.lines,un h.size,un h.taken,upd_same _ _ _,λa b=>un (h.row a b),λa b=>un (h.above a b),λa b=>un (h.known a b),λa b=>un (h.smp a b)⟩
theorem RwV.set_row{c o s}(h:RwV c o s)k(v:Nat)(e:k<128):RwV (upd c (o+13+k) (.int .u8 v)) o {s with row:=upd s.row k v} :=
 ⟨h.hd.congr uc,un h.colours,un h.pass,un h.line,un h.columns,un h.lines,un h.size,un h.taken,un h.filter,λa b=>by
  by_cases d:a=k
  .subst d;rw[upd_same];show _=Value.int .u8 ((upd s.row a v a:Nat):Int);rw[upd_same]
  .rw[upd_ne _ _ _ O];show _=Value.int .u8 ((upd s.row k v a:Nat):Int);rw[upd_ne _ _ _ d];exact h.row a b,λa b=>un (h.above a b),λa b=>un (h.known a b),λa b=>un (h.smp a b)⟩
theorem RwV.all_above{c d o s}(h:RwV c o s)f(b:∀i,i<128->d (o+141+i)=.int .u8 (f i))(e:∀i,¬(o+141<=i/\i<o+269)->d i=c i):RwV d o {s with above:=f} :=
 ⟨h.hd.congr (λi g j=>e _ O),(e _ O).trans h.colours,(e _ O).trans h.pass,(e _ O).trans h.line,(e _ O).trans h.columns,(e _ O).trans h.lines,(e _ O).trans h.size,(e _ O).trans h.taken,(e _ O).trans h.filter,λi a=>(e _ O).trans (h.row i a),b,λi a=>(e _ O).trans (h.known i a),λi a=>(e _ O).trans (h.smp i a)⟩
theorem RwV.set_known{c o s}(h:RwV c o s)k v(e:k<256):RwV (upd c (o+269+k) (.bool v)) o {s with known:=upd s.known k v} :=
 ⟨h.hd.congr uc,un h.colours,un h.pass,un h.line,un h.columns,un h.lines,un h.size,un h.taken,un h.filter,λa b=>un (h.row a b),λa b=>un (h.above a b),λa b=>by
  by_cases d:a=k
  .subst d;rw[upd_same];show _=Value.bool (upd s.known a v a);rw[upd_same]
  .rw[upd_ne _ _ _ O];show _=Value.bool (upd s.known k v a);rw[upd_ne _ _ _ d];exact h.known a b,λa b=>un (h.smp a b)⟩
theorem RwV.set_smp{c o s}(h:RwV c o s)k(v:Nat)(e:k<1024):RwV (upd c (o+525+k) (.int .u16 v)) o {s with smp:=upd s.smp k v} :=
 ⟨h.hd.congr uc,un h.colours,un h.pass,un h.line,un h.columns,un h.lines,un h.size,un h.taken,un h.filter,λa b=>un (h.row a b),λa b=>un (h.above a b),λa b=>un (h.known a b),λa b=>by
  by_cases d:a=k
  .subst d;rw[upd_same];show _=Value.int .u16 ((upd s.smp a v a:Nat):Int);rw[upd_same]
  .rw[upd_ne _ _ _ O];show _=Value.int .u16 ((upd s.smp k v a:Nat):Int);rw[upd_ne _ _ _ d];exact h.smp a b⟩
structure Tl where
 pal:Nat->Nat
 clear:Nat->Nat
 colours:Nat
 clears:Nat
structure TlV (c:Nat->Value) (o:Nat) (s:Tl):Prop where
 pal:∀i,i<768->c (o+i)=.int .u8 (s.pal i)
 clear:∀i,i<256->c (o+768+i)=.int .u8 (s.clear i)
 colours:c (o+1024)=.int .i64 (s.colours:Int)
 clears:c (o+1025)=.int .i64 (s.clears:Int)
theorem TlV.congr{c d o s}(h:TlV c o s)(e:∀a,o<=a->a<o+1026->d a=c a):TlV d o s:=
 ⟨λa b=>(e _ O O).trans (h.pal a b),λa b=>(e _ O O).trans (h.clear a b),(e _ O O).trans h.colours,(e _ O O).trans h.clears⟩
theorem TlV.set_pal{c o s}(h:TlV c o s)k(v:Nat)(e:k<768):TlV (upd c (o+k) (.int .u8 v)) o {s with pal:=upd s.pal k v} :=
 ⟨λa b=>by
  by_cases d:a=k
  .subst d;rw[upd_same];show _=Value.int .u8 ((upd s.pal a v a:Nat):Int);rw[upd_same]
  .rw[upd_ne _ _ _ O];show _=Value.int .u8 ((upd s.pal k v a:Nat):Int);rw[upd_ne _ _ _ d];exact h.pal a b,λa b=>un (h.clear a b),un h.colours,un h.clears⟩
theorem TlV.set_clear{c o s}(h:TlV c o s)k(v:Nat)(e:k<256):TlV (upd c (o+768+k) (.int .u8 v)) o {s with clear:=upd s.clear k v} :=
 ⟨λa b=>un (h.pal a b),λa b=>by
  by_cases d:a=k
  .subst d;rw[upd_same];show _=Value.int .u8 ((upd s.clear a v a:Nat):Int);rw[upd_same]
  .rw[upd_ne _ _ _ O];show _=Value.int .u8 ((upd s.clear k v a:Nat):Int);rw[upd_ne _ _ _ d];exact h.clear a b,un h.colours,un h.clears⟩
theorem TlV.set_colours{c o s}(h:TlV c o s)(v:Nat):TlV (upd c (o+1024) (.int .i64 v)) o {s with colours:=v} :=
 ⟨λa b=>un (h.pal a b),λa b=>un (h.clear a b),upd_same _ _ _,un h.clears⟩
theorem TlV.set_clears{c o s}(h:TlV c o s)(v:Nat):TlV (upd c (o+1025) (.int .i64 v)) o {s with clears:=v} :=
 ⟨λa b=>un (h.pal a b),λa b=>un (h.clear a b),un h.colours,upd_same _ _ _⟩
structure Rd where
 part:Nat
 taken:Nat
 number:Nat
 length:Nat
 ctype:Nat
 sum:Nat
 hd:Hd
 raw:Nat->Nat
 tl:Tl
 st:St
 rw:Rw
 sp:Bool
 sc:Bool
 sd:Bool
 dov:Bool
structure RdV (c:Nat->Value) (o:Nat) (s:Rd):Prop where
 part:c (o)=.int .i64 (s.part:Int)
 taken:c (o+1)=.int .u32 (s.taken:Int)
 number:c (o+2)=.int .u32 (s.number:Int)
 length:c (o+3)=.int .u32 (s.length:Int)
 ctype:c (o+4)=.int .u32 (s.ctype:Int)
 sum:c (o+5)=.int .u32 (s.sum:Int)
 hd:HdV c (o+6) s.hd
 raw:∀i,i<13->c (o+11+i)=.int .u8 (s.raw i)
 tl:TlV c (o+24) s.tl
 st:StV c (o+1050) s.st
 rw:RwV c (o+4401) s.rw
 sp:c (o+5950)=.bool s.sp
 sc:c (o+5951)=.bool s.sc
 sd:c (o+5952)=.bool s.sd
 dov:c (o+5953)=.bool s.dov
theorem RdV.congr{c d o s}(h:RdV c o s)(e:∀a,o<=a->a<o+5954->d a=c a):RdV d o s:=
 ⟨(e _ O O).trans h.part,(e _ O O).trans h.taken,(e _ O O).trans h.number,(e _ O O).trans h.length,(e _ O O).trans h.ctype,(e _ O O).trans h.sum,h.hd.congr (λa b f=>e a O O),λa g=>(e _ O O).trans (h.raw a g),h.tl.congr (λa b f=>e a O O),h.st.congr (λa b f=>e a O O),h.rw.congr (λa b f=>e a O O),(e _ O O).trans h.sp,(e _ O O).trans h.sc,(e _ O O).trans h.sd,(e _ O O).trans h.dov⟩
theorem RdV.set_part{c o s}(h:RdV c o s)(v:Nat):RdV (upd c (o) (.int .i64 v)) o {s with part:=v} :=
 ⟨upd_same _ _ _,un h.taken,un h.number,un h.length,un h.ctype,un h.sum,h.hd.congr uc,λa b=>un (h.raw a b),h.tl.congr uc,h.st.congr uc,h.rw.congr uc,un h.sp,un h.sc,un h.sd,un h.dov⟩
theorem RdV.set_taken{c o s}(h:RdV c o s)(v:Nat):RdV (upd c (o+1) (.int .u32 v)) o {s with taken:=v} :=
 ⟨un h.part,upd_same _ _ _,un h.number,un h.length,un h.ctype,un h.sum,h.hd.congr uc,λa b=>un (h.raw a b),h.tl.congr uc,h.st.congr uc,h.rw.congr uc,un h.sp,un h.sc,un h.sd,un h.dov⟩
theorem RdV.set_number{c o s}(h:RdV c o s)(v:Nat):RdV (upd c (o+2) (.int .u32 v)) o {s with number:=v} :=
 ⟨un h.part,un h.taken,upd_same _ _ _,un h.length,un h.ctype,un h.sum,h.hd.congr uc,λa b=>un (h.raw a b),h.tl.congr uc,h.st.congr uc,h.rw.congr uc,un h.sp,un h.sc,un h.sd,un h.dov⟩
theorem RdV.set_length{c o s}(h:RdV c o s)(v:Nat):RdV (upd c (o+3) (.int .u32 v)) o {s with length:=v} :=
 ⟨un h.part,un h.taken,un h.number,upd_same _ _ _,un h.ctype,un h.sum,h.hd.congr uc,λa b=>un (h.raw a b),h.tl.congr uc,h.st.congr uc,h.rw.congr uc,un h.sp,un h.sc,un h.sd,un h.dov⟩
theorem RdV.set_ctype{c o s}(h:RdV c o s)(v:Nat):RdV (upd c (o+4) (.int .u32 v)) o {s with ctype:=v} :=
 ⟨un h.part,un h.taken,un h.number,un h.length,upd_same _ _ _,un h.sum,h.hd.congr uc,λa b=>un (h.raw a b),h.tl.congr uc,h.st.congr uc,h.rw.congr uc,un h.sp,un h.sc,un h.sd,un h.dov⟩
theorem RdV.set_sum{c o s}(h:RdV c o s)(v:Nat):RdV (upd c (o+5) (.int .u32 v)) o {s with sum:=v} :=
 ⟨un h.part,un h.taken,un h.number,un h.length,un h.ctype,upd_same _ _ _,h.hd.congr uc,λa b=>un (h.raw a b),h.tl.congr uc,h.st.congr uc,h.rw.congr uc,un h.sp,un h.sc,un h.sd,un h.dov⟩
theorem RdV.set_hd{c d o s}(h:RdV c o s)v(g:HdV d (o+6) v)(e:∀a,¬(o+6<=a/\a<o+11)->d a=c a):RdV d o {s with hd:=v} :=
 ⟨(e _ O).trans h.part,(e _ O).trans h.taken,(e _ O).trans h.number,(e _ O).trans h.length,(e _ O).trans h.ctype,(e _ O).trans h.sum,g,λa i=>(e _ O).trans (h.raw a i),h.tl.congr (λa b f=>e _ O),h.st.congr (λa b f=>e _ O),h.rw.congr (λa b f=>e _ O),(e _ O).trans h.sp,(e _ O).trans h.sc,(e _ O).trans h.sd,(e _ O).trans h.dov⟩
theorem RdV.set_raw{c o s}(h:RdV c o s)k(v:Nat)(e:k<13):RdV (upd c (o+11+k) (.int .u8 v)) o {s with raw:=upd s.raw k v} :=
 ⟨un h.part,un h.taken,un h.number,un h.length,un h.ctype,un h.sum,h.hd.congr uc,λa d=>by
  by_cases b:a=k
  .subst b;rw[upd_same];show _=Value.int .u8 ((upd s.raw a v a:Nat):Int);rw[upd_same]
  .rw[upd_ne _ _ _ O];show _=Value.int .u8 ((upd s.raw k v a:Nat):Int);rw[upd_ne _ _ _ b];exact h.raw a d,h.tl.congr uc,h.st.congr uc,h.rw.congr uc,un h.sp,un h.sc,un h.sd,un h.dov⟩
theorem RdV.set_tl{c d o s}(h:RdV c o s)v(g:TlV d (o+24) v)(e:∀a,¬(o+24<=a/\a<o+1050)->d a=c a):RdV d o {s with tl:=v} :=
 ⟨(e _ O).trans h.part,(e _ O).trans h.taken,(e _ O).trans h.number,(e _ O).trans h.length,(e _ O).trans h.ctype,(e _ O).trans h.sum,h.hd.congr (λa b f=>e _ O),λa i=>(e _ O).trans (h.raw a i),g,h.st.congr (λa b f=>e _ O),h.rw.congr (λa b f=>e _ O),(e _ O).trans h.sp,(e _ O).trans h.sc,(e _ O).trans h.sd,(e _ O).trans h.dov⟩
theorem RdV.set_st{c d o s}(h:RdV c o s)v(g:StV d (o+1050) v)(e:∀a,¬(o+1050<=a/\a<o+4401)->d a=c a):RdV d o {s with st:=v} :=
 ⟨(e _ O).trans h.part,(e _ O).trans h.taken,(e _ O).trans h.number,(e _ O).trans h.length,(e _ O).trans h.ctype,(e _ O).trans h.sum,h.hd.congr (λa b f=>e _ O),λa i=>(e _ O).trans (h.raw a i),h.tl.congr (λa b f=>e _ O),g,h.rw.congr (λa b f=>e _ O),(e _ O).trans h.sp,(e _ O).trans h.sc,(e _ O).trans h.sd,(e _ O).trans h.dov⟩
theorem RdV.set_rw{c d o s}(h:RdV c o s)v(g:RwV d (o+4401) v)(e:∀a,¬(o+4401<=a/\a<o+5950)->d a=c a):RdV d o {s with rw:=v} :=
 ⟨(e _ O).trans h.part,(e _ O).trans h.taken,(e _ O).trans h.number,(e _ O).trans h.length,(e _ O).trans h.ctype,(e _ O).trans h.sum,h.hd.congr (λa b f=>e _ O),λa i=>(e _ O).trans (h.raw a i),h.tl.congr (λa b f=>e _ O),h.st.congr (λa b f=>e _ O),g,(e _ O).trans h.sp,(e _ O).trans h.sc,(e _ O).trans h.sd,(e _ O).trans h.dov⟩
theorem RdV.set_sp{c o s}(h:RdV c o s)v:RdV (upd c (o+5950) (.bool v)) o {s with sp:=v} :=
 ⟨un h.part,un h.taken,un h.number,un h.length,un h.ctype,un h.sum,h.hd.congr uc,λa b=>un (h.raw a b),h.tl.congr uc,h.st.congr uc,h.rw.congr uc,upd_same _ _ _,un h.sc,un h.sd,un h.dov⟩
theorem RdV.set_sc{c o s}(h:RdV c o s)v:RdV (upd c (o+5951) (.bool v)) o {s with sc:=v} :=
 ⟨un h.part,un h.taken,un h.number,un h.length,un h.ctype,un h.sum,h.hd.congr uc,λa b=>un (h.raw a b),h.tl.congr uc,h.st.congr uc,h.rw.congr uc,un h.sp,upd_same _ _ _,un h.sd,un h.dov⟩
theorem RdV.set_sd{c o s}(h:RdV c o s)v:RdV (upd c (o+5952) (.bool v)) o {s with sd:=v} :=
 ⟨un h.part,un h.taken,un h.number,un h.length,un h.ctype,un h.sum,h.hd.congr uc,λa b=>un (h.raw a b),h.tl.congr uc,h.st.congr uc,h.rw.congr uc,un h.sp,un h.sc,upd_same _ _ _,un h.dov⟩
theorem RdV.set_dov{c o s}(h:RdV c o s)v:RdV (upd c (o+5953) (.bool v)) o {s with dov:=v} :=
 ⟨un h.part,un h.taken,un h.number,un h.length,un h.ctype,un h.sum,h.hd.congr uc,λa b=>un (h.raw a b),h.tl.congr uc,h.st.congr uc,h.rw.congr uc,un h.sp,un h.sc,un h.sd,upd_same _ _ _⟩
structure Dc where
 file:Rd
 count:Nat
 err:Nat
 at1:Nat
structure DcV (c:Nat->Value) (o:Nat) (s:Dc):Prop where
 file:RdV c (o) s.file
 count:c (o+5954)=.int .i64 (s.count:Int)
 err:c (o+5955)=.int .i64 (s.err:Int)
 at1:c (o+5956)=.int .i64 (s.at1:Int)
theorem DcV.set_file{c d o s}(h:DcV c o s)v(b:RdV d (o) v)(e:∀a,¬(o<=a/\a<o+5954)->d a=c a):DcV d o {s with file:=v} :=
 ⟨b,(e _ O).trans h.count,(e _ O).trans h.err,(e _ O).trans h.at1⟩
theorem DcV.set_count{c o s}(h:DcV c o s)(v:Nat):DcV (upd c (o+5954) (.int .i64 v)) o {s with count:=v} :=
 ⟨h.file.congr uc,upd_same _ _ _,un h.err,un h.at1⟩
theorem DcV.set_err{c o s}(h:DcV c o s)(v:Nat):DcV (upd c (o+5955) (.int .i64 v)) o {s with err:=v} :=
 ⟨h.file.congr uc,un h.count,upd_same _ _ _,un h.at1⟩
theorem DcV.set_at1{c o s}(h:DcV c o s)(v:Nat):DcV (upd c (o+5956) (.int .i64 v)) o {s with at1:=v} :=
 ⟨h.file.congr uc,un h.count,un h.err,upd_same _ _ _⟩
structure Blk (w:World) (b n:Nat) (c:Nat->Value):Prop where
 cell:∀i,i<n->w.cell? ⟨b,i,none⟩=some (c i)
 fz:∀i,w.frozen? ⟨b,i,none⟩=false
 lt:b<w.heap.size
theorem Blk.set{w b n c}(h:Blk w b n c){k}(g:k<n)v:Blk (w.setCell ⟨b,k,none⟩ v) b n (upd c k v) :=
 ⟨λa e=>by
  by_cases d:a=k
  .subst d;rw[upd_same];exact ai (h.cell a e) _
  .rw[upd_ne _ _ _ d,aa _ _ _ _ _ (λf=>d f.symm)];exact h.cell a e,λa=>by rw[Xy];exact h.fz a,by simpa[World.setCell] using h.lt⟩
theorem Blk.kept{w w' b n c}(h:Blk w b n c)(k:Kept w w'):Blk w' b n c:=
 ⟨λa d=>(k.cell (p:=⟨b,a,none⟩) h.lt).trans (h.cell a d),λa=>(k.frozen (p:=⟨b,a,none⟩) h.lt).trans (h.fz a),Xq h.lt k.size⟩
theorem Blk.fr{S:Nat->Prop}{w w' b n c}(h:Blk w b n c)(k:Fr S w w')(d:¬S b):Blk w' b n c:=
 ⟨λa e=>(k.cell h.lt d).trans (h.cell a e),λa=>(k.frozen h.lt d).trans (h.fz a),Xq h.lt k.size⟩
end Go.Proofs.YtgooinallljbpaaGreatDoor
namespace Px
def dst(a b:Nat):Nat:=if a<b then b-a else a-b
def near(l u c:Nat):Nat:=if dst u c<=dst l c/\dst u c<=dst (l+u) (2*c) then l else if dst l c<=dst (l+u) (2*c) then u else c
def gss(f l u c:Nat):Nat:=if f=1 then l else if f=2 then u else if f=3 then(l+u)/2 else if f=4 then near l u c else 0
theorem Lc{l u c}(a:l<256)(b:u<256)(d:c<256):near l u c<256:=by unfold near;split<;>(try split)<;>assumption
theorem IW{f l u c}(a:l<256)(b:u<256)(d:c<256):gss f l u c<256:=by
 unfold gss;split
 .exact a
 .split
  .exact b
  .split
   .omega
   .split
    .exact Lc a b d
    .omega
def chn(K:Nat):Nat:=if K=0 then 1 else if K=2 then 3 else if K=3 then 1 else if K=4 then 2 else if K=6 then 4 else 0
theorem ev K:chn K<=4:=by
 unfold chn
 (repeat' split)<;>omega
end Px
namespace Go.Proofs.YtgooinallljbpaaGreatDoor
open Go.RowKit Px Tryz
theorem Nd(a b:Nat)w(f:a<=1000)(g:b<=1000):Calls prog 193 #[.int .i64 a,.int .i64 b] w λd e=>d=.returned (.int .i64 (dst a b))/\e=w:=by
 unfold dst;by_cases c:a<b
 .rw[I c]
  go_enter func193,ntmps193;go_wp2;go_ret;exact⟨aj O,rfl⟩
 .rw[N c]
  have h:¬(a:Int)<(b:Int):=O;go_enter func193,ntmps193;go_wp2;go_ret;exact⟨aj O,rfl⟩
theorem MX(l a c:Nat)w(A:l<256)(B:a<256)(C:c<256):Calls prog 190 #[.int .u8 l,.int .u8 a,.int .u8 c] w λb d=>b=.returned (.int .u8 (near l a c))/\d=w:=by
 have n:Z (∀(g h:Nat),g<=1000->h<=1000->Calls prog 193 #[.int .i64 g,.int .i64 h] w λb d=>b=.returned (.int .i64 (dst g h))/\d=w):=λg h i j=>Nd g h w i j
 unfold near;have v:dst a c<=1000:=by unfold dst;split<;>omega
 have x:dst l c<=1000:=by unfold dst;split<;>omega
 have y:dst (l+a) (2*c)<=1000:=by unfold dst;split<;>omega
 obtain⟨k,i⟩:∃m,m=dst a c:=⟨_,rfl⟩;obtain⟨e,j⟩:∃m,m=dst l c:=⟨_,rfl⟩;obtain⟨f,q⟩:∃m,m=dst (l+a) (2*c):=⟨_,rfl⟩;have r:Z (Calls prog 193 #[.int .i64 a,.int .i64 c] w λb d=>b=.returned (.int .i64 k)/\d=w):=by rw[i];exact n.o a c O O
 have s:Z (Calls prog 193 #[.int .i64 l,.int .i64 c] w λb d=>b=.returned (.int .i64 e)/\d=w):=by rw[j];exact n.o l c O O
 have t:Z (Calls prog 193 #[.int .i64 ((l+a:Nat):Int),.int .i64 ((2*c:Nat):Int)] w λb d=>b=.returned (.int .i64 f)/\d=w):=by rw[q];exact n.o (l+a) (2*c) O O
 rw[<-i] at v ⊢;rw[<-j] at x ⊢;rw[<-q] at y ⊢;clear n i j q;have o:(l:Int)+(a:Int)=((l+a:Nat):Int):=O;have p:2*(c:Int)=((2*c:Nat):Int):=O;replace o:Z _:=o;replace p:Z _:=p;go_enter func190,ntmps190;go_wp2_with fail;refine r.o.mono ?_;rintro b u ⟨rfl,rfl⟩;go_wp2_with fail;refine s.o.mono ?_;rintro b u ⟨rfl,rfl⟩;go_wp2_with fail;rw[o.o,p.o];refine t.o.mono ?_;rintro b u ⟨rfl,rfl⟩;clear r s t o p;by_cases D:k<=e
 .by_cases E:k<=f
  .go_wp2
   go_ret;exact⟨rfl,rfl⟩
  .have F:¬(k:Int)<=(f:Int):=O
   have z:¬(e:Int)<=(f:Int):=O;go_wp2;go_ret;exact⟨rfl,rfl⟩
 .have G:¬(k:Int)<=(e:Int):=O
  by_cases H:e<=f
  .go_wp2
   go_ret;exact⟨rfl,rfl⟩
  .have z:¬(e:Int)<=(f:Int):=O
   go_wp2;go_ret;exact⟨rfl,rfl⟩
theorem Ok(f l b c:Nat)w(o:f<256)(i:l<256)(j:b<256)(k:c<256):Calls prog 187 #[.int .u8 f,.int .u8 l,.int .u8 b,.int .u8 c] w λg m=>g=.returned (.int .u8 (gss f l b c))/\m=w:=by
 have n:=U (MX l b c w i j k);unfold gss;by_cases a:f=1
 .subst a
  rw[I rfl];go_enter func187,ntmps187;go_wp2;go_ret;exact⟨rfl,rfl⟩
 by_cases d:f=2
 .subst d
  rw[N a,I rfl];go_enter func187,ntmps187;go_wp2;go_ret;exact⟨rfl,rfl⟩
 by_cases e:f=3
 .subst e
  rw[N a,N d,I rfl];go_enter func187,ntmps187;go_wp2;go_ret;exact⟨aj O,rfl⟩
 by_cases h:f=4
 .subst h
  rw[N a,N d,N e,I rfl];go_enter func187,ntmps187;go_wp2_with fail;refine n.o.mono ?_;rintro g p ⟨rfl,rfl⟩;go_wp2;go_ret;exact⟨rfl,rfl⟩
 rw[N a,N d,N e,N h];have q:((f:Int)==1)=false:=Xa;have r:((f:Int)==2)=false:=Xa;have s:((f:Int)==3)=false:=Xa;have t:((f:Int)==4)=false:=Xa;go_enter func187,ntmps187;go_wp2;go_ret;exact⟨rfl,rfl⟩
theorem kB(a:Nat)w(f:a<=255):Calls prog 121 #[.int .i64 a] w λb c=>b=.returned (.int .i64 (chn a))/\c=w:=by
 by_cases d:a=0\/a=2\/a=3\/a=4\/a=6
 .rcases d with rfl|rfl|rfl|rfl|rfl
  all_goals
   go_enter func121,ntmps121;go_wp2;go_ret;exact⟨rfl,rfl⟩
 .have e:chn a=0:=by unfold chn;rw[N,N,N,N,N]
  rw[e];have g:((a:Int)==0)=false:=Xa;have h:((a:Int)==2)=false:=Xa;have i:((a:Int)==3)=false:=Xa;have j:((a:Int)==4)=false:=Xa;have k:((a:Int)==6)=false:=Xa;go_enter func121,ntmps121;go_wp2;go_ret;exact⟨rfl,rfl⟩
structure gE (r:Rw):Prop where
 W:r.hd.W<=16
 H:r.hd.H<=16
 D:r.hd.D<=16
 K:r.hd.K<=6
 L:r.hd.L<=1
 filter:r.filter<256
 row:∀i,r.row i<256
 above:∀i,r.above i<256
theorem Blk.at{w b n c}(h:Blk w b n c){i v}(a:i<n)(e:c i=v):w.cell? ⟨b,i,none⟩=some v:=by rw[h.cell i a,e]
def bo(h:Hd):Nat:=chn h.K*h.D
def bZ(h:Hd):Nat:=max 1 (bo h/8)
theorem lH{r}(h:gE r):bo r.hd<=64:=XF (ev _) h.D
theorem rP b o n c r w(e:Blk w b n c)(f:RwV c o r)(v:o+1549<=n)(g:gE r):Calls prog 145 #[.pointer (some ⟨b,o,none⟩)] w λa h=>a=.returned (.int .i64 (bo r.hd))/\∃p,h=w.drewN p:=by
 have x:=e.at (i:=o+3) O f.hd.K;have y:=e.at (i:=o+2) O f.hd.D;have q:Z (∀d:World,Calls prog 121 #[.int .i64 r.hd.K] d λa h=>a=.returned (.int .i64 (chn r.hd.K))/\h=d):=λd=>kB _ d (by have:=g.K;omega)
 have s:=ev r.hd.K;have t:=g.D;unfold bo;generalize chn r.hd.K=l at *;generalize r.hd.D=m at *;generalize r.hd.K=z at *;have u:=XF s t;obtain⟨j,k⟩:∃j,j=l*m:=⟨_,rfl⟩;have a:(l:Int)*(m:Int)=(j:Int):=by rw[k];simp
 rw[<-k] at u ⊢;clear k;clear e f g;go_enter func145,ntmps145;go_wp2_with fail;go_quiet ((go_at_call 121;exact Xu (q.o _)))
 go_wp2;go_ret;exact⟨aj O,_,rfl⟩
theorem MF b o n c r w(e:Blk w b n c)(f:RwV c o r)(h:o+1549<=n)(a:gE r):Calls prog 186 #[.pointer (some ⟨b,o,none⟩)] w λg i=>g=.returned (.int .i64 (bZ r.hd))/\∃d,i=w.drewN d:=by
 have j:=U (rP b o n c r w e f h a);have l:=lH a;unfold bZ;generalize bo r.hd=m at *;clear e f a;go_enter func186,ntmps186;go_wp2_with fail;refine j.o.mono ?_;rintro g k ⟨rfl,d,p⟩;subst k;go_wp2
 all_goals
  go_ret;exact⟨aj O,d,rfl⟩
def aq(L:Nat):Nat:=if L=1 then 7 else 1
theorem yO(a:Nat)w:Calls prog 116 #[.int .i64 a] w λc d=>c=.returned (.int .i64 (aq a))/\d=w:=by
 unfold aq;by_cases b:a=1
 .subst b
  rw[I rfl];go_enter func116,ntmps116;go_wp2;go_ret;exact⟨rfl,rfl⟩
 .rw[N b]
  have e:((a:Int)==1)=false:=Xa;go_enter func116,ntmps116;go_wp2;go_ret;exact⟨rfl,rfl⟩
def aW(r:Rw):Bool:=decide ((aq r.hd.L:Int)<=r.pass)
theorem CU b o n c r w(d:Blk w b n c)(e:RwV c o r)(k:o+1549<=n):Calls prog 127 #[.pointer (some ⟨b,o,none⟩)] w λf g=>f=.returned (.bool (aW r))/\∃h,g=w.drewN h:=by
 have l:=d.at (i:=o+4) O e.hd.L;have m:=d.at (i:=o+6) O e.pass;have j:Z (∀a:World,Calls prog 116 #[.int .i64 r.hd.L] a λf g=>f=.returned (.int .i64 (aq r.hd.L))/\g=a):=λa=>yO _ a
 unfold aW;generalize aq r.hd.L=p at *;generalize r.hd.L=q at *;generalize r.pass=s at *;clear d e;go_enter func127,ntmps127;go_wp2_with fail;go_quiet ((go_at_call 116;exact Xu (j.o _)))
 go_wp2;go_ret;exact⟨bh Xi,_,rfl⟩
theorem yu(x y:Nat)w(j:x<=1000)(k:y<=1000):Calls prog 113 #[.int .i64 x,.int .i64 y] w λd g=>d=.returned (.tuple #[.int .i64 (if x<16/\y<16 then(y*16+x:Nat) else 0:Int),.bool (decide (x<16/\y<16))])/\g=w:=by
 by_cases b:x<16
 .by_cases c:y<16
  .rw[I ⟨b,c⟩,K (⟨b,c⟩:x<16/\y<16)]
   have e:¬(x:Int)<0:=O;have h:¬(y:Int)<0:=O;have f:¬(16:Int)<=(x:Int):=O;have i:¬(16:Int)<=(y:Int):=O;go_enter func113,ntmps113;go_wp2;go_ret2;refine⟨?_,rfl⟩;have d:(y:Int)*16+(x:Int)=((y*16+x:Nat):Int):=O;rw[d];rfl
  .rw[N (λa=>c a.2),J (λa:x<16/\y<16=>c a.2)]
   have e:¬(x:Int)<0:=O;have h:¬(y:Int)<0:=O;have f:¬(16:Int)<=(x:Int):=O;have i:(16:Int)<=(y:Int):=O;go_enter func113,ntmps113;go_wp2;go_ret2;exact⟨rfl,rfl⟩
 .rw[N (λa=>b a.1),J (λa:x<16/\y<16=>b a.1)]
  have e:¬(x:Int)<0:=O;have f:(16:Int)<=(x:Int):=O;go_enter func113,ntmps113;go_wp2;go_ret2;exact⟨rfl,rfl⟩
def lI(x a n:Nat):Nat:=x/2^(8-a-n)%2^n
theorem AM x a n:lI x a n<2^n:=YD _ (Nat.two_pow_pos n)
theorem u16_and(a n:Nat)(h:a<65536)(b:n<=8):bits .and .u16 (a:Int) ((2^n-1:Nat):Int)=((a%2^n:Nat):Int):=by
 have e:=XH (n:=2) O b;show IntKind.u16.wrap ((BitVec.ofInt 16 (a:Int) &&& BitVec.ofInt 16 ((2^n-1:Nat):Int)).toNat:Int)=_
 have c:(BitVec.ofInt 16 (a:Int)).toNat=a:=by rw[XT,X0];exact X1 O
 have d:(BitVec.ofInt 16 ((2^n-1:Nat):Int)).toNat=2^n-1:=by rw[XT,X0];exact X1 O
 rw[Zn,c,d,Zm]
 have:a%2^n<65536:=Zh (Zg _ _) h
 rw[IntKind.wrap_u16];omega
theorem JH(x a n:Nat)w(h:x<256)(i:a+n<=8):Calls prog 194 #[.int .u8 x,.int .i64 a,.int .i64 n] w λc d=>c=.returned (.int .u16 (lI x a n))/\d=w:=by
 have j:¬(a:Int)<0:=O;have k:¬(n:Int)<0:=O;have l:¬(8:Int)<(a:Int)+(n:Int):=O;have b:n<=8:=O;have m:a<=8:=O;go_enter func194,ntmps194;go_wp2;go_ret;refine⟨aj ?_,rfl⟩;have o:=XH (n:=2) O b;have p:1<=2^n:=Nat.one_le_two_pow;have e:(2:Int)^n=((2^n:Nat):Int):=Xi;have f:(x:Int)/2^(8-a-n)=((x/2^(8-a-n):Nat):Int):=Xi;have g:IntKind.u16.wrap (IntKind.u16.wrap (2^n)-1)=((2^n-1:Nat):Int):=by
  rw[e,IntKind.wrap_u16,IntKind.wrap_u16];omega
 show bits .and .u16 ((x:Int)/2^(8-a-n)) (IntKind.u16.wrap (IntKind.u16.wrap (2^n)-1))=_
 rw[f,g,u16_and _ _ (Zh (Yz _ _) O) b];rfl
def cG(r:Rw)(i:Nat):Nat:=if r.hd.D<16 then lI (r.row (i*r.hd.D/8)) (i*r.hd.D%8) r.hd.D else 256*r.row (i*r.hd.D/8)+r.row (i*r.hd.D/8+1)
def okD(D:Nat):Prop:=D=1\/D=2\/D=4\/D=8\/D=16
theorem u16_or8(a c:Nat)(h:a<256)(j:c<256):bits .or .u16 ((a:Int)*256) (c:Int)=((256*a+c:Nat):Int):=by
 show IntKind.u16.wrap ((BitVec.ofInt 16 ((a:Int)*256) ||| BitVec.ofInt 16 (c:Int)).toNat:Int)=_
 have d:(a:Int)*256=((a*256:Nat):Int):=O;have e:(BitVec.ofInt 16 ((a:Int)*256)).toNat=a*256:=by rw[d,XT,X0];exact X1 O
 have f:(BitVec.ofInt 16 (c:Int)).toNat=c:=by rw[XT,X0];exact X1 O
 have g:a*256 ||| c=256*a+c:=by
  have:=YW (b:=c) (i:=8) O a
  rw[Nat.shiftLeft_eq,show(2^8:Nat)=256 from rfl] at this;omega
 rw[BitVec.toNat_or,e,f,g,IntKind.wrap_u16];omega
theorem zH b o n i c r w(h:Blk w b n c)(j:RwV c o r)(a0:o+1549<=n)(k:gE r)(t:okD r.hd.D)(B:i*r.hd.D+r.hd.D<=1024)(a1:i<=1024):Calls prog 191 #[.pointer (some ⟨b,o,none⟩),.int .i64 i] w λu v=>u=.returned (.int .u16 (cG r i))/\∃G,v=w.drewN G:=by
 have H:=h.at (i:=o+2) O j.hd.D;have J:=k.D;unfold cG;obtain⟨e,x⟩:∃e,e=r.hd.D:=⟨_,rfl⟩;rw[<-x] at H J t B ⊢;obtain⟨d,l⟩:∃d,d=i*e:=⟨_,rfl⟩;have a2:(i:Int)*(e:Int)=(d:Int):=by rw[l];simp
 rw[<-l] at B ⊢;have y:r.row (d/8)<256:=k.row _;have z:r.row (d/8+1)<256:=k.row _;have a3:1<=e:=by unfold okD at t;omega
 have C:d/8<128:=O;have K:=h.at (i:=o+13+d/8) O (j.row (d/8) C);have L:(d:Int)/8=((d/8:Nat):Int):=O;have M:(d:Int)%8=((d%8:Nat):Int):=O;obtain⟨a,A⟩:∃a,a=d/8:=⟨_,rfl⟩;obtain⟨g,m⟩:∃g,g=d%8:=⟨_,rfl⟩;rw[<-A] at y z C K L ⊢;rw[<-m] at M ⊢;have a4:¬(a:Int)<0:=O;have a5:¬(128:Int)<=(a:Int):=O;have a6:(0:Int)<=(a:Int):=O;have a7:(a:Int)<128:=O;by_cases D:e<16
 .have P:g+e<=8:=by
   rw[m,l];rcases t with f|f|f|f|f
   .omega
   .rw[f];omega
   .rw[f];omega
   .rw[f];omega
   .omega
  have Q:Z (∀p:World,Calls prog 194 #[.int .u8 (r.row a),.int .i64 g,.int .i64 e] p λu v=>u=.returned (.int .u16 (lI (r.row a) g e:Int))/\v=p):=λp=>JH _ _ _ p y P
  rw[I D];generalize r.row a=E at *;have R:(e:Int)<16:=O;generalize lI E g e=a8 at *;clear h j k l A m x;go_enter func191,ntmps191;go_wp2_with fail;go_quiet ((go_at_call 194;exact Xu (Q.o _)))
  go_wp2;go_ret;exact⟨rfl,_,rfl⟩
 .have S:e=16:=O
  have R:¬(e:Int)<16:=O;have T:a+1<128:=O;have U:=h.at (i:=o+13+(a+1)) O (j.row (a+1) T);have V:(a:Int)+1=((a+1:Nat):Int):=O;have W:¬(128:Int)<=((a+1:Nat):Int):=O;have X:((a+1:Nat):Int)<128:=O;have Y:(0:Int)<=((a+1:Nat):Int):=O;obtain⟨q,F⟩:∃q,q=a+1:=⟨_,rfl⟩;rw[<-F] at U V W X Y z ⊢;rw[N D];have s:=u16_or8 (r.row a) (r.row q) y z;generalize r.row a=E at *;generalize r.row q=a9 at *;replace s:Z _:=s;clear h j k l A m x F S;go_enter func191,ntmps191;go_wp2_with fail;go_quiet (fail);go_wp2;go_ret;exact⟨aj (by first|exact s.o|(rw[<-s.o])),_,rfl⟩
def lx(r:Rw)(i:Nat):Nat:=if bZ r.hd<=i then r.row (i-bZ r.hd) else 0
def lE(r:Rw)(i:Nat):Nat:=if bZ r.hd<=i then r.above (i-bZ r.hd) else 0
def zn(r:Rw)(i x:Nat):Nat:=(x+gss r.filter (lx r i) (r.above i) (lE r i))%256
def Rw.lay(r:Rw)(i x:Nat):Rw:={r with row:=upd r.row i (zn r i x)}
structure FrC (b lo hi:Nat) (c d:Nat->Value):Prop where
 o:∀i,¬(lo<=i/\i<hi)->d i=c i
theorem FrC.refl b lo hi c:FrC b lo hi c c:=⟨λ_ _=>rfl⟩
theorem FrC.trans{b lo a c d e}(h:FrC b lo a c d)(k:FrC b lo a d e):FrC b lo a c e:=⟨λf a=>(k.o f a).trans (h.o f a)⟩
theorem FrC.mono{b lo hi lo' hi' c d}(h:FrC b lo hi c d)(f:lo'<=lo)(g:hi<=hi'):FrC b lo' hi' c d:=⟨λa e=>h.o a (λi=>e ⟨O,O⟩)⟩
theorem FrC.upd{b lo hi k:Nat}{c:Nat->Value}(v:Value)(h1:lo<=k)(h2:k<hi):FrC b lo hi c (upd c k v):=⟨λi q=>upd_ne _ _ _ (λe=>q ⟨om,om⟩)⟩
def eM(b o n:Nat)(c:Nat->Value)(r':Rw)(w w':World):Prop:=∃d,Blk w' b n d/\RwV d o r'/\FrC b o (o+1549) c d/\Fr1 b w w'
theorem DJ{b o n i x c r w w1 Z}(a:Blk w1 b n c)(d:RwV c o r)(h:o+1549<=n)(e:i<128)(f:Kept w w1)(g:Z=(zn r i x:Int)):eM b o n c (r.lay i x) w (w1.setCell ⟨b,o+13+i,none⟩ (.int .u8 Z)).drew:=by
 subst g;refine⟨_,(a.set (by omega:o+13+i<n) _).kept ((Kept.refl _).drewN 1),d.set_row i _ e,FrC.upd _ O O,?_⟩;exact Fr1.drewN (Fr1.set (Fr.of_kept f) _ _) 1
theorem Dg(a:Nat):IntKind.u8.wrap (a:Int)=((a%256:Nat):Int):=by rw[IntKind.wrap_u8];omega
theorem Oi(b a n i x:Nat)c r w(L:Blk w b n c)(M:RwV c a r)(P:a+1549<=n)(h:gE r)(E:i<128)(b4:x<256):Calls prog 181 #[.pointer (some ⟨b,a,none⟩),.int .i64 i,.int .u8 x] w λe m=>e=.returned (.tuple #[])/\eM b a n c (r.lay i x) w m:=by
 have Q:Z (Calls prog 186 #[.pointer (some ⟨b,a,none⟩)] w λe m=>e=.returned (.int .i64 (bZ r.hd))/\Kept w m):=(MF b a n c r w L M P h).mono (λe m ⟨a1,b5,a2⟩=>⟨a1,by rw[a2];exact(Kept.refl _).drewN _⟩);have T:Z _:=L;have j:Z _:=M;have a3:1<=bZ r.hd/\bZ r.hd<=8:=by
  have:=lH h
  unfold bZ;omega
 have s:lx r i<256:=by unfold lx;split;exact h.row _;omega
 have t:lE r i<256:=by unfold lE;split;exact h.above _;omega
 have a4:=h.filter;have V:=h.above i;have o:Z (∀F:World,Calls prog 187 #[.int .u8 r.filter,.int .u8 (lx r i),.int .u8 (r.above i),.int .u8 (lE r i)] F λe m=>e=.returned (.int .u8 (gss r.filter (lx r i) (r.above i) (lE r i):Int))/\m=F):=λF=>Ok _ _ _ _ F a4 s V t
 have u:Z (zn r i x=(x+gss r.filter (lx r i) (r.above i) (lE r i))%256):=rfl;have R:=IW (f:=r.filter) s V t;obtain⟨d,k⟩:∃d,d=bZ r.hd:=⟨_,rfl⟩;rw[<-k] at Q a3;have b6:¬(i:Int)<0:=O;have b7:¬(128:Int)<=(i:Int):=O;have b8:(0:Int)<=(i:Int):=O;have b9:(i:Int)<128:=O;clear L M h;go_enter func181,ntmps181;go_wp2_with fail;refine Q.o.mono ?_;rintro e a5 ⟨rfl,S⟩;have g:Z _:=T.o.kept S;have W:Z (Kept w a5):=S;clear S Q T;have G:=g.o.at (i:=a+12) O j.o.filter;have H:=g.o.at (i:=a+141+i) O (j.o.above i E);have c0:=g.o.at (i:=a+13+i) O (j.o.row i E);have c1:=g.o.fz (a+13+i);generalize J:zn r i x=c2 at *;replace J:Z _:=J;by_cases K:d<=i
 .have a6:=g.o.at (i:=a+13+(i-d)) O (j.o.row (i-d) O)
  have a7:=g.o.at (i:=a+141+(i-d)) O (j.o.above (i-d) O);have p:lx r i=r.row (i-d):=by unfold lx;rw[<-k,I K]
  have q:lE r i=r.above (i-d):=by unfold lE;rw[<-k,I K]
  have a8:(i:Int)-(d:Int)=((i-d:Nat):Int):=O;rw[p,q] at o u R;rw[p] at s;rw[q] at t;clear p q;obtain⟨l,X⟩:∃l,l=i-d:=⟨_,rfl⟩;rw[<-X] at a6 a7 a8 o u R s t;have a9:¬(128:Int)<=(l:Int):=O;have c3:(0:Int)<=(l:Int):=O;have c4:(l:Int)<128:=O;clear X k;generalize Y:r.row l=b0 at *;generalize a0:r.above l=b1 at *;generalize v:r.filter=y at *;generalize z:r.above i=A at *;generalize B:gss y b0 A b1=C at *;replace Y:Z _:=Y;replace a0:Z _:=a0;replace v:Z _:=v;replace z:Z _:=z;replace B:Z _:=B;go_wp2_with fail;go_region_held3 (λD=>D.cell? ⟨b,a+12,none⟩=some (.int .u8 y)/\D.cell? ⟨b,a+141+i,none⟩=some (.int .u8 A)) (first|exact⟨G,H⟩|exact⟨(aa _ _ _ _ _ O).trans G,(aa _ _ _ _ _ O).trans H⟩|go_keep) ((go_at_call 187;refine(o.o _).mono ?_;rintro e b2 ⟨rfl,rfl⟩))
  go_wp2_with fail;go_end0
  refine⟨rfl,DJ g.o j.o P E W.o ?_⟩;rw[J.o,u.o,show(x:Int)+(C:Int)=((x+C:Nat):Int) from O,Dg]
 .have p:lx r i=0:=by unfold lx;rw[<-k,N K]
  have q:lE r i=0:=by unfold lE;rw[<-k,N K]
  rw[p,q] at o u R;clear p q s t;have a9:¬(0:Int)<=(i:Int)-(d:Int):=O;clear k;generalize v:r.filter=y at *;generalize z:r.above i=A at *;generalize B:gss y 0 A 0=C at *;replace v:Z _:=v;replace z:Z _:=z;replace B:Z _:=B;have b3:=U o;clear o;go_wp2_with fail;go_region_held3 (λD=>D.cell? ⟨b,a+12,none⟩=some (.int .u8 y)/\D.cell? ⟨b,a+141+i,none⟩=some (.int .u8 A)) (first|exact⟨G,H⟩|exact⟨(aa _ _ _ _ _ O).trans G,(aa _ _ _ _ _ O).trans H⟩|go_keep) ((go_at_call 187;refine(b3.o _).mono ?_;rintro e b2 ⟨rfl,rfl⟩))
  go_wp2_with fail;go_end0
  refine⟨rfl,DJ g.o j.o P E W.o ?_⟩;rw[J.o,u.o,show(x:Int)+(C:Int)=((x+C:Nat):Int) from O,Dg]
end Go.Proofs.YtgooinallljbpaaGreatDoor
namespace Go.Proofs.YtgooinallljbpaaGreatDoor
open Go.RowKit Tryz
theorem IM{k m}{c:List Value}{n}(i:c.length=n)(h:∀j,j<n->∃a:Int,0<=a/\a<m/\c[j]? = some (.int k a)):∀d∈c,d.oneCell'=true:=by
 intro d e;obtain⟨j,f,g⟩:=List.getElem_of_mem e;obtain⟨a,_,_,b⟩:=h j O;rw[Xt f] at b
 injection b with b
 rw[<-g,b];rfl
theorem dU{w:World}{b o n}(h:w.there b o n){c k}u(i:c≠b):(w.setCell ⟨c,k,none⟩ u).there b o n:=by
 intro a d;obtain⟨e,f⟩:=h a d;exact⟨by rw[Yl _ _ _ _ (by intro g;injection g;omega)];exact e,by rw[Xy];exact f⟩
theorem ar{P fn p ty}(h:fn.results=#[.cell p ty])tmps w b o v(a:tmps.getD p undef=.pointer (some ⟨b,o,none⟩))(c:(loadVar ty ⟨b,o,none⟩).run P w=.ok v w):(results fn tmps).run P w=.ok v w:=by
 have d:tmps[p]?.getD undef=.pointer (some ⟨b,o,none⟩):=by simpa using a
 simp[results,h,d,asAddr,Sem.run_bind,Result.andThen,c]
theorem Kept.setCells{x b}(c:x.heap.size<=b):∀(d:List Value) (a:Nat) {y:World},Kept x y->Kept x (y.setCells b a d)
 | [],_,_,h=>h
 | v::e,a,_,h=>Kept.setCells c e (a+1) (h.setCell c _)
end Go.Proofs.YtgooinallljbpaaGreatDoor
namespace Px
def grd:List Nat:=[0,0,8,8,8,8,4,0,8,8,4,8,0,4,4,8,4,4,2,0,4,4,2,4,0,2,2,4,2,2,1,0,2,2,1,2,0,1,1,2,1,1]
def dG(j:Nat):Nat:=grd.getD j 0
structure Ps where
 cf:Nat
 cs:Nat
 cb:Nat
 rf:Nat
 rs:Nat
 rb:Nat
def ah(L k:Nat):Ps:=if L=1/\k<7 then⟨dG (6*k),dG (6*k+2),dG (6*k+4),dG (6*k+1),dG (6*k+3),dG (6*k+5)⟩ else⟨0,1,1,0,1,1⟩
theorem bK L k:(ah L k).cf<=4/\1<=(ah L k).cs/\(ah L k).cs<=8/\(ah L k).cb<=8/\(ah L k).rf<=4/\1<=(ah L k).rs/\(ah L k).rs<=8/\(ah L k).rb<=8:=by
 unfold ah;split
 .rename_i a
  obtain⟨_,a⟩:=a
  have:∀k,k<7->(dG (6*k)<=4/\1<=dG (6*k+2)/\dG (6*k+2)<=8/\dG (6*k+4)<=8/\dG (6*k+1)<=4/\1<=dG (6*k+3)/\dG (6*k+3)<=8/\dG (6*k+5)<=8):=Xh
  exact this k a
 .simp
end Px
namespace Go.Proofs.YtgooinallljbpaaGreatDoor
open Go.RowKit Px Tryz
def bJ(w:World):Prop:=∀j,j<42->w.cell? ⟨0,j,none⟩=some (.int .i64 (dG j))
theorem bJ.kept{w w'}(h:bJ w)(k:Kept w w'):bJ w':=λa b=>(k.cell (p:=⟨0,a,none⟩) (B _ _ (h a b))).trans (h a b)
theorem bJ.fr{S:Nat->Prop}{w w'}(h:bJ w)(k:Fr S w w')(c:¬S 0):bJ w':=λa b=>(k.cell (B _ _ (h a b)) c).trans (h a b)
def psV(p:Ps):Value := .agg #[.int .i64 (p.cf:Int),.int .i64 (p.cs:Int),.int .i64 (p.cb:Int),.int .i64 (p.rf:Int),.int .i64 (p.rs:Int),.int .i64 (p.rb:Int)]
theorem BV(c k:Nat)w(A:c<=1)(C:k<=1000)(g:bJ w):Calls prog 117 #[.int .i64 c,.int .i64 k] w λm n=>m=.returned (psV (ah c k))/\Kept w n:=by
 have h:(prog.info? 180).map (·.size)=some 6:=Xk;by_cases i:c=1/\k<7
 .have d:∀(a:Nat),a<6->(∀b,(w.alloc b).cell? ⟨0,k*6+a,none⟩=some (.int .i64 (dG (6*k+a):Int)))/\(∀b j,((w.alloc b).alloc j).cell? ⟨0,k*6+a,none⟩=some (.int .i64 (dG (6*k+a):Int))):=λa D=>by
   have l:w.cell? ⟨0,k*6+a,none⟩=some (.int .i64 (dG (6*k+a):Int)):=by
    have:=g (6*k+a) O
    rw[show k*6+a=6*k+a from O];exact this
   have e:∀b,(w.alloc b).cell? ⟨0,k*6+a,none⟩=some (.int .i64 (dG (6*k+a):Int)):=λb=>by rw[YG _ _ _ (B _ _ l)];exact l
   exact⟨e,λb j=>by rw[YG _ _ _ (B _ _ (e b))];exact e b⟩
  obtain⟨o,p⟩:=d 0 O;obtain⟨F,G⟩:=d 1 O;obtain⟨H,J⟩:=d 2 O;obtain⟨K,L⟩:=d 3 O;obtain⟨M,P⟩:=d 4 O;obtain⟨Q,R⟩:=d 5 O;have f:Z (ah c k=⟨dG (6*k),dG (6*k+2),dG (6*k+4),dG (6*k+1),dG (6*k+3),dG (6*k+5)⟩):=by unfold ah;exact I i
  rw[f.o];clear f;simp only[X5] at o p;generalize dG (6*k)=q at *;generalize dG (6*k+1)=r at *;generalize dG (6*k+2)=s at *;generalize dG (6*k+3)=t at *;generalize dG (6*k+4)=u at *;generalize dG (6*k+5)=x at *;obtain⟨rfl,S⟩:=i;have y:¬(k:Int)<0:=O;have z:¬(7:Int)<=(k:Int):=O;have T:(0:Int)<=(k:Int):=O;have U:(k:Int)<7:=O;clear d g;go_enter func117,ntmps117;go_wp2;refine XA (v := .agg #[.int .i64 q,.int .i64 s,.int .i64 u,.int .i64 r,.int .i64 t,.int .i64 x]) (ar rfl _ _ w.heap.size 0 _ rfl ?_) rfl ?_
  .refine run_loadVar_row _ _ 180 180 _ (0,0) _ ?_ underlying180 rfl h
   rw[heap_alloc_old _ _ Xi];exact heap_alloc_new _ _
  .exact⟨rfl,Xw (Xw (Xs _ _) (E _) _) Xi _⟩
 .have f:Z (ah c k=⟨0,1,1,0,1,1⟩):=by unfold ah;exact N i
  rw[f.o];clear f g;by_cases e:c=1
  .subst e
   have z:(7:Int)<=(k:Int):=O;have y:¬(k:Int)<0:=O;go_enter func117,ntmps117;go_wp2;refine XA (v := .agg #[.int .i64 0,.int .i64 1,.int .i64 1,.int .i64 0,.int .i64 1,.int .i64 1]) (ar rfl _ _ w.heap.size 0 _ rfl ?_) rfl ?_
   .refine run_loadVar_row _ _ 180 180 _ (0,0) _ ?_ underlying180 rfl h
    exact heap_alloc_new _ _
   .exact⟨rfl,Xw (Xs _ _) (E _) _⟩
  .have V:((c:Int)!=1)=true:=by rw[XJ];omega
   go_enter func117,ntmps117;go_wp2;refine XA (v := .agg #[.int .i64 0,.int .i64 1,.int .i64 1,.int .i64 0,.int .i64 1,.int .i64 1]) (ar rfl _ _ w.heap.size 0 _ rfl ?_) rfl ?_
   .refine run_loadVar_row _ _ 180 180 _ (0,0) _ ?_ underlying180 rfl h
    exact heap_alloc_new _ _
   .exact⟨rfl,Xw (Xs _ _) (E _) _⟩
def bq(f s n:Nat):Nat:=if n<=f then 0 else(n-f-1)/s+1
theorem ed{f s n}(a:1<=s)(b:n<=16):bq f s n<=16:=by
 unfold bq;split
 .omega
 .have:(n-f-1)/s<=n-f-1:=Yz _ _
  omega
theorem Gx(f s q n:Nat)w(e:f<=8)(g:1<=s)(h:s<=8)(i:n<=16):Calls prog 144 #[.agg #[.int .i64 f,.int .i64 s,.int .i64 q],.int .i64 n] w λa c=>a=.returned (.int .i64 (bq f s n))/\Kept w c:=by
 have j:(1:Int)<=(s:Int):=O;by_cases b:n<=f
 .have d:(n:Int)<=(f:Int):=O
  unfold bq;rw[I b];go_enter func144,ntmps144;go_wp2;go_ret;exact⟨rfl,Xw (Xs _ _) (E _) _⟩
 .have d:¬(n:Int)<=(f:Int):=O
  unfold bq;rw[N b];have k:¬(s=0):=O;have a:((n:Int)-(f:Int)-1).tdiv (s:Int)=(((n-f-1)/s:Nat):Int):=by
   rw[show(n:Int)-(f:Int)-1=((n-f-1:Nat):Int) from O,XZ O];exact(YB _ _).symm
  have l:((n:Int)-(f:Int)-1)/(s:Int)=(((n-f-1)/s:Nat):Int):=by
   rw[show(n:Int)-(f:Int)-1=((n-f-1:Nat):Int) from O];exact(YB _ _).symm
  have m:(n-f-1)/s<=16:=Xz (Yz _ _) O;generalize (n-f-1)/s=o at *;go_enter func144,ntmps144;go_wp2;go_ret;exact⟨aj O,Xw (Xs _ _) (E _) _⟩
theorem Dy(f s q i:Nat)w(j:f<=8)(c:s<=8)(d:i<=1000):Calls prog 192 #[.agg #[.int .i64 f,.int .i64 s,.int .i64 q],.int .i64 i] w λe g=>e=.returned (.int .i64 ((f+i*s:Nat):Int))/\Kept w g:=by
 have h:=XF d c;obtain⟨a,b⟩:∃a,a=i*s:=⟨_,rfl⟩;have k:(i:Int)*(s:Int)=(a:Int):=by rw[b];simp
 rw[<-b] at h ⊢;clear b;go_enter func192,ntmps192;go_wp2;go_ret;exact⟨aj O,Xw (Xs _ _) (E _) _⟩
def wm(r:Rw):Bool:=(List.range r.columns).all (λi=>decide (cG r i<r.colours))
theorem E6{r}(h:∀a,a<r.columns->cG r a<r.colours):wm r=true:=by
 unfold wm;rw[Za];intro a b;exact K (h a (Yi.1 b))
theorem Ck{r i}(a:i<r.columns)(h:¬cG r i<r.colours):wm r=false:=by
 unfold wm;rw[<-Bool.not_eq_true,Za];intro b;exact h (Yr (b i (Yi.2 a)))
theorem Dp{r}(a:gE r)i:cG r i<65536:=by
 unfold cG;split
 .have:=AM (r.row (i*r.hd.D/8)) (i*r.hd.D%8) r.hd.D
  have b:2^r.hd.D<=2^16:=XH O a.D;omega
 .have:=a.row (i*r.hd.D/8)
  have:=a.row (i*r.hd.D/8+1)
  omega
structure ts (r:Rw):Prop where
 ok:gE r
 dd:okD r.hd.D
 col:r.columns<=16
 lns:r.lines<=16
 line:r.line<=16
 fit:r.columns*bo r.hd<=1024
 size:r.size<=128
 taken:r.taken<=129
 pass0:0<=r.pass
 pass7:r.pass<=7
 colours:r.colours<=256
theorem M6 b o n c r w(k:Blk w b n c)(l:RwV c o r)(z:o+1549<=n)(g:ts r):Calls prog 188 #[.pointer (some ⟨b,o,none⟩)] w λi j=>i=.returned (.bool (wm r))/\Kept w j:=by
 have L:=g.col;have A:Z (∀(d:World) (a:Nat),Kept w d->a<r.columns->Calls prog 191 #[.pointer (some ⟨b,o,none⟩),.int .i64 a] d λi j=>i=.returned (.int .u16 (cG r a))/\∃e,j=d.drewN e):=λd a h M=>by
  have B:(a+1)*r.hd.D<=16*16:=XF O g.ok.D;rw[YO] at B;exact zH b o n a c r d (k.kept h) l z g.ok g.dd O O
 have C:Z (∀d,Kept w d->d.cell? ⟨b,o+8,none⟩=some (.int .i64 r.columns)/\d.cell? ⟨b,o+5,none⟩=some (.int .i64 r.colours)):=λd h=>⟨(k.kept h).at O l.columns,(k.kept h).at O l.colours⟩
 have D:Z _:=Dp g.ok;clear k l g;go_enter func188,ntmps188;go_wp2_with fail;go_loopg [3] r.columns (λh E F=>∃a:Nat,E=.int .i64 a/\a<=r.columns/\h=r.columns-a/\(∀f,f<a->cG r f<r.colours)/\Kept w F)
 case atStart=>exact⟨0,rfl,O,O,λf q=>O,Kept.refl _⟩
 case round=>
  obtain⟨a,rfl,N,s,m,t⟩:=hrel;obtain⟨P,Q⟩:=C.o wr t;have p:Z (Kept w wr):=t;replace m:Z _:=m;replace s:Z _:=s;clear t;by_cases v:a<r.columns
  .have G:(a:Int)<(r.columns:Int):=O
   have x:Z (∀e,Calls prog 191 #[.pointer (some ⟨b,o,none⟩),.int .i64 a] (wr.drewN e) λi j=>i=.returned (.int .u16 (cG r a))/\∃H,j=(wr.drewN e).drewN H):=λe=>A.o _ a (p.o.drewN e) v
   have R:=D.o a;by_cases y:cG r a<r.colours
   .have I:¬(r.colours:Int)<=(cG r a:Int):=O
    have J:Z (∀f,f<a+1->cG r f<r.colours):=λf q=>by
     rcases Nat.lt_succ_iff_lt_or_eq.1 q with e|e
     .exact m.o f e
     .rw[e];exact y
    generalize cG r a=K at *;go_wp2_with fail;go_quiet ((go_at_call 191;exact Zb (x.o _)))
    go_wp2_with fail;go_roundg (r.columns-(a+1))
    case measure=>rw[s.o];omega
    case rel=>exact⟨a+1,Xj,O,rfl,J.o,p.o.drewN _⟩
   .have I:(r.colours:Int)<=(cG r a:Int):=O
    have u:Z _:=Ck v y;generalize cG r a=K at *;go_wp2_with fail;go_quiet ((go_at_call 191;exact Zb (x.o _)))
    go_wp2_with fail;go_ret;exact⟨bh (by rw[u.o]),p.o.drewN _⟩
  .have G:¬(a:Int)<(r.columns:Int):=O
   have u:Z _:=E6 (λf q=>m.o f O);go_wp2_with fail;go_ret;exact⟨bh (by rw[u.o]),p.o⟩
def bd(h:Hd)(p:Nat):Nat:=bq (ah h.L p).cf (ah h.L p).cs h.W
def dt(h:Hd)(p:Nat):Nat:=bq (ah h.L p).rf (ah h.L p).rs h.H
def aC(h:Hd)(p:Nat):Nat:=(bd h p*bo h+7)/8
def dg(h:Hd)(p k:Nat):List (Nat×Nat):=(List.range' k (dt h p-k)).map λj=>(p,j)
def au(h:Hd):Nat->Nat->List (Nat×Nat)
 | 0,_=>[]
 | n+1,p=>(if 0<bd h p then dg h p 0 else[])++au h n (p+1)
def eH(st t:Nat)(up:Nat->Nat)(o:Nat->Nat):Nat->Nat->Nat
 | 0=>λ_=>0
 | m+1=>upd (eH st t up o m) m ((o m+gss t (if st<=m then eH st t up o m (m-st) else 0) (up m) (if st<=m then up (m-st) else 0))%256)
def cU(D:Nat)(x:Nat->Nat)(i:Nat):Nat:=if D<16 then lI (x (i*D/8)) (i*D%8) D else 256*x (i*D/8)+x (i*D/8+1)
def eh(h:Hd)(C p:Nat)(x:Nat->Nat):Bool:=decide (h.K=3)&&(List.range (bd h p)).any (λi=>decide (C<=cU h.D x i))
abbrev ImR:Type:=(List (Nat->Nat)×Nat×Nat) ⊕ (List (Nat->Nat)) ⊕ (List (Nat->Nat))
abbrev ImR.bad(x0:List (Nat->Nat))(x1:Nat)(x2:Nat):ImR := .inl (x0,x1,x2)
abbrev ImR.part(x0:List (Nat->Nat)):ImR := .inr (.inl x0)
abbrev ImR.full(x0:List (Nat->Nat)):ImR := .inr (.inr x0)
theorem ImR.cs{motive:ImR->Prop}(bad:∀(x0:List (Nat->Nat)) (x1:Nat) (x2:Nat),motive (ImR.bad x0 x1 x2))(part:∀(x0:List (Nat->Nat)),motive (ImR.part x0))(full:∀(x0:List (Nat->Nat)),motive (ImR.full x0))(x:ImR):motive x:=
 match x with
 | .inl (x0,x1,x2)=>bad x0 x1 x2
 | .inr (.inl x0)=>part x0
 | .inr (.inr x0)=>full x0
def ImR.cons(x:Nat->Nat):ImR->ImR
 | .inl (ls,e,p) => .bad (x::ls) e p
 | .inr (.inl ls) => .part (x::ls)
 | .inr (.inr ls) => .full (x::ls)
def oAt(o:List One)(i:Nat):Nat:=(o.getD i (0,0)).1
def bw(h:Hd)(p k t:Nat)(up:Nat->Nat)(o:List One):Nat->Nat:=eH (bZ h) t (if k=0 then λ_=>0 else up) (oAt o) (aC h p)
def aH(h:Hd)(C:Nat):List (Nat×Nat)->(Nat->Nat)->List One->ImR
 | [],_,[] => .full []
 | [],_,x::_ => .bad [] 17 x.2
 | _::_,_,[] => .part []
 | (p,k)::rs,up,x::o=>
  if 4<x.1 then .bad [] 15 x.2
  else if o.length<aC h p then .part []
  else if eh h C p (bw h p k x.1 up o) then .bad [] 16 (o.getD (aC h p-1) (0,0)).2
  else(aH h C rs (bw h p k x.1 up o) (o.drop (aC h p))).cons (bw h p k x.1 up o)
def aN(h:Hd):List (Nat×Nat)->Nat
 | []=>0
 | x::l=>1+aC h x.1+aN h l
theorem kA h l m:aN h (l++m)=aN h l+aN h m:=by
 induction l with
 | nil=>simp[aN]
 | cons b l a=>rw[Ye,aN,aN,a];omega
theorem Ak h C:∀(rs:List (Nat×Nat)) (a:Nat->Nat) (out:List One),(∃b,aH h C rs a out=.part b/\out.length<aN h rs)\/(∃b,aH h C rs a out=.full b/\out.length=aN h rs)\/(∃b f p,aH h C rs a out=.bad b f p)
 | [],a,[]=>R (L ⟨[],by rw[aH],rfl⟩)
 | [],a,x::c=>R (R ⟨[],17,x.2,by rw[aH]⟩)
 | (p,k)::rs,a,[]=>L ⟨[],by rw[aH],by rw[aN];simp;omega⟩
 | (p,k)::rs,a,x::c=>by
  rw[aH];by_cases g:4<x.1
  .rw[I g];exact R (R ⟨_,_,_,rfl⟩)
  rw[N g];by_cases i:c.length<aC h p
  .rw[I i];exact L ⟨_,rfl,by rw[aN];simp;omega⟩
  rw[N i];by_cases j:eh h C p (bw h p k x.1 a c)=true
  .rw[I j];exact R (R ⟨_,_,_,rfl⟩)
  rw[N j];rcases Ak h C rs (bw h p k x.1 a c) (c.drop (aC h p)) with⟨b,d,e⟩|⟨b,d,e⟩|⟨b,f,l,d⟩
  .rw[d];exact L ⟨_,rfl,by rw[aN];simp at e ⊢;omega⟩
  .rw[d];exact R (L ⟨_,rfl,by rw[aN];simp at e ⊢;omega⟩)
  .rw[d];exact R (R ⟨_,_,_,rfl⟩)
abbrev RwL:Type:=(Nat×Nat)×(Nat->Nat)
def atQ(h:Hd)(p x y:Nat):Option (Nat×Nat) :=
 if x<(ah h.L p).cf\/y<(ah h.L p).rf\/(x-(ah h.L p).cf)%(ah h.L p).cs≠0\/(y-(ah h.L p).rf)%(ah h.L p).rs≠0 then none
 else some ((y-(ah h.L p).rf)/(ah h.L p).rs,(x-(ah h.L p).cf)/(ah h.L p).cs)
def dA(h:Hd)(D:List RwL)(p x y:Nat):Option (Nat->Nat) :=
 (atQ h p x y).bind λa=>(D.find? λz=>decide (z.1=(p,a.1))).map λz j=>cU h.D z.2 (a.2*chn h.K+j)
def knQ(h:Hd)(D:List RwL)(x y:Nat):Nat->Option (Nat->Nat)
 | 0=>none
 | k+1=>match knQ h D x y k with
  | some v=>some v
  | none=>dA h D k x y
def shQ(h:Hd)(D:List RwL)(col:(Nat->Nat)->Nat->Int)(x y:Nat):Nat->Nat->Int
 | 0=>λ_=>0
 | k+1=>
  if x<(ah h.L k).cf\/y<(ah h.L k).rf then shQ h D col x y k
  else if(ah h.L k).cb<=(x-(ah h.L k).cf)%(ah h.L k).cs\/(ah h.L k).rb<=(y-(ah h.L k).rf)%(ah h.L k).rs then shQ h D col x y k
  else match dA h D k (x-(x-(ah h.L k).cf)%(ah h.L k).cs) (y-(y-(ah h.L k).rf)%(ah h.L k).rs) with
   | some v=>col v
   | none=>shQ h D col x y k
theorem tN{f s n x}(a:f<=x)(b:x<n):(x-f)/s<bq f s n:=by
 unfold bq;rw[N]
 have:(x-f)/s<=(n-f-1)/s:=Nat.div_le_div_right O
 omega
