import Derived.Test.YtgooinallljbpaaGreatDoorSh00
import Derived.Test.YtgooinallljbpaaGreatDoorSh26
set_option linter.all false
set_option maxRecDepth 100000
set_option maxHeartbeats 0
namespace Go.Proofs.YtgooinallljbpaaGreatDoor
open Go.RowKit Px Tryz
def hdS(W:World)(b o:Nat)(h:Hd):Prop:=W.cell? ⟨b,o,none⟩=some (.int .i64 (h.W:Int))/\W.cell? ⟨b,o+1,none⟩=some (.int .i64 (h.H:Int))/\W.cell? ⟨b,o+2,none⟩=some (.int .i64 (h.D:Int))/\W.cell? ⟨b,o+3,none⟩=some (.int .i64 (h.K:Int))/\W.cell? ⟨b,o+4,none⟩=some (.int .i64 (h.L:Int))
theorem yy{W b o n c h}(a:Blk W b n c)(d:HdV c o h)(e:o+5<=n):hdS W b o h:=⟨a.at O d.W,a.at O d.H,a.at O d.D,a.at O d.K,a.at O d.L⟩
def O8(w:World)(r:Rw)(h:Hd)(e:Ending)(w':World):Prop:=∃g,e=.returned (.slice (some ⟨g,0,none⟩) (h.W*h.H) (h.W*h.H))/\w.heap.size<=g/\g<w'.heap.size/\(∀j,j<h.W*h.H->w'.cell? ⟨g,j,none⟩=some (.int .i64 (if r.known (j/h.W*16+j%h.W) then 1 else 0)))
theorem EC b o n c s w(i:Blk w b n c)(j:RdV c o s)(z:o+5954<=n)(p:1<=s.hd.W)(t:s.hd.W<=16)(q:1<=s.hd.H)(u:s.hd.H<=16):Calls prog 29 #[.pointer (some ⟨b,o,none⟩)] w λf e=>O8 w s.rw s.hd f e/\Kept w e:=by
 have k:Z (∀a,Kept w a->hdS a b (o+6) s.hd):=λa l=>yy (i.kept l) j.hd O
 have v:Z (∀a,Kept w a->Calls prog 43 #[.agg #[.int .i64 s.hd.W,.int .i64 s.hd.H,.int .i64 s.hd.D,.int .i64 s.hd.K,.int .i64 s.hd.L],.pointer (some ⟨b,o+4401,none⟩)] a λf e=>∃d,f=.returned (.slice (some ⟨d,0,none⟩) (s.hd.W*s.hd.H) (s.hd.W*s.hd.H))/\a.heap.size<=d/\(∀g,g<s.hd.W*s.hd.H->e.cell? ⟨d,g,none⟩=some (.int .i64 (if s.rw.known (g/s.hd.W*16+g%s.hd.W) then 1 else 0)))/\Kept a e):=λa l=>Hx b (o+4401) n c s.rw s.hd a (i.kept l) j.rw O p t q u
 clear i j;unfold hdS at k;go_enter func29,ntmps29;go_wp2_with fail;go_region_held3 (λa=>a.cell? ⟨b,o+6,none⟩=some (.int .i64 s.hd.W)/\a.cell? ⟨b,o+6+1,none⟩=some (.int .i64 s.hd.H)/\a.cell? ⟨b,o+6+2,none⟩=some (.int .i64 s.hd.D)/\a.cell? ⟨b,o+6+3,none⟩=some (.int .i64 s.hd.K)/\a.cell? ⟨b,o+6+4,none⟩=some (.int .i64 s.hd.L)) (first|exact k.o _ ((Kept.refl _).drewN 1)|exact k.o _ r|go_keep) ((go_at_call 43;refine(v.o _ ((Kept.refl _).drewN 1)).mono ?_;rintro f x ⟨d,rfl,m,h,y⟩;have r:=((Kept.refl _).drewN 1).trans y))
 replace h:Z _:=h;replace m:Z _:=m;go_wp2_with fail;go_ret;exact⟨⟨d,rfl,m.o,B x ⟨d,0,none⟩ (h.o 0 (Nat.mul_pos p q)),h.o⟩,r⟩
theorem info5:(prog.info? 44).map (·.size)=some 5:=Xk
theorem ru b o n c s w(a:Blk w b n c)(d:RdV c o s)(g:o+5954<=n):Calls prog 25 #[.pointer (some ⟨b,o,none⟩)] w λe f=>e=.returned (.bool (decide (s.part=5)))/\f=w:=by
 have h:=a.at (i:=o) O d.part;clear a d;go_enter func25,ntmps25;go_wp2;go_ret;exact⟨bh (by rw[X4,XI,XL];omega),rfl⟩
theorem Hp b o n c s w(a:Blk w b n c)(d:RdV c o s)(h:o+5954<=n):Calls prog 28 #[.pointer (some ⟨b,o,none⟩)] w λe f=>e=.returned (.agg #[.int .i64 s.hd.W,.int .i64 s.hd.H,.int .i64 s.hd.D,.int .i64 s.hd.K,.int .i64 s.hd.L])/\Kept w f:=by
 have g:Z (Kept w (w.alloc (Obj.cells #[.int .i64 0,.int .i64 0,.int .i64 0,.int .i64 0,.int .i64 0] 44))):=Xw (Xs _ _) (E _) _;obtain⟨i,j,k,l,m⟩:=yy (a.kept g.o) d.hd O;clear a d;go_enter func28,ntmps28;go_wp2;refine XA (v := .agg #[.int .i64 s.hd.W,.int .i64 s.hd.H,.int .i64 s.hd.D,.int .i64 s.hd.K,.int .i64 s.hd.L]) (ar rfl _ _ w.heap.size 0 _ rfl ?_) rfl ?_
 .refine run_loadVar_row _ _ 44 44 _ (0,0) _ ?_ underlying44 rfl info5
  exact heap_alloc_new _ _
 .exact⟨rfl,Xw (Xs _ _) (E _) _⟩
def snZ:Array Value:=#[.int .i64 0,.int .i64 0,.bool false,.int .i64 0,.int .i64 0,.int .i64 0,.int .i64 0,.int .i64 0,.slice none 0 0,.slice none 0 0,.slice none 0 0]
theorem IS:(prog.info? 32).map (·.size)=some 11:=Xk
