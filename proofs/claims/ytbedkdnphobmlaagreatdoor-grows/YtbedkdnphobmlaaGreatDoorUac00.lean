import Derived.Test.YtbedkdnphobmlaaGreatDoorProg
import Derived.Test.YtbedkdnphobmlaaGreatDoorUaa00
import Derived.Test.YtbedkdnphobmlaaGreatDoorUaa01
import Derived.Test.YtbedkdnphobmlaaGreatDoorUaa03
import Derived.Test.YtbedkdnphobmlaaGreatDoorUaa04
import Derived.Test.YtbedkdnphobmlaaGreatDoorUaa05
import Derived.Test.YtbedkdnphobmlaaGreatDoorUaa09
import Derived.Test.YtbedkdnphobmlaaGreatDoorUaa16
import Derived.Test.YtbedkdnphobmlaaGreatDoorUaa17
import Derived.Test.YtbedkdnphobmlaaGreatDoorUaa18
import Derived.Test.YtbedkdnphobmlaaGreatDoorUaa27
set_option linter.all false
set_option maxRecDepth 100000
set_option maxHeartbeats 0
namespace Go.Proofs.YtbedkdnphobmlaaGreatDoor
open Go.RowKit Px Tryz
def aY(D:Nat):Nat:=if D=1 then 65535 else if D=2 then 21845 else if D=4 then 4369 else if D=8 then 257 else 1
theorem CV D:aY D<=65535:=by unfold aY;(repeat' split)<;>omega
theorem jF(D:Nat)w:Calls prog 154 #[.int .i64 D] w λe f=>e=.returned (.int .i64 (aY D))/\f=w:=by
 have g:D=1\/D=2\/D=4\/D=8\/(D≠1/\D≠2/\D≠4/\D≠8):=O;rcases g with rfl|rfl|rfl|rfl|⟨a,b,c,d⟩
 case' inr.inr.inr.inr=>
  have h:Z (aY D=1):=by show aY D=1;unfold aY;rw[N a,N b,N c,N d]
  have i:((D:Int)==1)=false:=F.2 O;have j:((D:Int)==2)=false:=F.2 O;have k:((D:Int)==4)=false:=F.2 O;have l:((D:Int)==8)=false:=F.2 O;clear a b c d
 all_goals
  go_enter func154,ntmps154;go_wp2;go_ret
  first|exact⟨rfl,rfl⟩|exact⟨an (by rw[h.o];rfl),rfl⟩
structure ClA (w W:World) (h:Hd) (s0 s1 s2 s3:Int):Prop where
 K:Kept w W
 D:W.cell? ⟨w.heap.size,2,none⟩=some (.int .i64 (h.D:Int))
 Kd:W.cell? ⟨w.heap.size,3,none⟩=some (.int .i64 (h.K:Int))
 cW:W.cell? ⟨w.heap.size,0,none⟩=some (.int .i64 (h.W:Int))
 cH:W.cell? ⟨w.heap.size,1,none⟩=some (.int .i64 (h.H:Int))
 cL:W.cell? ⟨w.heap.size,4,none⟩=some (.int .i64 (h.L:Int))
 S:aD W (w.heap.size+1) (aG s0 s1 s2 s3)
 R:∃f,aD W (w.heap.size+2) f
 Z:∀j,W.frozen? ⟨w.heap.size+2,j,none⟩=false
theorem ClA.kept{w W W' h s0 s1 s2 s3}(a:ClA w W h s0 s1 s2 s3)(k:Kept W W'):ClA w W' h s0 s1 s2 s3:=by
 have b:=B W ⟨w.heap.size,0,none⟩ a.cW;obtain⟨e,c⟩:=a.R;have f:=B W ⟨w.heap.size+2,0,none⟩ c.1;exact⟨a.K.trans k,(k.cell (p:=⟨w.heap.size,2,none⟩) b).trans a.D,(k.cell (p:=⟨w.heap.size,3,none⟩) b).trans a.Kd,(k.cell (p:=⟨w.heap.size,0,none⟩) b).trans a.cW,(k.cell (p:=⟨w.heap.size,1,none⟩) b).trans a.cH,(k.cell (p:=⟨w.heap.size,4,none⟩) b).trans a.cL,a.S.kept k,⟨e,c.kept k⟩,λd=>(k.frozen (p:=⟨w.heap.size+2,d,none⟩) f).trans (a.Z d)⟩
theorem ClA.fr{w W W' h s0 s1 s2 s3 g}(a:ClA w W h s0 s1 s2 s3)(k:Fr1 g W W')(i:w.heap.size+2<g):ClA w W' h s0 s1 s2 s3:=by
 have b:w.heap.size<W.heap.size:=B W ⟨w.heap.size,0,none⟩ a.cW;obtain⟨d,c⟩:=a.R;have e:w.heap.size+2<W.heap.size:=B W ⟨w.heap.size+2,0,none⟩ c.1;exact⟨Fr.to_kept a.K k (λj l m=>O),(k.cell b O).trans a.D,(k.cell b O).trans a.Kd,(k.cell b O).trans a.cW,(k.cell b O).trans a.cH,(k.cell b O).trans a.cL,a.S.fr k O,⟨d,c.fr k O⟩,λf=>(k.frozen e O).trans (a.Z f)⟩
theorem ClA.done{w W h s0 s1 s2 s3}(a:ClA w W h s0 s1 s2 s3)x0 x1 x2 x3:aD ((((W.setCell ⟨w.heap.size+2,0,none⟩ (.int .i64 x0)).setCell ⟨w.heap.size+2,1,none⟩ (.int .i64 x1)).setCell ⟨w.heap.size+2,2,none⟩ (.int .i64 x2)).setCell ⟨w.heap.size+2,3,none⟩ (.int .i64 x3)) (w.heap.size+2) (aG x0 x1 x2 x3)/\Kept w ((((W.setCell ⟨w.heap.size+2,0,none⟩ (.int .i64 x0)).setCell ⟨w.heap.size+2,1,none⟩ (.int .i64 x1)).setCell ⟨w.heap.size+2,2,none⟩ (.int .i64 x2)).setCell ⟨w.heap.size+2,3,none⟩ (.int .i64 x3)):=by
 obtain⟨c,b⟩:=a.R;exact⟨b.put x0 x1 x2 x3,(((a.K.setCell (XG _ _) _).setCell (XG _ _) _).setCell (XG _ _) _).setCell (XG _ _) _⟩
theorem au(W:World){g q}(h:q≠g)j x0 x1 x2 x3:((((W.setCell ⟨g,0,none⟩ x0).setCell ⟨g,1,none⟩ x1).setCell ⟨g,2,none⟩ x2).setCell ⟨g,3,none⟩ x3).cell? ⟨q,j,none⟩=W.cell? ⟨q,j,none⟩:=by
 rw[aE _ _ _ _ h,aE _ _ _ _ h,aE _ _ _ _ h,aE _ _ _ _ h]
structure et (c:Nat->Value) (o1 o2 n:Nat) (r:Rw) (t:Tl) (h:Hd):Prop where
 V:RwV c o1 r
 T:TlV c o2 t
 n1:o1+1549<=n
 n2:o2+1026<=n
 cl:∀j,t.clear j<256
 sm:∀j,r.smp j<65536
 K:h.K<=6
 W1:1<=h.W
 W2:h.W<=16
 H1:1<=h.H
 H2:h.H<=16
 L:h.L<=1
def hdS(W:World)(b o:Nat)(h:Hd):Prop:=W.cell? ⟨b,o,none⟩=some (.int .i64 (h.W:Int))/\W.cell? ⟨b,o+1,none⟩=some (.int .i64 (h.H:Int))/\W.cell? ⟨b,o+2,none⟩=some (.int .i64 (h.D:Int))/\W.cell? ⟨b,o+3,none⟩=some (.int .i64 (h.K:Int))/\W.cell? ⟨b,o+4,none⟩=some (.int .i64 (h.L:Int))
theorem gI{W b o n c h}(a:Blk W b n c)(d:HdV c o h)(e:o+5<=n):hdS W b o h:=⟨a.at O d.W,a.at O d.H,a.at O d.D,a.at O d.K,a.at O d.L⟩
def Ix(w:World)(r:Rw)(h:Hd)(e:Ending)(w':World):Prop:=∃g,e=.returned (.slice (some ⟨g,0,none⟩) (h.W*h.H) (h.W*h.H))/\w.heap.size<=g/\g<w'.heap.size/\(∀j,j<h.W*h.H->w'.cell? ⟨g,j,none⟩=some (.int .i64 (if r.known (j/h.W*16+j%h.W) then 1 else 0)))
theorem kI b o n c s w(i:Blk w b n c)(j:RdV c o s)(z:o+5954<=n)(p:1<=s.hd.W)(t:s.hd.W<=16)(q:1<=s.hd.H)(u:s.hd.H<=16):Calls prog 43 #[.pointer (some ⟨b,o,none⟩)] w λf e=>Ix w s.rw s.hd f e/\Kept w e:=by
 have k:Z (∀a,Kept w a->hdS a b (o+6) s.hd):=λa l=>gI (i.kept l) j.hd O
 have v:Z (∀a,Kept w a->Calls prog 56 #[.agg #[.int .i64 s.hd.W,.int .i64 s.hd.H,.int .i64 s.hd.D,.int .i64 s.hd.K,.int .i64 s.hd.L],.pointer (some ⟨b,o+4401,none⟩)] a λf e=>∃d,f=.returned (.slice (some ⟨d,0,none⟩) (s.hd.W*s.hd.H) (s.hd.W*s.hd.H))/\a.heap.size<=d/\(∀g,g<s.hd.W*s.hd.H->e.cell? ⟨d,g,none⟩=some (.int .i64 (if s.rw.known (g/s.hd.W*16+g%s.hd.W) then 1 else 0)))/\Kept a e):=λa l=>sC b (o+4401) n c s.rw s.hd a (i.kept l) j.rw O p t q u
 clear i j;unfold hdS at k;go_enter func43,ntmps43;go_wp2_with fail;go_region_held3 (λa=>a.cell? ⟨b,o+6,none⟩=some (.int .i64 s.hd.W)/\a.cell? ⟨b,o+6+1,none⟩=some (.int .i64 s.hd.H)/\a.cell? ⟨b,o+6+2,none⟩=some (.int .i64 s.hd.D)/\a.cell? ⟨b,o+6+3,none⟩=some (.int .i64 s.hd.K)/\a.cell? ⟨b,o+6+4,none⟩=some (.int .i64 s.hd.L)) (first|exact k.o _ ((Kept.refl _).drewN 1)|exact k.o _ r|go_keep) ((go_at_call 56;refine(v.o _ ((Kept.refl _).drewN 1)).mono ?_;rintro f x ⟨d,rfl,m,h,y⟩;have r:=((Kept.refl _).drewN 1).trans y))
 replace h:Z _:=h;replace m:Z _:=m;go_wp2_with fail;go_ret;exact⟨⟨d,rfl,m.o,B x ⟨d,0,none⟩ (h.o 0 (Nat.mul_pos p q)),h.o⟩,r⟩
theorem info5:(prog.info? 71).map (·.size)=some 5:=Xk
theorem gi b o n c s w(a:Blk w b n c)(d:RdV c o s)(g:o+5954<=n):Calls prog 41 #[.pointer (some ⟨b,o,none⟩)] w λe f=>e=.returned (.bool (decide (s.part=5)))/\f=w:=by
 have h:=a.at (i:=o) O d.part;clear a d;go_enter func41,ntmps41;go_wp2;go_ret;exact⟨bz (by rw[X4,XI,decide_eq_true_iff];omega),rfl⟩
theorem mM b o n c s w(a:Blk w b n c)(d:RdV c o s)(h:o+5954<=n):Calls prog 42 #[.pointer (some ⟨b,o,none⟩)] w λe f=>e=.returned (.agg #[.int .i64 s.hd.W,.int .i64 s.hd.H,.int .i64 s.hd.D,.int .i64 s.hd.K,.int .i64 s.hd.L])/\Kept w f:=by
 have g:Z (Kept w (w.alloc (Obj.cells #[.int .i64 0,.int .i64 0,.int .i64 0,.int .i64 0,.int .i64 0] 71))):=Xw (Xs _ _) (E _) _;obtain⟨i,j,k,l,m⟩:=gI (a.kept g.o) d.hd O;clear a d;go_enter func42,ntmps42;go_wp2;refine XA (v := .agg #[.int .i64 s.hd.W,.int .i64 s.hd.H,.int .i64 s.hd.D,.int .i64 s.hd.K,.int .i64 s.hd.L]) (ah rfl _ _ w.heap.size 0 _ rfl ?_) rfl ?_
 .refine run_loadVar_row _ _ 71 71 _ (0,0) _ ?_ underlying71 rfl info5
  exact heap_alloc_new _ _
 .exact⟨rfl,Xw (Xs _ _) (E _) _⟩
def snZ:Array Value:=#[.int .i64 0,.int .i64 0,.bool false,.int .i64 0,.int .i64 0,.int .i64 0,.int .i64 0,.int .i64 0,.slice none 0 0,.slice none 0 0,.slice none 0 0]
theorem nr:(prog.info? 50).map (·.size)=some 11:=Xk
structure DI (w W:World) (g:Nat) (d:Dc):Prop where
 kept:Kept w W
 pos:0<w.heap.size
 lo:w.heap.size<=g
 ex:∃c,Blk W g 5957 c/\DcV c 0 d
theorem DI.glt{w W g d}(h:DI w W g d):g<W.heap.size:=by obtain⟨b,a,_⟩:=h.ex;exact a.lt
theorem DI.on{w W W' g d}(h:DI w W g d)(k:Kept W W'):DI w W' g d:=by
 obtain⟨a,b,c⟩:=h.ex;exact⟨h.kept.trans k,h.pos,h.lo,a,b.kept k,c⟩
theorem DI.step{w W W' g d d'}(h:DI w W g d)(k:gO g 5957 d' W W'):DI w W' g d':=by
 obtain⟨a,b,c,e⟩:=k;have f:=h.lo;exact⟨Fr.to_kept h.kept e (λi j l=>O),h.pos,h.lo,a,b,c⟩
theorem jL{w W}(h:Kept w W)(d:0<w.heap.size):Calls prog 21 #[] W λa b=>∃c,a=.returned (.pointer (some ⟨c,0,none⟩))/\DI w b c dc0:=by
 refine(Ay W).mono ?_;rintro a b ⟨rfl,e,f,g,i⟩;exact⟨_,rfl,h.trans i,d,h.size,e,f,g⟩
theorem fK{w W g d}t(h:DI w W g d)(e:bm d (aj t))(f:t.size<=2147483648)(a:bw w):Calls prog 22 #[.pointer (some ⟨g,0,none⟩),.string t] W λb c=>b=.returned (.tuple #[.int .i64 ((d.feed (aj t)).err:Int),.int .i64 ((d.feed (aj t)).at1:Int)])/\DI w c g (d.feed (aj t)):=by
 obtain⟨i,j,k⟩:=h.ex;refine(nK g 5957 t i d W j k (E _) e f (a.kept h.kept) (a.new h.lo)).mono ?_;rintro b c ⟨rfl,l⟩;exact⟨rfl,h.step l⟩
structure cC (s:Rd):Prop where
 hd:lB s
 clear:∀j,s.tl.clear j<256
 sm:SmI s
theorem jn{d}(h:d.err≠0)l:bm d l:=by
 intro b c _ a;rw[dw h] at a;exact absurd a h
