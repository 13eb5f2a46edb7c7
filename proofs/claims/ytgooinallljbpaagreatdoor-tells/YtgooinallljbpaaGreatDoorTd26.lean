import Derived.Test.YtgooinallljbpaaGreatDoorTd14
import Derived.Test.YtgooinallljbpaaGreatDoorTd20
import Derived.Test.YtgooinallljbpaaGreatDoorTd25
import Derived.Test.YtgooinallljbpaaGreatDoorTd24
import Derived.Test.YtgooinallljbpaaGreatDoorTd02
set_option maxRecDepth 100000
set_option maxHeartbeats 6400000
namespace Go.Proofs.YtgooinallljbpaaGreatDoor
open Go.RowKit Px
set_option linter.unusedSimpArgs false
set_option linter.unusedVariables false
def flV (f:Fl) (er at':Nat) (pv cv zv iv:Value):Nat->Value
 | 0 => .bool f.on
 | 1 => .int .i64 (f.hd.W:Int)
 | 2 => .int .i64 (f.hd.H:Int)
 | 3 => .int .i64 (f.hd.D:Int)
 | 4 => .int .i64 (f.hd.K:Int)
 | 5 => .int .i64 (f.hd.L:Int)
 | 6 => .bool f.hasPal
 | 7 => .bool f.hasClear
 | 8=>pv
 | 9=>cv
 | 10=>zv
 | 11=>iv
 | 12 => .bool f.over
 | 13 => .bool f.first
 | 14 => .bool f.done
 | 15 => .int .i64 (er:Int)
 | 16 => .int .i64 (at':Int)
 | _=>undef
structure aq (w:World) (b:Nat) (f:Fl) (er at':Nat) (pv cv zv iv:Value):Prop where
 cell:∀ k,k<17->w.cell? ⟨b,k,none⟩=some (flV f er at' pv cv zv iv k)
 fz:∀ k,w.frozen? ⟨b,k,none⟩=false
 pal:IAt w pv f.pal
 clr:IAt w cv f.clear
 z:w.ownsRow (b+1) 148 2 zv f.z.length (gy f.z)
 ids:∃ xs,w.ownsRow (b+1) 3 1 iv f.ids xs
 pb:∀ g,ae pv=some g->b<g/\zv.ownBlock≠some g/\iv.ownBlock≠some g
 cb:∀ g,ae cv=some g->b<g/\zv.ownBlock≠some g/\iv.ownBlock≠some g
 dis:∀ g,zv.ownBlock=some g->iv.ownBlock≠some g
 plt:∀ g,ae pv=some g->g<w.heap.size
 clt:∀ g,ae cv=some g->g<w.heap.size
theorem aq.lt {w:World} {b:Nat} {f:Fl} {er at':Nat} {pv cv zv iv:Value} (h:aq w b f er at' pv cv zv iv):b<w.heap.size:=World.block_lt_of_cell? _ _ (h.cell 0 (by omega))
theorem aq.kept {w w':World} {b:Nat} {f:Fl} {er at':Nat} {pv cv zv iv:Value} (h:aq w b f er at' pv cv zv iv) (k:Kept w w'):aq w' b f er at' pv cv zv iv:=by
 obtain ⟨xs,hx⟩:=h.ids;exact ⟨fun j hj=>(k.cell (p:=⟨b,j,none⟩) h.lt).trans (h.cell j hj),fun j=>(k.frozen (p:=⟨b,j,none⟩) h.lt).trans (h.fz j),h.pal.kept k,h.clr.kept k,cC h.z k,⟨xs,cC hx k⟩,h.pb,h.cb,h.dis,fun g q=>Nat.lt_of_lt_of_le (h.plt g q) k.size,fun g q=>Nat.lt_of_lt_of_le (h.clt g q) k.size⟩
theorem aq.set {w:World} {b:Nat} {f:Fl} {er at':Nat} {pv cv zv iv:Value} (h:aq w b f er at' pv cv zv iv) (k:Nat) (v:Value) (f':Fl) (er' at'':Nat) (hk:k<17) (hv:∀ j,j<17->flV f' er' at'' pv cv zv iv j=if j=k then v else flV f er at' pv cv zv iv j) (h1:f'.pal=f.pal) (h2:f'.clear=f.clear) (h3:f'.z=f.z) (h4:f'.ids=f.ids):aq (w.setCell ⟨b,k,none⟩ v) b f' er' at'' pv cv zv iv:=by
 have F:Fr1 b w (w.setCell ⟨b,k,none⟩ v):=(Fr1.refl _ _).set _ _;obtain ⟨xs,hx⟩:=h.ids;refine ⟨fun j hj => ?_,fun j=>(World.frozen?_setCell _ _ _ _).trans (h.fz j),by rw[h1];exact h.pal.fr F (fun g hg e=>by have:=(h.pb g hg).1;omega),by rw[h2];exact h.clr.fr F (fun g hg e=>by have:=(h.cb g hg).1;omega),by rw[h3];exact aQ h.z F (fun g hg e=>by have:=(h.z.lt g hg).1;omega),⟨xs,by rw[h4];exact aQ hx F (fun g hg e=>by have:=(hx.lt g hg).1;omega)⟩,h.pb,h.cb,h.dis,fun g q=>by simpa [World.setCell] using h.plt g q,fun g q=>by simpa [World.setCell] using h.clt g q⟩;rw[hv j hj];by_cases e:j=k
 ·subst e;rw[if_pos rfl];exact aj (h.cell j hj) _
 ·rw[if_neg e,aa _ _ _ _ _ (fun q=>e q.symm)];exact h.cell j hj
theorem bO {P:Nat->Prop} (h:P 0/\P 1/\P 2/\P 3/\P 4/\P 5/\P 6/\P 7/\P 8/\P 9/\P 10/\P 11/\P 12/\P 13/\P 14/\P 15/\P 16):∀ j,j<17->P j:=by
 obtain ⟨p0,p1,p2,p3,p4,p5,p6,p7,p8,p9,p10,p11,p12,p13,p14,p15,p16⟩:=h;intro j hj
 match j,hj with
 | 0,_=>exact p0
 | 1,_=>exact p1
 | 2,_=>exact p2
 | 3,_=>exact p3
 | 4,_=>exact p4
 | 5,_=>exact p5
 | 6,_=>exact p6
 | 7,_=>exact p7
 | 8,_=>exact p8
 | 9,_=>exact p9
 | 10,_=>exact p10
 | 11,_=>exact p11
 | 12,_=>exact p12
 | 13,_=>exact p13
 | 14,_=>exact p14
 | 15,_=>exact p15
 | 16,_=>exact p16
 | j+17,h=>omega
theorem aq.setErr {w:World} {b:Nat} {f:Fl} {er at':Nat} {pv cv zv iv:Value} (h:aq w b f er at' pv cv zv iv) (e:Nat):aq (w.setCell ⟨b,15,none⟩ (.int .i64 (e:Int))) b f e at' pv cv zv iv:=
 h.set 15 _ f e at' (by omega) (bO ⟨rfl,rfl,rfl,rfl,rfl,rfl,rfl,rfl,rfl,rfl,rfl,rfl,rfl,rfl,rfl,rfl,rfl⟩) rfl rfl rfl rfl
theorem aq.setAt {w:World} {b:Nat} {f:Fl} {er at':Nat} {pv cv zv iv:Value} (h:aq w b f er at' pv cv zv iv) (e:Nat):aq (w.setCell ⟨b,16,none⟩ (.int .i64 (e:Int))) b f er e pv cv zv iv:=
 h.set 16 _ f er e (by omega) (bO ⟨rfl,rfl,rfl,rfl,rfl,rfl,rfl,rfl,rfl,rfl,rfl,rfl,rfl,rfl,rfl,rfl,rfl⟩) rfl rfl rfl rfl
theorem aq.setFirst {w:World} {b:Nat} {f:Fl} {er at':Nat} {pv cv zv iv:Value} (h:aq w b f er at' pv cv zv iv):aq (w.setCell ⟨b,13,none⟩ (.bool true)) b { f with first:=true } er at' pv cv zv iv:=
 h.set 13 _ _ er at' (by omega) (bO ⟨rfl,rfl,rfl,rfl,rfl,rfl,rfl,rfl,rfl,rfl,rfl,rfl,rfl,rfl,rfl,rfl,rfl⟩) rfl rfl rfl rfl
theorem aq.setOver {w:World} {b:Nat} {f:Fl} {er at':Nat} {pv cv zv iv:Value} (h:aq w b f er at' pv cv zv iv):aq (w.setCell ⟨b,12,none⟩ (.bool true)) b { f with over:=true } er at' pv cv zv iv:=
 h.set 12 _ _ er at' (by omega) (bO ⟨rfl,rfl,rfl,rfl,rfl,rfl,rfl,rfl,rfl,rfl,rfl,rfl,rfl,rfl,rfl,rfl,rfl⟩) rfl rfl rfl rfl
theorem aq.setDone {w:World} {b:Nat} {f:Fl} {er at':Nat} {pv cv zv iv:Value} (h:aq w b f er at' pv cv zv iv):aq (w.setCell ⟨b,14,none⟩ (.bool true)) b { f with done:=true } er at' pv cv zv iv:=
 h.set 14 _ _ er at' (by omega) (bO ⟨rfl,rfl,rfl,rfl,rfl,rfl,rfl,rfl,rfl,rfl,rfl,rfl,rfl,rfl,rfl,rfl,rfl⟩) rfl rfl rfl rfl
theorem lF (b:Nat) (f:Fl) (e a v q:Nat) (pv cv zv iv:Value) (w:World) (h:aq w b f e a pv cv zv iv) :
  Calls Tryz.prog 57 #[.pointer (some ⟨b,0,none⟩),.int .i64 (v:Int),.int .i64 (q:Int)] w fun r w'=>r = .returned (.bool false)/\aq w' b f v q pv cv zv iv/\Fr1 b w w':=by
 have c15:=h.cell 15 (by omega);have c16:=h.cell 16 (by omega);replace c15:w.cell? ⟨b,15,none⟩=some (.int .i64 (e:Int)):=c15;replace c16:w.cell? ⟨b,16,none⟩=some (.int .i64 (a:Int)):=c16;have hf:=h.fz;have H:Hid (aq w b f e a pv cv zv iv):=h;clear h;go_enter Tryz.func57,Tryz.ntmps57;go_wp2;go_ret;exact ⟨rfl,(H.out.setErr v).setAt q,((Fr1.refl _ _).set _ _).set _ _⟩
theorem Es (t:ByteArray) (k:Nat) (h:k<t.size):ints ((af t).take (k+1))=ints ((af t).take k)++[.int .i64 (t[k].toNat:Int)]:=by
 rw[uS t k h,xh]
theorem sD (t:ByteArray) (w:World) (hs:t.size<=1048576) :
  Calls Tryz.prog 132 #[.string t] w fun e w'=>(∃ v,e = .returned v/\w'.ownsRow w.heap.size 3 1 v t.size (ints (af t)))/\Kept w w':=by
 obtain ⟨i0,hi,hz0,hz1,hz2⟩:=info_parts rM;go_enter Tryz.func132,Tryz.ntmps132;go_wp2;go_loopw [3,4] (fun v j W=>∃ k:Nat,k<=t.size/\j = .int .i64 (k:Int)/\W.ownsRow w.heap.size 3 1 v k (ints ((af t).take k))/\Kept w W) (fun _ j _=>t.size - (intOf j).toNat)
 case atStart=>exact ⟨0,by omega,rfl,World.ownsRow_nil _ _ _ _,Kept.refl _⟩
 case round=>
  obtain ⟨k,hk,rfl,hown,hkw⟩:=hrel;by_cases hlt:k<t.size
  ·have hsz:=hkw.size
   have hx:t[k].toNat<256:=t[k].toNat_lt;have HT:Hid (ints ((af t).take (k+1))=ints ((af t).take k)++[.int .i64 (t[k].toNat:Int)]):=Es t k hlt;generalize ints ((af t).take k)=XS at *;go_wp2_with (at_builtin;refine wpList_append_own _ rfl _ _ 30 rfl w.heap.size 3 i0 (.int .i64 0) 1 8 Tryz.underlying30 hi hz0 hz1 hz2 rfl (by decide) _ _ _ rfl (hown.alloc _) ⟨wr.heap.size,0,none⟩ 1 1 [.int .i64 (t[k].toNat:Int)] rfl rfl ?c1 ?c2 ?c3 ?c4 ?c5 ?_)
   case c1=>
    intro j u hj
    match j,hj with
    | 0,hj=>simp at hj;subst hj;simp [Addr.add]
   case c2=>intro u hu;simp at hu;subst hu;rfl
   case c3=>unfold maxLen;omega
   case c4=>omega
   case c5=>simp;omega
   intro v' w1 hown' hgrow hnil;have R:Kept w w1:=(Below.alloc hkw (by omega) _).grown hgrow (by simp;omega) (fun j hj=>(hown.lt j hj).1);rw[<- HT.out] at hown';have HW:Hid _:=hown';clear hnil hgrow hown hown';go_wp2;exact ⟨⟨k+1,by omega,by go_num,HW.out,R⟩,by simp [intOf];omega⟩
  ·have hke:k=t.size:=by omega
   have hall:(af t).take k=af t:=List.take_of_length_le (by rw[av];omega);rw[hall] at hown;go_wp2;go_ret;exact ⟨⟨_,rfl,by rw[<- hke];exact hown⟩,hkw⟩
theorem aq.setPal {w w1:World} {b:Nat} {f:Fl} {er at':Nat} {pv cv zv iv:Value} (h:aq w b f er at' pv cv zv iv) (k:Kept w w1) (v:Value) (d:List Nat) (ho:w1.ownsRow w.heap.size 3 1 v d.length (ints d)):aq (w1.setCell ⟨b,8,none⟩ v) b { f with pal:=d } er at' v cv zv iv:=by
 have h1:=h.kept k;have F:Fr1 b w1 (w1.setCell ⟨b,8,none⟩ v):=(Fr1.refl _ _).set _ _;obtain ⟨xs0,hx0⟩:=h.ids;obtain ⟨xs,hx⟩:=h1.ids;have hlt:=h.lt;have hg:∀ g,ae v=some g->w.heap.size<=g/\g<w1.heap.size:=fun g hg=>by rw[ch v ho] at hg;exact ho.lt g hg
 refine ⟨fun j hj => ?_,fun j=>(World.frozen?_setCell _ _ _ _).trans (h1.fz j),(mE ho).fr F (fun g q e=>by have:=(hg g q).1;omega),h1.clr.fr F (fun g q e=>by have:=(h1.cb g q).1;omega),aQ h1.z F (fun g hg e=>by have:=(h1.z.lt g hg).1;omega),⟨xs,aQ hx F (fun g hg e=>by have:=(hx.lt g hg).1;omega)⟩,fun g q=>⟨by have:=(hg g q).1;omega,fun e=>by have:=(h.z.lt g e).2;have:=(hg g q).1;omega,fun e=>by have:=(hx0.lt g e).2;have:=(hg g q).1;omega⟩,h1.cb,h1.dis,fun g q=>by simpa [World.setCell] using (hg g q).2,fun g q=>by simpa [World.setCell] using h1.clt g q⟩;by_cases e:j=8
 ·subst e;exact aj (h1.cell 8 hj) _
 ·rw[aa _ _ _ _ _ (fun q=>e q.symm),h1.cell j hj]
  congr 1
  revert e
  exact bO (P:=fun j=>j≠8->flV f er at' pv cv zv iv j=flV { f with pal:=d } er at' v cv zv iv j) ⟨fun _=>rfl,fun _=>rfl,fun _=>rfl,fun _=>rfl,fun _=>rfl,fun _=>rfl,fun _=>rfl,fun _=>rfl,fun q=>absurd rfl q,fun _=>rfl,fun _=>rfl,fun _=>rfl,fun _=>rfl,fun _=>rfl,fun _=>rfl,fun _=>rfl,fun _=>rfl⟩ j hj
theorem aq.setClear {w w1:World} {b:Nat} {f:Fl} {er at':Nat} {pv cv zv iv:Value} (h:aq w b f er at' pv cv zv iv) (k:Kept w w1) (v:Value) (d:List Nat) (ho:w1.ownsRow w.heap.size 3 1 v d.length (ints d)):aq (w1.setCell ⟨b,9,none⟩ v) b { f with clear:=d } er at' pv v zv iv:=by
 have h1:=h.kept k;have F:Fr1 b w1 (w1.setCell ⟨b,9,none⟩ v):=(Fr1.refl _ _).set _ _;obtain ⟨xs0,hx0⟩:=h.ids;obtain ⟨xs,hx⟩:=h1.ids;have hlt:=h.lt;have hg:∀ g,ae v=some g->w.heap.size<=g/\g<w1.heap.size:=fun g hg=>by rw[ch v ho] at hg;exact ho.lt g hg
 refine ⟨fun j hj => ?_,fun j=>(World.frozen?_setCell _ _ _ _).trans (h1.fz j),h1.pal.fr F (fun g q e=>by have:=(h1.pb g q).1;omega),(mE ho).fr F (fun g q e=>by have:=(hg g q).1;omega),aQ h1.z F (fun g hg e=>by have:=(h1.z.lt g hg).1;omega),⟨xs,aQ hx F (fun g hg e=>by have:=(hx.lt g hg).1;omega)⟩,h1.pb,fun g q=>⟨by have:=(hg g q).1;omega,fun e=>by have:=(h.z.lt g e).2;have:=(hg g q).1;omega,fun e=>by have:=(hx0.lt g e).2;have:=(hg g q).1;omega⟩,h1.dis,fun g q=>by simpa [World.setCell] using h1.plt g q,fun g q=>by simpa [World.setCell] using (hg g q).2⟩;by_cases e:j=9
 ·subst e;exact aj (h1.cell 9 hj) _
 ·rw[aa _ _ _ _ _ (fun q=>e q.symm),h1.cell j hj]
  congr 1
  revert e
  exact bO (P:=fun j=>j≠9->flV f er at' pv cv zv iv j=flV { f with clear:=d } er at' pv v zv iv j) ⟨fun _=>rfl,fun _=>rfl,fun _=>rfl,fun _=>rfl,fun _=>rfl,fun _=>rfl,fun _=>rfl,fun _=>rfl,fun _=>rfl,fun q=>absurd rfl q,fun _=>rfl,fun _=>rfl,fun _=>rfl,fun _=>rfl,fun _=>rfl,fun _=>rfl,fun _=>rfl⟩ j hj
theorem aq.setHasPal {w:World} {b:Nat} {f:Fl} {er at':Nat} {pv cv zv iv:Value} (h:aq w b f er at' pv cv zv iv):aq (w.setCell ⟨b,6,none⟩ (.bool true)) b { f with hasPal:=true } er at' pv cv zv iv:=
 h.set 6 _ _ er at' (by omega) (bO ⟨rfl,rfl,rfl,rfl,rfl,rfl,rfl,rfl,rfl,rfl,rfl,rfl,rfl,rfl,rfl,rfl,rfl⟩) rfl rfl rfl rfl
theorem aq.setHasClear {w:World} {b:Nat} {f:Fl} {er at':Nat} {pv cv zv iv:Value} (h:aq w b f er at' pv cv zv iv):aq (w.setCell ⟨b,7,none⟩ (.bool true)) b { f with hasClear:=true } er at' pv cv zv iv:=
 h.set 7 _ _ er at' (by omega) (bO ⟨rfl,rfl,rfl,rfl,rfl,rfl,rfl,rfl,rfl,rfl,rfl,rfl,rfl,rfl,rfl,rfl,rfl⟩) rfl rfl rfl rfl
theorem aq.setOn {w:World} {b:Nat} {f:Fl} {er at':Nat} {pv cv zv iv:Value} (h:aq w b f er at' pv cv zv iv):aq (w.setCell ⟨b,0,none⟩ (.bool true)) b { f with on:=true } er at' pv cv zv iv:=
 h.set 0 _ _ er at' (by omega) (bO ⟨rfl,rfl,rfl,rfl,rfl,rfl,rfl,rfl,rfl,rfl,rfl,rfl,rfl,rfl,rfl,rfl,rfl⟩) rfl rfl rfl rfl
theorem aq.setW {w:World} {b:Nat} {f:Fl} {er at':Nat} {pv cv zv iv:Value} (h:aq w b f er at' pv cv zv iv) (n:Nat):aq (w.setCell ⟨b,1,none⟩ (.int .i64 (n:Int))) b { f with hd:={ f.hd with W:=n } } er at' pv cv zv iv:=
 h.set 1 _ _ er at' (by omega) (bO ⟨rfl,rfl,rfl,rfl,rfl,rfl,rfl,rfl,rfl,rfl,rfl,rfl,rfl,rfl,rfl,rfl,rfl⟩) rfl rfl rfl rfl
theorem aq.setH {w:World} {b:Nat} {f:Fl} {er at':Nat} {pv cv zv iv:Value} (h:aq w b f er at' pv cv zv iv) (n:Nat):aq (w.setCell ⟨b,2,none⟩ (.int .i64 (n:Int))) b { f with hd:={ f.hd with H:=n } } er at' pv cv zv iv:=
 h.set 2 _ _ er at' (by omega) (bO ⟨rfl,rfl,rfl,rfl,rfl,rfl,rfl,rfl,rfl,rfl,rfl,rfl,rfl,rfl,rfl,rfl,rfl⟩) rfl rfl rfl rfl
theorem aq.setD {w:World} {b:Nat} {f:Fl} {er at':Nat} {pv cv zv iv:Value} (h:aq w b f er at' pv cv zv iv) (n:Nat):aq (w.setCell ⟨b,3,none⟩ (.int .i64 (n:Int))) b { f with hd:={ f.hd with D:=n } } er at' pv cv zv iv:=
 h.set 3 _ _ er at' (by omega) (bO ⟨rfl,rfl,rfl,rfl,rfl,rfl,rfl,rfl,rfl,rfl,rfl,rfl,rfl,rfl,rfl,rfl,rfl⟩) rfl rfl rfl rfl
theorem aq.setK {w:World} {b:Nat} {f:Fl} {er at':Nat} {pv cv zv iv:Value} (h:aq w b f er at' pv cv zv iv) (n:Nat):aq (w.setCell ⟨b,4,none⟩ (.int .i64 (n:Int))) b { f with hd:={ f.hd with K:=n } } er at' pv cv zv iv:=
 h.set 4 _ _ er at' (by omega) (bO ⟨rfl,rfl,rfl,rfl,rfl,rfl,rfl,rfl,rfl,rfl,rfl,rfl,rfl,rfl,rfl,rfl,rfl⟩) rfl rfl rfl rfl
theorem aq.setL {w:World} {b:Nat} {f:Fl} {er at':Nat} {pv cv zv iv:Value} (h:aq w b f er at' pv cv zv iv) (n:Nat):aq (w.setCell ⟨b,5,none⟩ (.int .i64 (n:Int))) b { f with hd:={ f.hd with L:=n } } er at' pv cv zv iv:=
 h.set 5 _ _ er at' (by omega) (bO ⟨rfl,rfl,rfl,rfl,rfl,rfl,rfl,rfl,rfl,rfl,rfl,rfl,rfl,rfl,rfl,rfl,rfl⟩) rfl rfl rfl rfl
theorem aq.drewN {w:World} {b:Nat} {f:Fl} {er at':Nat} {pv cv zv iv:Value} (h:aq w b f er at' pv cv zv iv) (n:Nat):aq (w.drewN n) b f er at' pv cv zv iv:=h.kept ((Kept.refl _).drewN n)
theorem LB (d:ByteArray) (i:Nat) (h:i+4<=d.size):Px.dg (seg d i 4)=((gb d i*256+gb d (i+1))*256+gb d (i+2))*256+gb d (i+3):=by
 rw[kN d i 3 (by omega),kN d i 2 (by omega),kN d i 1 (by omega),kN d i 0 (by omega),iy,iy,iy,iy];rw[mF d (i+3) (by omega),mF d (i+2) (by omega),mF d (i+1) (by omega),mF d (i+0) (by omega)]
 have:Px.dg (seg d i 0)=0:=rfl
 rw[this,Nat.add_zero];omega
theorem NC (d:ByteArray) (i:Nat) (h:i+2<=d.size):Px.dg (seg d i 2)=256*gb d i+gb d (i+1):=by
 rw[kN d i 1 (by omega),kN d i 0 (by omega),iy,iy];rw[mF d (i+1) (by omega),mF d (i+0) (by omega)]
 have:Px.dg (seg d i 0)=0:=rfl
 rw[this,Nat.add_zero];omega
theorem xb (D:Nat) (l:List Nat) (he:l.length % 2=0):cU D l=true ↔ ∃ j,2*j+1<l.length/\2^D<=256*l.getD (2*j) 0+l.getD (2*j+1) 0:=by
 match l,he with
 | [],_=>simp [cU]
 | [_],he=>simp at he
 | x::y::r,he=>
  have he':r.length % 2=0:=by simp at he;omega
  have ih:=xb D r he';unfold cU;rw[Bool.or_eq_true,decide_eq_true_iff,ih]
  constructor
  ·rintro (h | ⟨j,hj,hh⟩)
   ·exact ⟨0,by simp,by simpa using h⟩
   ·exact ⟨j+1,by simp;omega,by simpa [Nat.mul_add,List.getD_eq_getElem?_getD] using hh⟩
  ·rintro ⟨j,hj,hh⟩
   cases j with
   | zero=>left;simpa using hh
   | succ j=>right;exact ⟨j,by simp at hj;omega,by simpa [Nat.mul_add,List.getD_eq_getElem?_getD] using hh⟩
theorem Di (D:Nat) (h:D<=16):2^D<=65536:=by
 have:=Nat.pow_le_pow_right (n:=2) (by omega) h
 simpa using this
theorem EL (b:Nat) (f:Fl) (e a:Nat) (pv cv zv iv:Value) (k d:ByteArray) (w:World) (h:aq w b f e a pv cv zv iv) (hd:d.size<=1048576) (t1:(k.toList == [73,72,68,82])=false) (t2:(k.toList == [80,76,84,69])=true) :
  Calls Tryz.prog 101 #[.pointer (some ⟨b,0,none⟩),.string k,.string d] w fun r w'=>∃ pv',r = .returned (.int .i64 0)/\aq w' b { f with hasPal:=true,pal:=af d } e a pv' cv zv iv/\Below b w w':=by
 have c6:w.cell? ⟨b,6,none⟩=some (.bool f.hasPal):=h.cell 6 (by omega);have hf:=h.fz;have hlt:=h.lt;have H6:Hid (aq (w.setCell ⟨b,6,none⟩ (.bool true)) b { f with hasPal:=true } e a pv cv zv iv):=h.setHasPal;have HO:Hid (Below b w (w.setCell ⟨b,6,none⟩ (.bool true))):=(Below.refl b w).setCell (p:=⟨b,6,none⟩) (Nat.le_refl b) (.bool true);clear h;go_enter Tryz.func101,Tryz.ntmps101;go_wp2_with fail;refine (sD d _ hd).mono ?_;rintro r w1 ⟨⟨v,rfl,hv⟩,hk⟩;obtain ⟨vp,vc,rfl⟩:=ao hv;have h7:=H6.out.kept hk;have c8:w1.cell? ⟨b,8,none⟩=some pv:=h7.cell 8 (by omega);have hf1:=h7.fz;rw[<- av d] at hv;have HF:Hid _:=H6.out.setPal hk _ _ hv;have HK:Hid _:=hk;clear h7 hv hk c6 hf;go_wp2;go_ret;have hx:=HF.out;rw[av d] at hx;exact ⟨_,rfl,hx,Below.setCell (p:=⟨b,8,none⟩) (HO.out.trans (HK.out.mono (by simpa [World.setCell] using Nat.le_of_lt hlt))) (Nat.le_refl b) _⟩
theorem ER (b:Nat) (f:Fl) (e a:Nat) (pv cv zv iv:Value) (k d:ByteArray) (w:World) (h:aq w b f e a pv cv zv iv) (t1:(k.toList == [73,72,68,82])=false) (t2:(k.toList == [80,76,84,69])=false) (t3:(k.toList == [116,82,78,83])=false) (t5:(k.toList == [73,69,78,68])=true) :
  Calls Tryz.prog 101 #[.pointer (some ⟨b,0,none⟩),.string k,.string d] w fun r w'=>r = .returned (.int .i64 0)/\aq w' b { f with done:=true } e a pv cv zv iv/\Below b w w':=by
 have c14:w.cell? ⟨b,14,none⟩=some (.bool f.done):=h.cell 14 (by omega);have hf:=h.fz;have H:Hid _:=h;clear h;go_enter Tryz.func101,Tryz.ntmps101;go_wp2;go_ret;exact ⟨rfl,H.out.setDone,(Below.refl b w).setCell (p:=⟨b,14,none⟩) (Nat.le_refl b) _⟩
theorem ET (b:Nat) (k d:ByteArray) (w:World) (t1:(k.toList == [73,72,68,82])=false) (t2:(k.toList == [80,76,84,69])=false) (t3:(k.toList == [116,82,78,83])=false) (t5:(k.toList == [73,69,78,68])=false) :
  Calls Tryz.prog 101 #[.pointer (some ⟨b,0,none⟩),.string k,.string d] w fun r w'=>r = .returned (.int .i64 0)/\w'=w:=by
 go_enter Tryz.func101,Tryz.ntmps101;go_wp2;go_ret;exact ⟨rfl,rfl⟩
theorem Cq (b:Nat) (f:Fl) (e a:Nat) (pv cv zv iv:Value) (k d:ByteArray) (w:World) (h:aq w b f e a pv cv zv iv) (hd:d.size<=1048576) (hK:f.hd.K=3) (t1:(k.toList == [73,72,68,82])=false) (t2:(k.toList == [80,76,84,69])=false) (t3:(k.toList == [116,82,78,83])=true) :
  Calls Tryz.prog 101 #[.pointer (some ⟨b,0,none⟩),.string k,.string d] w fun r w'=>∃ cv',r = .returned (.int .i64 0)/\aq w' b { f with hasClear:=true,clear:=af d } e a pv cv' zv iv/\Below b w w':=by
 have c4:w.cell? ⟨b,4,none⟩=some (.int .i64 (f.hd.K:Int)):=h.cell 4 (by omega);rw[hK] at c4;have c7:w.cell? ⟨b,7,none⟩=some (.bool f.hasClear):=h.cell 7 (by omega);have hf:=h.fz;have hlt:=h.lt;have HO:Hid (Below b w (w.setCell ⟨b,7,none⟩ (.bool true))):=(Below.refl b w).setCell (p:=⟨b,7,none⟩) (Nat.le_refl b) (.bool true);have H6:Hid (aq (w.setCell ⟨b,7,none⟩ (.bool true)) b { f with hasClear:=true } e a pv cv zv iv):=h.setHasClear;clear h hK;go_enter Tryz.func101,Tryz.ntmps101;go_wp2_with fail;go_loop [] (True) (0)
 case atStart=>trivial
 case round=>
  go_wp2_with fail;refine (sD d _ hd).mono ?_;rintro r w1 ⟨⟨v,rfl,hv⟩,hk⟩;obtain ⟨vp,vc,rfl⟩:=ao hv;have h7:=H6.out.kept hk;have c9:w1.cell? ⟨b,9,none⟩=some cv:=h7.cell 9 (by omega);have hf1:=h7.fz;rw[<- av d] at hv;have HF:Hid _:=H6.out.setClear hk _ _ hv;have HK:Hid _:=hk;clear h7 hv hk c7 hf;go_wp2;go_ret;have hx:=HF.out;rw[av d] at hx;exact ⟨_,rfl,hx,Below.setCell (p:=⟨b,9,none⟩) (HO.out.trans (HK.out.mono (by simpa [World.setCell] using Nat.le_of_lt hlt))) (Nat.le_refl b) _⟩
theorem Cp (b:Nat) (f:Fl) (e a:Nat) (pv cv zv iv:Value) (k d:ByteArray) (w:World) (h:aq w b f e a pv cv zv iv) (hd:d.size<=1048576) (h2:d.size % 2=0) (hK:f.hd.K≠3) (hD:f.hd.D<=16) (t1:(k.toList == [73,72,68,82])=false) (t2:(k.toList == [80,76,84,69])=false) (t3:(k.toList == [116,82,78,83])=true) :
  Calls Tryz.prog 101 #[.pointer (some ⟨b,0,none⟩),.string k,.string d] w fun r w'=>(r = .returned (.int .i64 9)/\cU f.hd.D (af d)=true/\w'=w)\/(∃ cv',r = .returned (.int .i64 0)/\cU f.hd.D (af d)=false/\aq w' b { f with hasClear:=true,clear:=af d } e a pv cv' zv iv/\Below b w w'):=by
 have c4:w.cell? ⟨b,4,none⟩=some (.int .i64 (f.hd.K:Int)):=h.cell 4 (by omega);have c3:w.cell? ⟨b,3,none⟩=some (.int .i64 (f.hd.D:Int)):=h.cell 3 (by omega);have g4:((f.hd.K:Int) != 3)=true:=by rw[bne_iff_ne];omega
 have c7:w.cell? ⟨b,7,none⟩=some (.bool f.hasClear):=h.cell 7 (by omega);have hf:=h.fz;have hlt:=h.lt;have hpw:=Di f.hd.D hD;have HO:Hid (Below b w (w.setCell ⟨b,7,none⟩ (.bool true))):=(Below.refl b w).setCell (p:=⟨b,7,none⟩) (Nat.le_refl b) (.bool true);have H6:Hid (aq (w.setCell ⟨b,7,none⟩ (.bool true)) b { f with hasClear:=true } e a pv cv zv iv):=h.setHasClear;have HP:Hid (cU f.hd.D (af d)=true ↔ ∃ j,2*j+1<d.size/\2^f.hd.D<=256*gb d (2*j)+gb d (2*j+1)):=by
  have:=xb f.hd.D (af d) (by rw[av];exact h2)
  rw[av] at this;exact this
 clear h hK;go_enter Tryz.func101,Tryz.ntmps101;go_wp2_with fail;go_loop [10] (fun i=>∃ j:Nat,2*j<=d.size/\i = .int .i64 ((2*j:Nat):Int)/\Hid (∀ q,q<j->¬ 2^f.hd.D<=256*gb d (2*q)+gb d (2*q+1))) (fun i=>d.size - (intOf i).toNat)
 case atStart=>exact ⟨0,by omega,rfl,fun q hq=>by omega⟩
 case round=>
  obtain ⟨j,hj,rfl,HB⟩:=hrel;by_cases hlt2:2*j<d.size
  ·obtain ⟨V,hV⟩:∃ V,V=256*gb d (2*j)+gb d (2*j+1):=⟨_,rfl⟩
   have F:Hid (∀ W,Calls Tryz.prog 98 #[.string d,.int .i64 (2*(j:Int)),.int .i64 2] W fun r w'=>r = .returned (.int .i64 (V:Int))/\w'=W):=fun W=>by
    have:=qD d (2*j) 2 W (by omega) (by omega) (by omega)
    rw[NC d (2*j) (by omega),<- hV,Int.natCast_mul] at this;exact this
   have HV:Hid (V=256*gb d (2*j)+gb d (2*j+1)):=hV;clear hV;go_wp2_with fail;refine (F.out _).mono ?_;rintro r w' ⟨rfl,rfl⟩;have HW:Hid (wrap64 (2^f.hd.D)=((2^f.hd.D:Nat):Int)):=by
    show wrap64 (2^f.hd.D)=((2^f.hd.D:Nat):Int)
    rw[show (2:Int)^f.hd.D=((2^f.hd.D:Nat):Int) from by simp];generalize 2^f.hd.D=m at *;unfold wrap64;omega
   go_wp2
   ·rename_i hle
    rw[HW.out] at hle;go_ret;exact Or.inl ⟨rfl,HP.out.2 ⟨j,by omega,by have:=HV.out;omega⟩,rfl⟩
   ·rename_i hle
    rw[HW.out] at hle;refine ⟨⟨j+1,by omega,by go_num,fun q hq => ?_⟩,by simp [intOf];omega⟩;by_cases e:q=j
    ·subst e;have:=HV.out;omega
    ·exact HB.out q (by omega)
  ·go_wp2_with fail
   refine (sD d _ hd).mono ?_;rintro r w1 ⟨⟨v,rfl,hv⟩,hk⟩;obtain ⟨vp,vc,rfl⟩:=ao hv;have h7:=H6.out.kept hk;have c9:w1.cell? ⟨b,9,none⟩=some cv:=h7.cell 9 (by omega);have hf1:=h7.fz;rw[<- av d] at hv;have HF:Hid _:=H6.out.setClear hk _ _ hv;have HK:Hid _:=hk;clear h7 hv hk c7 hf;go_wp2;go_ret;have hx:=HF.out;rw[av d] at hx;refine Or.inr ⟨_,rfl,?_,hx,Below.setCell (p:=⟨b,9,none⟩) (HO.out.trans (HK.out.mono (by simpa [World.setCell] using Nat.le_of_lt hlt))) (Nat.le_refl b) _⟩
   ·rw[Bool.eq_false_iff]
    intro hbad;obtain ⟨q,hq,hh⟩:=HP.out.1 hbad;exact HB.out q (by omega) hh
theorem ES (b:Nat) (f:Fl) (e a:Nat) (pv cv zv iv:Value) (k d:ByteArray) (w:World) (h:aq w b f e a pv cv zv iv) (t1:(k.toList == [73,72,68,82])=true) (hd:d.size=13) (WN HN D8 D9 D12:Nat)
  (F1:Hid (∀ W,Calls Tryz.prog 98 #[.string d,.int .i64 0,.int .i64 4] W fun r w'=>r = .returned (.int .i64 (WN:Int))/\w'=W))
  (F2:Hid (∀ W,Calls Tryz.prog 98 #[.string d,.int .i64 4,.int .i64 4] W fun r w'=>r = .returned (.int .i64 (HN:Int))/\w'=W))
  (p8:8<d.size) (p9:9<d.size) (p10:10<d.size) (p11:11<d.size) (p12:12<d.size)
  (F3:Hid (∀ W,Calls Tryz.prog 131 #[.int .i64 (d[9].toNat:Int),.int .i64 (d[8].toNat:Int)] W fun r w'=>r = .returned (.bool true)/\w'=W))
  (E8:Hid (d[8].toNat=D8)) (E9:Hid (d[9].toNat=D9)) (E12:Hid (d[12].toNat=D12)) (l8:d[8].toNat<256) (l9:d[9].toNat<256) (l12:d[12].toNat<256)
  (b1:((WN:Int) == 0)=false) (b2:((HN:Int) == 0)=false) (b3:decide ((2147483648:Int)<=(WN:Int))=false) (b4:decide ((2147483648:Int)<=(HN:Int))=false)
  (n10:d[10].toNat=0) (n11:d[11].toNat=0) (n12:(d[12].toNat:Int)<=1) (t6:(WN:Int)<=16) (t7:(HN:Int)<=16) :
  Calls Tryz.prog 101 #[.pointer (some ⟨b,0,none⟩),.string k,.string d] w fun r w'=>r = .returned (.int .i64 0)/\aq w' b { f with on:=true,hd:=⟨WN,HN,D8,D9,D12⟩ } e a pv cv zv iv/\Below b w w':=by
 have c0:w.cell? ⟨b,0,none⟩=some (.bool f.on):=h.cell 0 (by omega);have c1:w.cell? ⟨b,1,none⟩=some (.int .i64 (f.hd.W:Int)):=h.cell 1 (by omega);have c2:w.cell? ⟨b,2,none⟩=some (.int .i64 (f.hd.H:Int)):=h.cell 2 (by omega);have c3:w.cell? ⟨b,3,none⟩=some (.int .i64 (f.hd.D:Int)):=h.cell 3 (by omega);have c4:w.cell? ⟨b,4,none⟩=some (.int .i64 (f.hd.K:Int)):=h.cell 4 (by omega);have c5:w.cell? ⟨b,5,none⟩=some (.int .i64 (f.hd.L:Int)):=h.cell 5 (by omega);have hf:=h.fz;have hds:(d.size:Int)=13:=by omega
 have HQ:Hid (∀ n,aq (((((((w.drewN n).setCell ⟨b,0,none⟩ (.bool true)).setCell ⟨b,1,none⟩ (.int .i64 (WN:Int))).setCell ⟨b,2,none⟩ (.int .i64 (HN:Int))).setCell ⟨b,3,none⟩ (.int .i64 (d[8].toNat:Int))).setCell ⟨b,4,none⟩ (.int .i64 (d[9].toNat:Int))).setCell ⟨b,5,none⟩ (.int .i64 (d[12].toNat:Int))) b { f with on:=true,hd:=⟨WN,HN,D8,D9,D12⟩ } e a pv cv zv iv):=by
  intro n;rw[E8.out,E9.out,E12.out];exact ((((((h.drewN n).setOn).setW WN).setH HN).setD D8).setK D9).setL D12
 have HO:Hid (∀ n,Below b w (((((((w.drewN n).setCell ⟨b,0,none⟩ (.bool true)).setCell ⟨b,1,none⟩ (.int .i64 (WN:Int))).setCell ⟨b,2,none⟩ (.int .i64 (HN:Int))).setCell ⟨b,3,none⟩ (.int .i64 (d[8].toNat:Int))).setCell ⟨b,4,none⟩ (.int .i64 (d[9].toNat:Int))).setCell ⟨b,5,none⟩ (.int .i64 (d[12].toNat:Int)))) :=
  fun n=>by
   have h0:Below b w (w.drewN n):=below_drewN (Below.refl b w) n;have h1:=h0.setCell (p:=⟨b,0,none⟩) (Nat.le_refl b) (.bool true);have h2:=h1.setCell (p:=⟨b,1,none⟩) (Nat.le_refl b) (.int .i64 (WN:Int));have h3:=h2.setCell (p:=⟨b,2,none⟩) (Nat.le_refl b) (.int .i64 (HN:Int));have h4:=h3.setCell (p:=⟨b,3,none⟩) (Nat.le_refl b) (.int .i64 (d[8].toNat:Int));have h5:=h4.setCell (p:=⟨b,4,none⟩) (Nat.le_refl b) (.int .i64 (d[9].toNat:Int));exact h5.setCell (p:=⟨b,5,none⟩) (Nat.le_refl b) (.int .i64 (d[12].toNat:Int))
 clear h;go_enter Tryz.func101,Tryz.ntmps101;go_wp2_with fail;refine (F1.out _).mono ?_;rintro r w' ⟨rfl,rfl⟩;go_wp2_with fail;refine (F2.out _).mono ?_;rintro r w' ⟨rfl,rfl⟩;go_wp2_with fail;go_quiet ((go_at_call 131;exact Calls.quiet_of_same (F3.out _)))
 go_wp2_with fail;go_ret;exact ⟨rfl,HQ.out nq,HO.out nq⟩
theorem EP (b:Nat) (f:Fl) (e a:Nat) (pv cv zv iv:Value) (k d:ByteArray) (w:World) (h:aq w b f e a pv cv zv iv) (t1:(k.toList == [73,72,68,82])=true) (hd:d.size=13) :
  Calls Tryz.prog 101 #[.pointer (some ⟨b,0,none⟩),.string k,.string d] w fun r w'=>r = .returned (.int .i64 ((aB (gb d)).1:Int))/\aq w' b (if (aB (gb d)).1≠0 then f else { f with on:=true,hd:=(aB (gb d)).2 }) e a pv cv zv iv/\Below b w w':=by
 have c0:w.cell? ⟨b,0,none⟩=some (.bool f.on):=h.cell 0 (by omega);have c1:w.cell? ⟨b,1,none⟩=some (.int .i64 (f.hd.W:Int)):=h.cell 1 (by omega);have c2:w.cell? ⟨b,2,none⟩=some (.int .i64 (f.hd.H:Int)):=h.cell 2 (by omega);have c3:w.cell? ⟨b,3,none⟩=some (.int .i64 (f.hd.D:Int)):=h.cell 3 (by omega);have c4:w.cell? ⟨b,4,none⟩=some (.int .i64 (f.hd.K:Int)):=h.cell 4 (by omega);have c5:w.cell? ⟨b,5,none⟩=some (.int .i64 (f.hd.L:Int)):=h.cell 5 (by omega);have hf:=h.fz;have hds:(d.size:Int)=13:=by omega
 have F1:Hid (∀ W,Calls Tryz.prog 98 #[.string d,.int .i64 0,.int .i64 4] W fun r w'=>r = .returned (.int .i64 (wN (gb d):Int))/\w'=W):=fun W=>by
  have:=qD d 0 4 W (by omega) (by omega) (by omega)
  rw[LB d 0 (by omega)] at this;exact this
 have F2:Hid (∀ W,Calls Tryz.prog 98 #[.string d,.int .i64 4,.int .i64 4] W fun r w'=>r = .returned (.int .i64 (hN (gb d):Int))/\w'=W):=fun W=>by
  have:=qD d 4 4 W (by omega) (by omega) (by omega)
  rw[LB d 4 (by omega)] at this;exact this
 have p8:8<d.size:=by omega
 have p9:9<d.size:=by omega
 have p10:10<d.size:=by omega
 have p11:11<d.size:=by omega
 have p12:12<d.size:=by omega
 have E8:Hid (d[8].toNat=gb d 8):=mF d 8 p8;have E9:Hid (d[9].toNat=gb d 9):=mF d 9 p9;have E10:Hid (d[10].toNat=gb d 10):=mF d 10 p10;have E11:Hid (d[11].toNat=gb d 11):=mF d 11 p11;have E12:Hid (d[12].toNat=gb d 12):=mF d 12 p12;have l8:=d[8].toNat_lt;have l9:=d[9].toNat_lt;have l12:=d[12].toNat_lt;have hwl:wN (gb d)<4294967296:=by have:=fJ d 0;have:=fJ d 1;have:=fJ d 2;have:=fJ d 3;unfold wN;omega
 have hhl:hN (gb d)<4294967296:=by have:=fJ d 4;have:=fJ d 5;have:=fJ d 6;have:=fJ d 7;unfold hN;omega
 have hq:=uG (gb d);have F3:Hid (∀ W,Calls Tryz.prog 131 #[.int .i64 (d[9].toNat:Int),.int .i64 (d[8].toNat:Int)] W fun r w'=>r = .returned (.bool (kZ (gb d 9) (gb d 8)))/\w'=W):=fun W=>by
  have:=Cc d[9].toNat d[8].toNat W
  rw[E8.out,E9.out] at this ⊢;exact this
 generalize hWN:wN (gb d)=WN at *;generalize hHN:hN (gb d)=HN at *;generalize hLG:kZ (gb d 9) (gb d 8)=LG at *;clear hWN hHN hLG;by_cases g1:WN=0\/HN=0\/2147483648<=WN\/2147483648<=HN\/LG=false
 ·rw[if_pos g1] at hq
  rw[hq,if_pos (by decide)];clear hq;have g2:((WN:Int) == 0)=true\/(((WN:Int) == 0)=false/\((HN:Int) == 0)=true)\/(((WN:Int) == 0)=false/\((HN:Int) == 0)=false/\decide ((2147483648:Int)<=(WN:Int))=true)
    \/ (((WN:Int) == 0)=false/\((HN:Int) == 0)=false/\decide ((2147483648:Int)<=(WN:Int))=false/\decide ((2147483648:Int)<=(HN:Int))=true)
    \/ (((WN:Int) == 0)=false/\((HN:Int) == 0)=false/\decide ((2147483648:Int)<=(WN:Int))=false/\decide ((2147483648:Int)<=(HN:Int))=false/\LG=false):=by
   simp only [beq_iff_eq,beq_eq_false_iff_ne,decide_eq_true_eq,decide_eq_false_iff_not];cases LG
   ·simp;omega
   ·simp at g1 ⊢;omega
  clear g1;rcases g2 with b1 | ⟨b1,b2⟩ | ⟨b1,b2,b3⟩ | ⟨b1,b2,b3,b4⟩ | ⟨b1,b2,b3,b4,rfl⟩
  all_goals
   go_enter Tryz.func101,Tryz.ntmps101;go_wp2_with fail;refine (F1.out _).mono ?_;rintro r w' ⟨rfl,rfl⟩;go_wp2_with fail;refine (F2.out _).mono ?_;rintro r w' ⟨rfl,rfl⟩;go_wp2_with fail;go_quiet ((go_at_call 131;exact Calls.quiet_of_same (F3.out _)))
   go_wp2_with fail;go_ret;exact ⟨rfl,h.drewN _,below_drewN (Below.refl _ _) _⟩
 ·rw[if_neg g1] at hq
  have b1:((WN:Int) == 0)=false:=beq_eq_false_iff_ne.2 (by omega);have b2:((HN:Int) == 0)=false:=beq_eq_false_iff_ne.2 (by omega);have b3:decide ((2147483648:Int)<=(WN:Int))=false:=decide_eq_false (by omega);have b4:decide ((2147483648:Int)<=(HN:Int))=false:=decide_eq_false (by omega);have b5:LG=true:=by
   cases LG
   ·exact absurd (Or.inr (Or.inr (Or.inr (Or.inr rfl)))) g1
   ·rfl
  subst b5;clear g1;have e10:=E10.out;have e11:=E11.out;have e12:=E12.out;by_cases g2:gb d 10≠0\/gb d 11≠0\/1<gb d 12
  ·rw[if_pos g2] at hq
   rw[hq,if_pos (by decide)];have HT:Hid (d[10].toNat≠0\/d[11].toNat≠0\/1<d[12].toNat):=by show _\/_;rw[e10,e11,e12];exact g2
   clear g2 hq e10 e11 e12;go_enter Tryz.func101,Tryz.ntmps101;go_wp2_with fail;refine (F1.out _).mono ?_;rintro r w' ⟨rfl,rfl⟩;go_wp2_with fail;refine (F2.out _).mono ?_;rintro r w' ⟨rfl,rfl⟩;go_wp2_with fail;go_quiet ((go_at_call 131;exact Calls.quiet_of_same (F3.out _)))
   go_wp2_with fail
   all_goals first
    | (exfalso;have:=HT.out;(try simp only [bne_iff_ne,bne_eq_false_iff_eq,ne_eq] at *);omega)
    | (go_ret;exact ⟨rfl,h.drewN _,below_drewN (Below.refl _ _) _⟩)
  ·rw[if_neg g2] at hq
   have n10:d[10].toNat=0:=by omega
   have n11:d[11].toNat=0:=by omega
   have n12:(d[12].toNat:Int)<=1:=by omega
   clear e10 e11 e12 g2;by_cases g3:16<WN\/16<HN
   ·rw[if_pos g3] at hq
    rw[hq,if_pos (by decide)];have HT:Hid (16<WN\/16<HN):=g3;clear g3 hq;go_enter Tryz.func101,Tryz.ntmps101;go_wp2_with fail;refine (F1.out _).mono ?_;rintro r w' ⟨rfl,rfl⟩;go_wp2_with fail;refine (F2.out _).mono ?_;rintro r w' ⟨rfl,rfl⟩;go_wp2_with fail;go_quiet ((go_at_call 131;exact Calls.quiet_of_same (F3.out _)))
    go_wp2_with fail
    all_goals first
     | (exfalso;have:=HT.out;omega)
     | (go_ret;exact ⟨rfl,h.drewN _,below_drewN (Below.refl _ _) _⟩)
   ·rw[if_neg g3] at hq
    rw[hq,if_neg (by simp)];exact ES b f e a pv cv zv iv k d w h t1 hd WN HN _ _ _ F1 F2 p8 p9 p10 p11 p12 F3 E8 E9 E12 l8 l9 l12 b1 b2 b3 b4 n10 n11 n12 (by omega) (by omega)
theorem Ip (b:Nat) (f:Fl) (e a:Nat) (pv cv zv iv:Value) (k d:ByteArray) (w:World) (h:aq w b f e a pv cv zv iv) (hk:k.size=4) (hd:d.size<=1048576) (h1:ty k=aY->d.size=13) (h3:ty k=bY->f.hd.K≠3->d.size % 2=0/\f.hd.D<=16) :
  Calls Tryz.prog 101 #[.pointer (some ⟨b,0,none⟩),.string k,.string d] w fun r w'=>∃ pv' cv',r = .returned (.int .i64 ((f.ends (ty k) (af d)).2:Int))/\aq w' b (f.ends (ty k) (af d)).1 e a pv' cv' zv iv/\Below b w w':=by
 have t1:=xH k hk;have t2:=C7 k hk;have t3:=CZ k hk;have t5:=C8 k hk;by_cases e1:ty k=aY
 ·rw[decide_eq_true e1] at t1
  refine (EP b f e a pv cv zv iv k d w h t1 (h1 e1)).mono ?_;rintro r w' ⟨rfl,hf,hw⟩;have hq:f.ends (ty k) (af d)=if (aB (gb d)).1≠0 then (f,(aB (gb d)).1) else ({ f with on:=true,hd:=(aB (gb d)).2 },0):=by
   unfold Fl.ends;rw[if_pos e1];rfl
  by_cases hz:(aB (gb d)).1≠0
  ·rw[if_pos hz] at hq hf;rw[hq];exact ⟨_,_,rfl,hf,hw⟩
  ·rw[if_neg hz] at hq hf;rw[hq];refine ⟨_,_,?_,hf,hw⟩;rw[show (aB (gb d)).1=0 from by omega]
 ·rw[decide_eq_false e1] at t1
  by_cases e2:ty k=cj
  ·rw[decide_eq_true e2] at t2
   have hq:f.ends (ty k) (af d)=({ f with hasPal:=true,pal:=af d },0):=by
    unfold Fl.ends;rw[if_neg e1,if_pos e2]
   rw[hq];refine (EL b f e a pv cv zv iv k d w h hd t1 t2).mono ?_;rintro r w' ⟨pv',rfl,hf,hw⟩;exact ⟨_,_,rfl,hf,hw⟩
  ·rw[decide_eq_false e2] at t2
   by_cases e3:ty k=bY
   ·rw[decide_eq_true e3] at t3
    have hq:f.ends (ty k) (af d)=if f.hd.K≠3/\cU f.hd.D (af d)=true then (f,9) else ({ f with hasClear:=true,clear:=af d },0):=by
     unfold Fl.ends;rw[if_neg e1,if_neg e2,if_pos e3]
    by_cases hK:f.hd.K=3
    ·rw[if_neg (fun h=>h.1 hK)] at hq
     rw[hq];refine (Cq b f e a pv cv zv iv k d w h hd hK t1 t2 t3).mono ?_;rintro r w' ⟨cv',rfl,hf,hw⟩;exact ⟨_,_,rfl,hf,hw⟩
    ·refine (Cp b f e a pv cv zv iv k d w h hd (h3 e3 hK).1 hK (h3 e3 hK).2 t1 t2 t3).mono ?_
     rintro r w' (⟨rfl,hb,rfl⟩ | ⟨cv',rfl,hb,hf,hw⟩)
     ·rw[if_pos ⟨hK,hb⟩] at hq;rw[hq];exact ⟨_,_,rfl,h,Below.refl _ _⟩
     ·rw[if_neg (by rw[hb];simp)] at hq;rw[hq];exact ⟨_,_,rfl,hf,hw⟩
   ·rw[decide_eq_false e3] at t3
    by_cases e5:ty k=cS
    ·rw[decide_eq_true e5] at t5
     have hq:f.ends (ty k) (af d)=({ f with done:=true },0):=by unfold Fl.ends;rw[if_neg e1,if_neg e2,if_neg e3,if_pos e5]
     rw[hq];refine (ER b f e a pv cv zv iv k d w h t1 t2 t3 t5).mono ?_;rintro r w' ⟨rfl,hf,hw⟩;exact ⟨_,_,rfl,hf,hw⟩
    ·rw[decide_eq_false e5] at t5
     have hq:f.ends (ty k) (af d)=(f,0):=by unfold Fl.ends;rw[if_neg e1,if_neg e2,if_neg e3,if_neg e5]
     rw[hq];refine (ET b k d w t1 t2 t3 t5).mono ?_;rintro r w' ⟨rfl,rfl⟩;exact ⟨_,_,rfl,h,Below.refl _ _⟩
theorem Ke:(Tryz.prog.info? 146).map (fun i=>(i.zero,i.size,i.bytes))=some (some (.agg #[.int .i64 0,.int .i64 0,.int .i64 0,.int .i64 0,.int .i64 0]),5,40):=by kernel_rfl
theorem NK (x n d:Nat) (hx:x<=16) (hn:n<=4) (hd:d<=16):x*n<=64/\x*n*d<=1024:=⟨Nat.mul_le_mul hx hn,Nat.mul_le_mul (Nat.mul_le_mul hx hn) hd⟩
def kO (h:Hd):List (Nat × Nat)->Nat->List Value
 | [],_=>[]
 | x::rs,a=>[.int .i64 (x.1:Int),.int .i64 (x.2:Int),.int .i64 (a:Int),.int .i64 (bX h x.1:Int),.int .i64 (aL h x.1:Int)]++kO h rs (a+(1+aL h x.1))
theorem wX (h:Hd) (x:Nat × Nat):∀ (rs:List (Nat × Nat)) (a:Nat),kO h (rs++[x]) a=kO h rs a++[.int .i64 (x.1:Int),.int .i64 (x.2:Int),.int .i64 ((a+aH h rs:Nat):Int),.int .i64 (bX h x.1:Int),.int .i64 (aL h x.1:Int)]
 | [],a=>by simp [kO,aH]
 | y::rs,a=>by
  rw[List.cons_append,kO,kO,wX h x rs,aH,List.append_assoc];rw[show a+(1+aL h y.1)+aH h rs=a+(1+aL h y.1+aH h rs) by omega]
theorem vH (h:Hd):∀ (n p:Nat),ay h (n+1) p=ay h n p++(if 0<bX h (p+n) then fw h (p+n) 0 else [])
 | 0,p=>by simp [ay]
 | n+1,p=>by
  rw[ay,vH h n (p+1)]
  conv=>rhs;rw[ay]
  rw[List.append_assoc,show p+1+n=p+(n+1) by omega]
def qC (p n:Nat):List (Nat × Nat):=(List.range' 0 n).map fun j=>(p,j)
theorem Ed (p n:Nat):qC p (n+1)=qC p n++[(p,n)]:=by
 unfold qC;rw[List.range'_concat];simp
structure vd (h:Hd) (w1:World) (B:Nat) (v:Value) (n:Nat) (rs:List (Nat × Nat)) (Wd:World):Prop where
 own:Wd.ownsRow (B+1) 146 5 v rs.length (kO h rs 0)
 tot:n=aH h rs
 big:n<=200*rs.length
 below:Below (B+1) w1 Wd
theorem vd.drewN {h:Hd} {w1:World} {B:Nat} {v:Value} {n:Nat} {rs:List (Nat × Nat)} {Wd:World} (k:vd h w1 B v n rs Wd) (q:Nat):vd h w1 B v n rs (Wd.drewN q) :=
 ⟨k.own,k.tot,k.big,below_drewN k.below q⟩
theorem vd.re {h:Hd} {w1:World} {B:Nat} {v:Value} {n:Nat} {rs rs':List (Nat × Nat)} {Wd:World} (k:vd h w1 B v n rs Wd) (e:rs=rs'):vd h w1 B v n rs' Wd:=e ▸ k
theorem GA (h:Hd) (w:World) (hW:h.W<=16) (hH:h.H<=16) (hD:h.D<=16) (hL:h.L<=1) (hK:kindOk h.K) :
  Calls Tryz.prog 70 #[.int .i64 (h.W:Int),.int .i64 (h.H:Int),.int .i64 (h.K:Int),.int .i64 (h.D:Int),.int .i64 (h.L:Int)] w fun r w'=>
   (∃ v,r = .returned (.tuple #[v,.int .i64 (aH h (ay h (aF h.L) 0):Int)])/\w'.ownsRow w.heap.size 146 5 v (ay h (aF h.L) 0).length (kO h (ay h (aF h.L) 0) 0))/\Kept w w':=by
 obtain ⟨i0,hi,hz0,hz1,hz2⟩:=info_parts Ke;have HCL:Hid (∀ q,bX h q=bz (aK h.L q).cf (aK h.L q).cs h.W/\fF h q=bz (aK h.L q).rf (aK h.L q).rs h.H):=fun q=>⟨rfl,rfl⟩
 have HSZ:Hid (∀ q,aL h q=(bX h q*(uB h.K*h.D)+7) / 8):=fun q=>by rw[zS hK];rfl
 go_enter Tryz.func70,Tryz.ntmps70;go_wp2_with fail;refine (vO h.L _ hL).mono ?_;rintro r w1 ⟨rfl,hps,hk1⟩;have hB:w.heap.size<w1.heap.size:=hps.lt;have hcb:=wy h.L;obtain ⟨NP,hNP⟩:∃ NP,NP=aF h.L:=⟨_,rfl⟩;rw[<- hNP] at hcb ⊢;have HNP:Hid (NP=aF h.L):=hNP;clear hNP;go_wp2;go_loopw [12,13,15] (fun v a p Wd=>∃ (n q:Nat),a = .int .i64 (n:Int)/\p = .int .i64 (q:Int)/\q<=NP/\(ay h q 0).length<=16*q/\vd h w1 w.heap.size v n (ay h q 0) Wd) (fun _ _ p _=>NP - (intOf p).toNat)
 case atStart=>exact ⟨0,0,rfl,rfl,by omega,by show 0<=_;omega,⟨World.ownsRow_nil _ _ _ _,rfl,by show 0<=_;omega,Below.refl _ _⟩⟩
 case round=>
  obtain ⟨n,q,rfl,rfl,hq,hk16,R⟩:=hrel;by_cases hlt:q<NP
  ·have tw:=LK h.L q (by rw[<- HNP.out];exact hlt)
   have cc:∀ j,j<6->wr.cell? ⟨w.heap.size,q*6+j,none⟩=some (.int .i64 (pv h.L q j:Int)):=fun j hj=>(R.below.cell (p:=⟨w.heap.size,q*6+j,none⟩) (by show w.heap.size<w.heap.size+1;omega)).trans (hps.cell q j (by rw[<- HNP.out];exact hlt) hj)
   have x0:=cc 0 (by omega);rw[Nat.add_zero] at x0;have x1:=cc 1 (by omega);have x2:=cc 2 (by omega);have x3:=cc 3 (by omega);have FX:Hid (∀ Wd,Calls Tryz.prog 111 #[.int .i64 (h.W:Int),.int .i64 (pv h.L q 0:Int),.int .i64 (pv h.L q 2:Int)] Wd fun r w'=>r = .returned (.int .i64 (bX h q:Int))/\w'=Wd):=fun Wd=>Al h.W (aK h.L q).cf (aK h.L q).cs Wd hW tw.2.2.1 tw.1
   have FY:Hid (∀ Wd,Calls Tryz.prog 111 #[.int .i64 (h.H:Int),.int .i64 (pv h.L q 1:Int),.int .i64 (pv h.L q 3:Int)] Wd fun r w'=>r = .returned (.int .i64 (fF h q:Int))/\w'=Wd):=fun Wd=>Al h.H (aK h.L q).rf (aK h.L q).rs Wd hH tw.2.2.2 tw.2.1
   have hX:bX h q<=16:=fM (ff _ _).2.1 hW;have hY:fF h q<=16:=fM (ff _ _).2.2.2.2.2.1 hH;have HSq:=HSZ.out q;have HRS:Hid (ay h (q+1) 0=ay h q 0++(if 0<bX h q then qC q (fF h q) else [])):=by
    have:=vH h q 0
    rw[Nat.zero_add] at this;exact this
   have hlt':(q:Int)<(NP:Int):=by omega
   obtain ⟨X,hXe⟩:∃ X,X=bX h q:=⟨_,rfl⟩;obtain ⟨Y,hYe⟩:∃ Y,Y=fF h q:=⟨_,rfl⟩;rw[<- hXe] at hX FX HRS HSq;rw[<- hYe] at hY FY HRS;have HXe:Hid (X=bX h q):=hXe;have HYe:Hid (Y=fF h q):=hYe;generalize pv h.L q 0=P0 at *;generalize pv h.L q 1=P1 at *;generalize pv h.L q 2=P2 at *;generalize pv h.L q 3=P3 at *;clear cc tw hXe hYe;go_wp2;go_quiet ((go_at_call 111;exact Calls.quiet_of_same (FX.out _)))
   have R2:vd h w1 w.heap.size tP n (ay h q 0) (wr.drewN nq):=R.drewN nq;have y1:(wr.drewN nq).cell? ⟨w.heap.size,q*6+1,none⟩=some (.int .i64 (P1:Int)):=x1;have y3:(wr.drewN nq).cell? ⟨w.heap.size,q*6+3,none⟩=some (.int .i64 (P3:Int)):=x3;generalize wr.drewN nq=wr2 at *;clear x0 x1 x2 x3 R;go_wp2;go_quiet ((go_at_call 111;exact Calls.quiet_of_same (FY.out _)))
   have R3:vd h w1 w.heap.size tP n (ay h q 0) (wr2.drewN nq):=R2.drewN nq;generalize wr2.drewN nq=wr3 at *;clear y1 y3 R2;have hS:=Dd h.K;have FS:Hid (∀ Wd,Calls Tryz.prog 80 #[.int .i64 (h.K:Int)] Wd fun r w'=>r = .returned (.int .i64 (uB h.K:Int))/\w'=Wd):=fun Wd=>ly h.K Wd
   obtain ⟨S,hSe⟩:∃ S,S=uB h.K:=⟨_,rfl⟩;rw[<- hSe] at hS FS HSq;replace hSe:Hid _:=hSe;have hm:=NK X S h.D hX hS hD;obtain ⟨XS,hXS⟩:∃ XS,XS=X*S:=⟨_,rfl⟩;obtain ⟨XD,hXD⟩:∃ XD,XD=XS*h.D:=⟨_,rfl⟩;have m1:(X:Int)*(S:Int)=(XS:Int):=by rw[hXS,Int.natCast_mul]
   have m2:(XS:Int)*(h.D:Int)=(XD:Int):=by rw[hXD,Int.natCast_mul]
   rw[<- hXS,<- hXD] at hm;have HSB:Hid (aL h q=(XD+7) / 8):=by show aL h q=_;rw[HSq,<- Nat.mul_assoc,<- hXS,<- hXD]
   replace hXS:Hid _:=hXS;replace hXD:Hid _:=hXD;have hm1:=hm.1;have hm2:=hm.2;clear hm HSq;go_wp2_with (go_at_call 80;refine (FS.out _).mono ?_;rintro r w' ⟨rfl,rfl⟩)
   obtain ⟨BB,hBB,hB128⟩:∃ BB:Nat,((XD:Int)+7) / 8=(BB:Int)/\BB<=128:=⟨(XD+7) / 8,by omega,by omega⟩;rw[hBB];have HBB:Hid (aL h q=BB):=by show aL h q=BB;rw[HSB.out];omega
   clear hBB;go_loopw [12,13,20] (fun v a j Wd=>∃ (n2 q2:Nat),a = .int .i64 (n2:Int)/\j = .int .i64 (q2:Int)/\q2<=Y/\(0<q2->0<X)/\vd h w1 w.heap.size v n2 (ay h q 0++qC q q2) Wd) (fun _ _ j _=>Y - (intOf j).toNat)
   case atStart=>exact ⟨n,0,rfl,rfl,by omega,by omega,by show vd h w1 w.heap.size _ n (ay h q 0++[]) _;rw[List.append_nil];exact R3⟩
   case round=>
    clear R3;obtain ⟨n2,q2,rfl,rfl,hq2,hqX,R⟩:=hrel;have hn2:=R.big;have hlen:(ay h q 0++qC q q2).length=(ay h q 0).length+q2:=by simp [qC]
    by_cases h2:q2<Y
    ·by_cases hX0:0<X
     ·have hX0':(0:Int)<(X:Int):=by omega
      have h2':(q2:Int)<(Y:Int):=by omega
      have hbel:=R.below;have hown:=R.own;have htot:=R.tot;have hsz:=hbel.size;have HSN:Hid (kO h ((ay h q 0++qC q q2)++[(q,q2)]) 0=kO h (ay h q 0++qC q q2) 0++[.int .i64 (q:Int),.int .i64 (q2:Int),.int .i64 (n2:Int),.int .i64 (X:Int),.int .i64 (BB:Int)]):=by
       show _=_
       rw[wX,Nat.zero_add,<- htot,<- HXe.out,HBB.out]
      have HTT:Hid (aH h ((ay h q 0++qC q q2)++[(q,q2)])=n2+1+BB):=by
       show _=_
       rw[pH,<- htot];show n2+(1+aL h q+0)=_
       rw[HBB.out];omega
      have HPN:Hid (ay h q 0++qC q (q2+1)=(ay h q 0++qC q q2)++[(q,q2)]):=by
       show _=_
       rw[Ed,List.append_assoc]
      have hL2:(ay h q 0++qC q q2).length<=200:=by omega
      generalize ay h q 0++qC q q2=RS at *;have HTOT:Hid (n2=aH h RS):=htot;clear htot R;go_wp2_with (at_builtin;refine wpList_append_own _ rfl _ _ 102 rfl (w.heap.size+1) 146 i0 (.agg #[.int .i64 0,.int .i64 0,.int .i64 0,.int .i64 0,.int .i64 0]) 5 40 Tryz.underlying102 hi hz0 hz1 hz2 rfl (by decide) _ _ _ rfl (hown.alloc _) ⟨wr.heap.size,0,none⟩ 1 1 [.int .i64 (q:Int),.int .i64 (q2:Int),.int .i64 (n2:Int),.int .i64 (X:Int),.int .i64 (BB:Int)] rfl rfl ?c1 ?c2 ?c3 ?c4 ?c5 ?_)
      case c1=>
       intro j u hj
       match j,hj with
       | 0,hj=>simp at hj;subst hj;simp [Addr.add]
       | 1,hj=>simp at hj;subst hj;simp [Addr.add]
       | 2,hj=>simp at hj;subst hj;simp [Addr.add]
       | 3,hj=>simp at hj;subst hj;simp [Addr.add]
       | 4,hj=>simp at hj;subst hj;simp [Addr.add]
       | j+5,hj=>simp at hj
      case c2=>intro u hu;simp at hu;rcases hu with rfl | rfl | rfl | rfl | rfl<;>rfl
      case c3=>unfold maxLen;omega
      case c4=>omega
      case c5=>simp;omega
      intro v' w2 hown' hgrow hnil;have R':vd h w1 w.heap.size v' (n2+1+BB) (ay h q 0++qC q (q2+1)) w2:=by
       rw[HPN.out];refine ⟨?_,HTT.out.symm,?_,(hbel.alloc (by omega) _).grown hgrow (by simp;omega) (fun j hj=>(hown.lt j hj).1)⟩
       ·rw[HSN.out,List.length_append,hlen];exact hown'
       ·rw[List.length_append];simp;omega
      clear hnil hgrow hown hbel hown';go_wp2;exact ⟨⟨n2+1+BB,q2+1,by go_num,by go_num,by omega,fun _=>hX0,R'⟩,by simp [intOf];omega⟩
     ·have hX0':¬ (0:Int)<(X:Int):=by omega
      have h2':(q2:Int)<(Y:Int):=by omega
      have hq0:q2=0:=by
       by_cases e:q2=0
       ·exact e
       ·exact absurd (hqX (by omega)) hX0
      have e:ay h q 0++qC q q2=ay h (q+1) 0:=by
       have e2:=HRS.out;rw[if_neg hX0] at e2;rw[e2,hq0];rfl
      have hl2:(ay h (q+1) 0).length<=16*(q+1):=by rw[<- e];omega
      have RF:=R.re e;replace RF:Hid _:=RF;replace hl2:Hid _:=hl2;clear e;clear R;go_wp2;exact ⟨⟨n2,q+1,rfl,by go_num,by omega,hl2.out,RF.out⟩,by simp [intOf];omega⟩
    ·have h2':¬ (q2:Int)<(Y:Int):=by omega
     have hqY:q2=Y:=by omega
     have e:ay h q 0++qC q q2=ay h (q+1) 0:=by
      have e2:=HRS.out;by_cases hX0:0<X
      ·rw[if_pos hX0,<- hqY] at e2
       exact e2.symm
      ·have hq0:q2=0:=by
        by_cases e:q2=0
        ·exact e
        ·exact absurd (hqX (by omega)) hX0
       rw[if_neg hX0] at e2;rw[e2,hq0];rfl
     have hl2:(ay h (q+1) 0).length<=16*(q+1):=by rw[<- e];omega
     have RF:=R.re e;replace RF:Hid _:=RF;replace hl2:Hid _:=hl2;clear e;clear R;go_wp2;exact ⟨⟨n2,q+1,rfl,by go_num,by omega,hl2.out,RF.out⟩,by simp [intOf];omega⟩
  ·have hqn:q=NP:=by omega
   go_wp2;go_ret2;have hN:q=aF h.L:=by rw[hqn];exact HNP.out
   clear hqn hlt;subst hN;have ht:=R.tot;subst ht;obtain ⟨h1,h2⟩:=R.own;refine ⟨⟨_,rfl,⟨h1,?_⟩⟩,?_⟩
   ·rcases h2 with h2 | ⟨g,cap,cur,hv,hg,r⟩
    ·exact Or.inl h2
    ·exact Or.inr ⟨g,cap,cur,hv,by omega,r⟩
   ·exact Below.trans hk1 (R.below.mono (by omega))
theorem wE (n:Int) (w:World) (h1 : -100000<=n) (h2:n<=100000) :
  Calls Tryz.prog 134 #[.int .i64 n] w fun r w'=>r = .returned (.int .i64 (n.natAbs:Int))/\w'=w:=by
 by_cases h:n<0
 ·go_enter Tryz.func134,Tryz.ntmps134
  go_wp2;go_ret;exact ⟨ah (by omega),rfl⟩
 ·go_enter Tryz.func134,Tryz.ntmps134
  go_wp2;go_ret;exact ⟨ah (by omega),rfl⟩
theorem BR (a b c:Nat) (w:World) (ha:a<256) (hb:b<256) (hc:c<256) :
  Calls Tryz.prog 112 #[.int .i64 (a:Int),.int .i64 (b:Int),.int .i64 (c:Int)] w fun r w'=>r = .returned (.int .i64 (near a b c:Int))/\w'=w:=by
 obtain ⟨DA,hA⟩:∃ D,D=dst b c:=⟨_,rfl⟩;obtain ⟨DB,hB⟩:∃ D,D=dst a c:=⟨_,rfl⟩;obtain ⟨DC,hC⟩:∃ D,D=dst (a+b) (2*c):=⟨_,rfl⟩;have HN:Hid (near a b c=if DA<=DB/\DA<=DC then a else if DB<=DC then b else c):=by show near a b c=_;unfold near;rw[hA,hB,hC]
 obtain ⟨N,hN⟩:∃ N,N=near a b c:=⟨_,rfl⟩;rw[<- hN] at HN ⊢;obtain ⟨P,hP⟩:∃ P:Int,P=(a:Int)+(b:Int) - (c:Int):=⟨_,rfl⟩;have F1:Hid (∀ W,Calls Tryz.prog 134 #[.int .i64 (P - (a:Int))] W fun r w'=>r = .returned (.int .i64 (DA:Int))/\w'=W):=fun W=>by
  have:=wE (P - (a:Int)) W (by omega) (by omega)
  have e:(((P - (a:Int)).natAbs:Nat):Int)=(DA:Int):=by rw[hA];unfold dst;split<;>omega
  rw[e] at this;exact this
 have F2:Hid (∀ W,Calls Tryz.prog 134 #[.int .i64 (P - (b:Int))] W fun r w'=>r = .returned (.int .i64 (DB:Int))/\w'=W):=fun W=>by
  have:=wE (P - (b:Int)) W (by omega) (by omega)
  have e:(((P - (b:Int)).natAbs:Nat):Int)=(DB:Int):=by rw[hB];unfold dst;split<;>omega
  rw[e] at this;exact this
 have F3:Hid (∀ W,Calls Tryz.prog 134 #[.int .i64 (P - (c:Int))] W fun r w'=>r = .returned (.int .i64 (DC:Int))/\w'=W):=fun W=>by
  have:=wE (P - (c:Int)) W (by omega) (by omega)
  have e:(((P - (c:Int)).natAbs:Nat):Int)=(DC:Int):=by rw[hC];unfold dst;split<;>omega
  rw[e] at this;exact this
 have hP1 : -1000<=P:=by omega
 have hP2:P<=1000:=by omega
 have eP:(a:Int)+(b:Int) - (c:Int)=P:=hP.symm;clear hN hA hB hC hP;go_enter Tryz.func112,Tryz.ntmps112;go_wp2_with fail;refine (F1.out _).mono ?_;rintro r w1 ⟨rfl,hw⟩;subst w1;go_wp2_with fail;refine (F2.out _).mono ?_;rintro r w1 ⟨rfl,hw⟩;subst w1;go_wp2_with fail;refine (F3.out _).mono ?_;rintro r w1 ⟨rfl,hw⟩;subst w1;clear F1 F2 F3 eP hP1 hP2;have H2:=HN.out;by_cases c1:DA<=DB
 ·have c1':(DA:Int)<=(DB:Int):=by omega
  by_cases c2:DA<=DC
  ·have c2':(DA:Int)<=(DC:Int):=by omega
   rw[if_pos ⟨c1,c2⟩] at H2;subst H2;clear c1 c2 HN;go_wp2;go_ret;exact ⟨rfl,rfl⟩
  ·have c2':¬ (DA:Int)<=(DC:Int):=by omega
   rw[if_neg (fun q=>c2 q.2)] at H2;by_cases c3:DB<=DC
   ·exfalso;omega
   ·have c3':¬ (DB:Int)<=(DC:Int):=by omega
    rw[if_neg c3] at H2;subst H2;clear c1 c2 c3 HN;go_wp2;go_ret;exact ⟨rfl,rfl⟩
 ·have c1':¬ (DA:Int)<=(DB:Int):=by omega
  rw[if_neg (fun q=>c1 q.1)] at H2;by_cases c3:DB<=DC
  ·have c3':(DB:Int)<=(DC:Int):=by omega
   rw[if_pos c3] at H2;subst H2;clear c1 c3 HN;go_wp2;go_ret;exact ⟨rfl,rfl⟩
  ·have c3':¬ (DB:Int)<=(DC:Int):=by omega
   rw[if_neg c3] at H2;subst H2;clear c1 c3 HN;go_wp2;go_ret;exact ⟨rfl,rfl⟩
structure fC (w:World) (g n:Nat) (x:Nat->Nat):Prop where
 cell:∀ j,j<n->w.cell? ⟨g,j,none⟩=some (.int .i64 (x j:Int))
 lt:∀ j,j<n->x j<256
theorem Ey (t gx gu n cx cu i st:Nat) (x up:Nat->Nat) (w:World) (hx:fC w gx n x) (hu:fC w gu n up) (hi:i<n) (hs:1<=st) (hs2:st<=100) (hn:n<=100000) (ht:t<=4) :
  Calls Tryz.prog 72 #[.int .i64 (t:Int),.slice (some ⟨gx,0,none⟩) n cx,.slice (some ⟨gu,0,none⟩) n cu,.int .i64 (i:Int),.int .i64 (st:Int)] w fun r w'=>r = .returned (.int .i64 (gss t (if st<=i then x (i - st) else 0) (up i) (if st<=i then up (i - st) else 0):Int))/\w'=w:=by
 obtain ⟨A,hA⟩:∃ A,A=(if st<=i then x (i - st) else 0):=⟨_,rfl⟩;obtain ⟨C,hC⟩:∃ C,C=(if st<=i then up (i - st) else 0):=⟨_,rfl⟩;obtain ⟨B,hB⟩:∃ B,B=up i:=⟨_,rfl⟩;rw[<- hA,<- hC,<- hB];have kb:w.cell? ⟨gu,i,none⟩=some (.int .i64 (B:Int)):=by rw[hB];exact hu.cell i hi
 have bb:B<256:=by rw[hB];exact hu.lt i hi
 have ba:A<256:=by rw[hA];split;exact hx.lt _ (by omega);omega
 have bc:C<256:=by rw[hC];split;exact hu.lt _ (by omega);omega
 have FP:Hid (∀ W,Calls Tryz.prog 112 #[.int .i64 (A:Int),.int .i64 (B:Int),.int .i64 (C:Int)] W fun r w'=>r = .returned (.int .i64 (near A B C:Int))/\w'=W):=fun W=>BR A B C W ba bb bc
 have HG:Hid (gss t A B C=if t=1 then A else if t=2 then B else if t=3 then (A+B) / 2 else if t=4 then near A B C else 0):=rfl;generalize near A B C=N at *;obtain ⟨G,hG⟩:∃ G,G=gss t A B C:=⟨_,rfl⟩;rw[<- hG] at HG ⊢;have i0:(0:Int)<=(i:Int):=by omega
 have i1:(i:Int)<(n:Int):=by omega
 by_cases c:st<=i
 ·have c':(st:Int)<=(i:Int):=by omega
  rw[if_pos c] at hA hC;have ka:w.cell? ⟨gx,i - st,none⟩=some (.int .i64 (A:Int)):=by rw[hA];exact hx.cell _ (by omega)
  have kc:w.cell? ⟨gu,i - st,none⟩=some (.int .i64 (C:Int)):=by rw[hC];exact hu.cell _ (by omega)
  obtain ⟨J,hJ⟩:∃ J,J=i - st:=⟨_,rfl⟩;rw[<- hJ] at ka kc;have eJ:(i:Int) - (st:Int)=(J:Int):=by omega
  have j0:(0:Int)<=(J:Int):=by omega
  have j1:(J:Int)<(n:Int):=by omega
  clear hA hB hC hG hx hu c hJ;have h5:t=0\/t=1\/t=2\/t=3\/t=4:=by omega
  have HG2:=HG.out;clear HG;rcases h5 with rfl | rfl | rfl | rfl | rfl
  ·rw[if_neg (by decide),if_neg (by decide),if_neg (by decide),if_neg (by decide)] at HG2
   subst HG2;go_enter Tryz.func72,Tryz.ntmps72;go_wp2;go_ret;exact ⟨rfl,rfl⟩
  ·rw[if_pos rfl] at HG2
   subst HG2;go_enter Tryz.func72,Tryz.ntmps72;go_wp2;go_ret;exact ⟨rfl,rfl⟩
  ·rw[if_neg (by decide),if_pos rfl] at HG2
   subst HG2;go_enter Tryz.func72,Tryz.ntmps72;go_wp2;go_ret;exact ⟨rfl,rfl⟩
  ·rw[if_neg (by decide),if_neg (by decide),if_pos rfl] at HG2
   go_enter Tryz.func72,Tryz.ntmps72;go_wp2;go_ret;exact ⟨ah (by omega),rfl⟩
  ·rw[if_neg (by decide),if_neg (by decide),if_neg (by decide),if_pos rfl] at HG2
   subst HG2;go_enter Tryz.func72,Tryz.ntmps72;go_wp2_with fail;refine (FP.out _).mono ?_;rintro r w1 ⟨rfl,hw⟩;subst w1;go_wp2;go_ret;exact ⟨rfl,rfl⟩
 ·have c':¬ (st:Int)<=(i:Int):=by omega
  rw[if_neg c] at hA hC;subst hA;subst hC;clear hB hG hx hu c;have h5:t=0\/t=1\/t=2\/t=3\/t=4:=by omega
  have HG2:=HG.out;clear HG;rcases h5 with rfl | rfl | rfl | rfl | rfl
  ·rw[if_neg (by decide),if_neg (by decide),if_neg (by decide),if_neg (by decide)] at HG2
   subst HG2;go_enter Tryz.func72,Tryz.ntmps72;go_wp2;go_ret;exact ⟨rfl,rfl⟩
  ·rw[if_pos rfl] at HG2
   subst HG2;go_enter Tryz.func72,Tryz.ntmps72;go_wp2;go_ret;exact ⟨rfl,rfl⟩
  ·rw[if_neg (by decide),if_pos rfl] at HG2
   subst HG2;go_enter Tryz.func72,Tryz.ntmps72;go_wp2;go_ret;exact ⟨rfl,rfl⟩
  ·rw[if_neg (by decide),if_neg (by decide),if_pos rfl] at HG2
   go_enter Tryz.func72,Tryz.ntmps72;go_wp2;go_ret;exact ⟨ah (by omega),rfl⟩
  ·rw[if_neg (by decide),if_neg (by decide),if_neg (by decide),if_pos rfl] at HG2
   subst HG2;go_enter Tryz.func72,Tryz.ntmps72;go_wp2_with fail;refine (FP.out _).mono ?_;rintro r w1 ⟨rfl,hw⟩;subst w1;go_wp2;go_ret;exact ⟨rfl,rfl⟩
