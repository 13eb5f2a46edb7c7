import Derived.Test.YtmbmecfodigciaaGreatDoorMo02
import Derived.Deep.MidRow
set_option maxRecDepth 100000
set_option maxHeartbeats 6400000
namespace Go.Proofs.YtmbmecfodigciaaGreatDoor
open Go.RowKit Px
set_option linter.unusedSimpArgs false
set_option linter.unusedVariables false
def zHead (n:Nat):Bool:=decide (n % 256 % 16=8∧n % 256 / 16≤7∧(256*(n % 256)+n / 256) % 31=0∧n / 256 / 32 % 2=0)
def St.takeHead (s:St) (n:Nat):St × Nat:=if zHead n then (({ s with window:=256*2^(n % 256 / 16) }:St).enter 1 3,0) else (s,10)
theorem u32_and_mask (n k:Nat) (h:n<4294967296) (hk:k≤31):bits .and .u32 (n:Int) ((2^k - 1:Nat):Int)=((n % 2^k:Nat):Int):=by
 have hp:2^k≤2^31:=Nat.pow_le_pow_right (n:=2) (by omega) hk
 show IntKind.u32.wrap ((BitVec.ofInt 32 (n:Int) &&& BitVec.ofInt 32 ((2^k - 1:Nat):Int)).toNat:Int)=_
 have e1:(BitVec.ofInt 32 (n:Int)).toNat=n:=by rw[BitVec.ofInt_natCast,BitVec.toNat_ofNat];exact Nat.mod_eq_of_lt (by omega)
 have e2:(BitVec.ofInt 32 ((2^k - 1:Nat):Int)).toNat=2^k - 1:=by rw[BitVec.ofInt_natCast,BitVec.toNat_ofNat];exact Nat.mod_eq_of_lt (by omega)
 have:n % 2^k≤n:=Nat.mod_le _ _
 rw[BitVec.toNat_and,e1,e2,Nat.and_two_pow_sub_one_eq_mod,IntKind.wrap_u32]
 omega
theorem u32_and_255 (n:Nat) (h:n<4294967296):bits .and .u32 (n:Int) 255=((n % 256:Nat):Int):=u32_and_mask n 8 h (by omega)
theorem u32_and_1 (n:Nat) (h:n<4294967296):bits .and .u32 (n:Int) 1=((n % 2:Nat):Int):=u32_and_mask n 1 h (by omega)
theorem u32_and_65535 (n:Nat) (h:n<4294967296):bits .and .u32 (n:Int) 65535=((n % 65536:Nat):Int):=u32_and_mask n 16 h (by omega)
theorem nat_and_32 (n:Nat) (h:n<256):n &&& 32=n / 32 % 2*32:=by
 have h1:(n &&& 32) % 32=0:=by
  have:(n &&& 32) % 2^5=(n % 2^5) &&& (32 % 2^5):=Nat.and_mod_two_pow
  rw[show (2^5:Nat)=32 from rfl] at this
  rw[this];simp
 have h2:(n &&& 32) / 32=n / 32 % 2:=by
  have:(n &&& 32) / 2^5=(n / 2^5) &&& (32 / 2^5):=Nat.and_div_two_pow
  rw[show (2^5:Nat)=32 from rfl] at this
  rw[this];exact nat_mask1 _
 omega
theorem u32_and_32 (n:Nat) (h:n<256):bits .and .u32 (n:Int) 32=((n / 32 % 2*32:Nat):Int):=by
 show IntKind.u32.wrap ((BitVec.ofInt 32 (n:Int) &&& BitVec.ofInt 32 32).toNat:Int)=_
 have e1:(BitVec.ofInt 32 (n:Int)).toNat=n:=by rw[BitVec.ofInt_natCast,BitVec.toNat_ofNat];exact Nat.mod_eq_of_lt (by omega)
 have e2:(BitVec.ofInt 32 32).toNat=32:=rfl
 rw[BitVec.toNat_and,e1,e2,nat_and_32 n h,IntKind.wrap_u32]
 omega
theorem takeHead_x (b o n v:Nat) (c:Nat→Value) (s:St) (w:World) (hB:Blk w b n c) (hV:StV c o s) (hn:o+3351≤n) (hv:v<65536) :
  Calls Tryz.prog 177 #[.pointer (some ⟨b,o,none⟩),.int .u32 (v:Int)] w fun e w'=>e = .returned (.int .i64 ((s.takeHead v).2:Int))∧StStep b o n c (s.takeHead v).1 w w':=by
 have ea:=u32_and_255 v (by omega)
 have k8:=hB.at (i:=o+8) (by omega) hV.window
 have z8:=hB.fz (o+8)
 have HB:Hid (Blk w b n c):=hB
 have HV:Hid (StV c o s):=hV
 clear hB hV
 obtain ⟨C,hC⟩:∃ C,C=v % 256:=⟨_,rfl⟩
 obtain ⟨F,hF⟩:∃ F,F=v / 256:=⟨_,rfl⟩
 have hC2:C<256:=by omega
 have hF2:F<256:=by omega
 have eF:(v:Int) / 256=(F:Int):=by omega
 have ef:=u32_and_32 F hF2
 rw[← hC] at ea
 have HZ:Hid (zHead v=decide (C % 16=8∧C / 16≤7∧(256*C+F) % 31=0∧F / 32 % 2=0)):=by
  show zHead v=decide (C % 16=8∧C / 16≤7∧(256*C+F) % 31=0∧F / 32 % 2=0)
  unfold zHead;rw[hC,hF]
 obtain ⟨E,hE⟩:∃ E,E=F / 32 % 2*32:=⟨_,rfl⟩
 rw[← hE] at ef
 have hE1:E=0∨E=32:=by omega
 have HE:Hid (E=0 ↔ F / 32 % 2=0):=by show E=0 ↔ F / 32 % 2=0;omega
 have HS:Hid (s.takeHead v=if zHead v then (({ s with window:=256*2^(C / 16) }:St).enter 1 3,0) else (s,10)):=by
  show s.takeHead v=_
  unfold St.takeHead;rw[hC]
 replace hC:Hid _:=hC
 replace hF:Hid _:=hF
 replace hE:Hid _:=hE
 by_cases h:C % 16=8∧C / 16≤7∧(256*C+F) % 31=0∧E=0
 ·obtain ⟨h1,h2,h3,h4⟩:=h
  have h1':((C:Int) % 16 != 8)=false:=by rw[bne_eq_false_iff_eq];omega
  have h2':¬ (7:Int)<(C:Int) / 16:=by omega
  have h3':((256*(C:Int)+(F:Int)) % 31 != 0)=false:=by rw[bne_eq_false_iff_eq];omega
  subst h4
  have e0:s.takeHead v=(({ s with window:=256*2^(C / 16) }:St).enter 1 3,0):=by rw[HS.out,HZ.out,decide_eq_true ⟨h1,h2,h3,HE.out.1 rfl⟩];rfl
  rw[e0]
  clear e0 HE HS HZ hE1
  have hp:2^(C / 16)≤2^7:=Nat.pow_le_pow_right (by omega) h2
  obtain ⟨M,hM⟩:∃ M,M=C / 16:=⟨_,rfl⟩
  have eM:(C:Int) / 16=(M:Int):=by omega
  rw[← hM] at hp h2 ⊢
  clear hM
  go_enter Tryz.func177,Tryz.ntmps177
  go_wp2_with fail
  have eW:wrap64 (256*2^M)=((256*2^M:Nat):Int):=by
   have e0:(256*2^M:Int)=((256*2^M:Nat):Int):=by simp
   rw[e0]
   unfold wrap64
   omega
  rw[eW]
  refine (senter_x b o n 1 3 _ { s with window:=256*2^M } _ (HB.out.set (by omega) _) (HV.out.set_window _) hn).mono ?_
  rintro e w1 ⟨rfl,d,h1,h2,h3,h4⟩
  go_wp2_with fail
  go_ret
  exact ⟨rfl,d,h1,h2,(FrC.upd _ (by omega) (by omega)).trans h3,(Fr1.set (Fr.refl _ _) _ _).trans h4⟩
 ·have e0:s.takeHead v=(s,10):=by
   rw[HS.out,HZ.out,decide_eq_false (fun q=>h ⟨q.1,q.2.1,q.2.2.1,HE.out.2 q.2.2.2⟩)];rfl
  rw[e0]
  clear e0 HE HS HZ
  by_cases h1:C % 16=8
  ·have h1':((C:Int) % 16 != 8)=false:=by rw[bne_eq_false_iff_eq];omega
   by_cases h2:C / 16≤7
   ·have h2':¬ (7:Int)<(C:Int) / 16:=by omega
    by_cases h3:(256*C+F) % 31=0
    ·have h3':((256*(C:Int)+(F:Int)) % 31 != 0)=false:=by rw[bne_eq_false_iff_eq];omega
     have hE2:E=32:=by
      rcases hE1 with q | q
      ·exact absurd ⟨h1,h2,h3,q⟩ h
      ·exact q
     subst hE2
     clear h hE1
     go_enter Tryz.func177,Tryz.ntmps177
     go_wp2
     go_ret
     exact ⟨rfl,c,HB.out,HV.out,FrC.refl _ _ _ _,Fr.refl _ _⟩
    ·have h3':((256*(C:Int)+(F:Int)) % 31 != 0)=true:=by rw[bne_iff_ne];omega
     clear h hE1
     go_enter Tryz.func177,Tryz.ntmps177
     go_wp2
     all_goals
      go_ret
      exact ⟨rfl,c,HB.out,HV.out,FrC.refl _ _ _ _,Fr.refl _ _⟩
   ·have h2':(7:Int)<(C:Int) / 16:=by omega
    clear h hE1
    go_enter Tryz.func177,Tryz.ntmps177
    go_wp2
    all_goals
     go_ret
     exact ⟨rfl,c,HB.out,HV.out,FrC.refl _ _ _ _,Fr.refl _ _⟩
  ·have h1':((C:Int) % 16 != 8)=true:=by rw[bne_iff_ne];omega
   clear h hE1
   go_enter Tryz.func177,Tryz.ntmps177
   go_wp2
   all_goals
    go_ret
    exact ⟨rfl,c,HB.out,HV.out,FrC.refl _ _ _ _,Fr.refl _ _⟩
def updL (c:Nat→Value) (k m:Nat) (f:Nat→Value):Nat→Value:=fun i=>if k≤i∧i<k+m then f (i - k) else c i
theorem updL_in {c:Nat→Value} {k m:Nat} {f:Nat→Value} {j:Nat} (h:j<m):updL c k m f (k+j)=f j:=by
 unfold updL;rw[if_pos ⟨by omega,by omega⟩,show k+j - k=j from by omega]
theorem updL_out {c:Nat→Value} {k m:Nat} {f:Nat→Value} {i:Nat} (h:¬ (k≤i∧i<k+m)):updL c k m f i=c i:=if_neg h
theorem store_all {P:Program} {W:World} {b o:Nat} {cs:List Value} (h:W.there b o cs.length) (h1:∀ v ∈ cs,v.oneCell'=true):(storeCells ⟨b,o,none⟩ cs).run P W = .ok () (W.setCells b o cs):=by
 have:=run_storeCells_cells (P:=P) b o cs 0 W (fun j hj=>by rw[Nat.add_zero];exact (h j hj).1) (fun j hj=>by rw[Nat.add_zero];exact (h j hj).2) h1
 rw[Nat.add_zero] at this
 exact this
theorem Blk.there {w:World} {b n:Nat} {c:Nat→Value} (h:Blk w b n c) {k m:Nat} (hk:k+m≤n):w.there b k m:=fun j hj=>⟨by rw[h.cell (k+j) (by omega)];rfl,h.fz _⟩
theorem Blk.range {w:World} {b n:Nat} {c:Nat→Value} (h:Blk w b n c) {k m:Nat} (hk:k+m≤n):w.rangeAt b k ((List.range m).map (fun j=>c (k+j))):=fun j v hv=>by
 rw[List.getElem?_map] at hv
 by_cases hj:j<m
 ·rw[List.getElem?_range hj] at hv
  injection hv with hv
  rw[h.cell (k+j) (by omega),← hv]
 ·rw[List.getElem?_eq_none (by rw[List.length_range];omega)] at hv
  exact absurd hv (by simp)
theorem size_setCells (w:World) (b:Nat):∀ (cs:List Value) (k:Nat) (w:World),(w.setCells b k cs).heap.size=w.heap.size
 | [],_,_=>rfl
 | v::r,k,w=>(size_setCells w b r (k+1) _).trans (by simp [World.setCell])
theorem Blk.sets {w:World} {b n:Nat} {c:Nat→Value} (h:Blk w b n c) {k m:Nat} (hk:k+m≤n) {cs:List Value} (f:Nat→Value) (hl:cs.length=m) (hf:∀ j,j<m→cs[j]? = some (f j)):Blk (w.setCells b k cs) b n (updL c k m f):=by
 refine ⟨fun i hi => ?_,fun i=>by rw[World.frozen?_setCells];exact h.fz i,by rw[size_setCells w];exact h.lt⟩
 by_cases q:k≤i∧i<k+m
 ·obtain ⟨j,rfl⟩:∃ j,i=k+j:=⟨i - k,by omega⟩
  rw[updL_in (by omega)]
  exact World.rangeAt_setCells_same w b k cs (h.there (by omega)) j _ (hf j (by omega))
 ·rw[updL_out q,← h.cell i hi]
  exact World.cell?_setCells_out b cs k w ⟨b,i,none⟩ (fun _ _=>by show i<k∨k+cs.length≤i;omega)
theorem Fr1.sets {b:Nat} {x:World}:∀ (cs:List Value) (k:Nat) {y:World},Fr1 b x y→Fr1 b x (y.setCells b k cs)
 | [],_,_,h=>h
 | v::r,k,_,h=>Fr1.sets r (k+1) (Fr1.set h k v)
theorem FrC.updL {b lo hi k m:Nat} {c:Nat→Value} {f:Nat→Value} (h1:lo≤k) (h2:k+m≤hi):FrC b lo hi c (updL c k m f):=⟨fun i q=>updL_out (fun e=>q ⟨by omega,by omega⟩)⟩
theorem RwV.lay_above {c:Nat→Value} {o:Nat} {r:Rw} (h:RwV c o r) (f:Nat→Nat):RwV (updL c (o+141) 128 (fun j => .int .u8 (f j:Int))) o { r with above:=f } :=
 h.all_above f (fun i hi=>updL_in hi) (fun i hi=>updL_out (fun q=>hi ⟨q.1,by omega⟩))
end Go.Proofs.YtmbmecfodigciaaGreatDoor
