import Derived.Test.YtgooinallljbpaaGreatDoorTd35
set_option maxRecDepth 100000
set_option maxHeartbeats 6400000
namespace Go.Proofs.YtgooinallljbpaaGreatDoor
open Go.RowKit Px
set_option linter.unusedSimpArgs false
set_option linter.unusedVariables false
theorem Ky:dcL (af ⟨#[]⟩)=dc0:=rfl
theorem DX (a:Option Addr) (len cap:Nat) (ss:List ByteArray) (w:World) (h:Jh w a len ss) (hG:bg w) :
  Calls Tryz.prog 4 #[.slice a len cap] w fun r w'=>r = .returned (.bool true)/\Kept w w':=by
 have H:Hid (Jh w a len ss):=h;have HG:Hid (bg w):=hG;have FW:Hid (Calls Tryz.prog 13 #[.slice a len cap] w fun r w'=>Nr len ss r/\w'=w):=Kq a len cap ss w h;have h0:0<w.heap.size:=by
  have h1:0<w.heap.size:=World.block_lt_of_cell? _ _ (hG.grd 0 (by omega));omega
 have hl:=h.lm;clear h hG;go_enter Tryz.func4,Tryz.ntmps4;go_wp2_with fail;refine FW.out.mono ?_;rintro r w' ⟨⟨F,rfl,hF⟩,hw⟩;subst w';cases F
 ·clear hF
  go_wp2;go_ret;exact ⟨rfl,Kept.refl _⟩
 ·have hfew:=hF rfl
  have HF:Hid (len+lu (ss.take len)<=65536):=hfew;have hl6:len<=65536:=by omega
  clear hF hfew;go_wp2_with fail;refine (M8 (Kept.refl w) h0).mono ?_;rintro r w1 ⟨d,rfl,hd⟩;have HD:Hid (DI w w1 d dc0):=hd;clear hd;go_wp2_with fail;refine (Hc w1).mono ?_;rintro r w2 ⟨rfl,hr,hk⟩;have HB0:Hid (sv w w2 d w1.heap.size ⟨#[]⟩ false):=⟨by rw[if_neg (by decide),Ky];exact HD.out.on hk,hr,HD.out.glt,(fun q=>by cases q)⟩;obtain ⟨b,hb⟩:∃ b,b=w1.heap.size:=⟨_,rfl⟩;rw[<- hb] at HB0 ⊢;clear hr hk hb;go_wp2_with fail;go_loopw [6] (fun v6 W=>∃ (k:Nat) (t:ByteArray),k<=len/\v6 = .int .i64 (k:Int)/\sv w W d b t false/\t.size<=lu (ss.take k)) (fun v6 _=>len - (intOf v6).toNat)
  case atStart=>exact ⟨0,⟨#[]⟩,by omega,rfl,HB0.out,Nat.zero_le _⟩
  case round=>
   obtain ⟨k,t,hk,rfl,hB,ht⟩:=hrel;have HB:Hid (sv w wr d b t false):=hB;have HT:Hid (t.size<=lu (ss.take k)):=ht;clear hB ht;by_cases c:k<len
   ·obtain ⟨g,o,rfl,hc0⟩:=H.out.cells k c
    have hc:wr.cell? ⟨g,o+k,none⟩=some (.string (ss.getD k ByteArray.empty)):=(HB.out.di.kept.cell (p:=⟨g,o+k,none⟩) (World.block_lt_of_cell? _ _ hc0)).trans hc0;obtain ⟨s,hs⟩:∃ s,s=ss.getD k ByteArray.empty:=⟨_,rfl⟩;rw[<- hs] at hc;have hTK:lu (ss.take (k+1))=lu (ss.take k)+s.size:=by rw[hs];exact uF ss k (Nat.lt_of_lt_of_le c H.out.ll)
    have hTM:lu (ss.take (k+1))<=lu (ss.take len):=DW ss _ _ c;have hsz:t.size+s.size<=65536:=by have:=HF.out;have:=HT.out;omega
    have FF:Hid (Calls Tryz.prog 10 #[.pointer (some ⟨d,0,none⟩),.pointer (some ⟨b,0,none⟩),.string s] wr fun r W'=>r = .returned (.bool true)/\Ms w W' d b t s false):=DJ w wr d b t s false HB.out (by omega) HG.out;have HTK:Hid _:=hTK;have ki:(k:Int)<(len:Int):=by omega
    clear hs hTK hTM hc0;go_wp2_with fail;refine FF.out.mono ?_;rintro r w3 ⟨rfl,t',ht',hB'⟩;have HB':Hid _:=hB';have HT':Hid _:=ht';clear hB' ht' FF;go_wp2;exact ⟨⟨k+1,t',by omega,by go_num,HB'.out,by rw[HTK.out];have:=HT'.out;have:=HT.out;omega⟩,by simp [intOf];omega⟩
   ·have e:k=len:=by omega
    have ki:¬ (k:Int)<(len:Int):=by omega
    have hsz:t.size<=65536:=by rw[e] at HT;have:=HF.out;have:=HT.out;omega
    have FC:Hid (Calls Tryz.prog 12 #[.pointer (some ⟨d,0,none⟩),.pointer (some ⟨b,0,none⟩)] wr fun r W'=>r = .returned (.bool true)/\Nt w W' d b t):=Cy w wr d b t HB.out (by omega);clear e;go_wp2_with fail;refine FC.out.mono ?_;rintro r w3 ⟨rfl,cut,hB3⟩;have FF:Hid (Calls Tryz.prog 10 #[.pointer (some ⟨d,0,none⟩),.pointer (some ⟨b,0,none⟩),.string ⟨#[120]⟩] w3 fun r W'=>r = .returned (.bool true)/\Ms w W' d b t ⟨#[120]⟩ cut):=DJ w w3 d b t ⟨#[120]⟩ cut hB3 (by show t.size+1<=_;omega) HG.out;clear hB3 FC;go_wp2_with fail;refine FF.out.mono ?_;rintro r w4 ⟨rfl,t',ht',hB'⟩;have HK:Hid (Kept w w4):=hB'.di.kept;clear hB' ht' FF;go_wp2;go_ret;exact ⟨rfl,HK.out⟩
