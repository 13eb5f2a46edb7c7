import Derived.Test.YtmbmecfodigciaaGreatDoorTu19
import Derived.Test.YtmbmecfodigciaaGreatDoorTu14
import Derived.Test.YtmbmecfodigciaaGreatDoorTu15
set_option maxRecDepth 100000
set_option maxHeartbeats 6400000
namespace Go.Proofs.YtmbmecfodigciaaGreatDoor
open Go.RowKit Px
set_option linter.unusedSimpArgs false
set_option linter.unusedVariables false
theorem bit_low (r t m i:Nat) (h:i<m):(r+t*2^m) / 2^i % 2=r / 2^i % 2:=by
 obtain ⟨d,rfl⟩:∃ d,m=i+1+d:=⟨m - (i+1),by omega⟩
 have e:t*2^(i+1+d)=2^i*(2*(t*2^d)):=by
  rw[Nat.pow_add,Nat.pow_add,Nat.pow_one,<- Nat.mul_assoc,<- Nat.mul_assoc,<- Nat.mul_assoc,Nat.mul_comm t (2^i),Nat.mul_right_comm (2^i) t 2,Nat.mul_assoc (2^i*2) t (2^d)]
 rw[e,Nat.add_mul_div_left _ _ (Nat.two_pow_pos i),Nat.add_mul_mod_self_left]
theorem xb_low (r t m:Nat):∀ (k i:Nat),i+k<=m->xb (r+t*2^m) i k=xb r i k
 | 0,_,_=>rfl
 | k+1,i,h=>by
  show (r+t*2^m) / 2^i % 2::xb (r+t*2^m) (i+1) k=r / 2^i % 2::xb r (i+1) k
  rw[bit_low r t m i (by omega),xb_low r t m k (i+1) (by omega)]
theorem xb_shift (v j:Nat):∀ (k i:Nat),xb v (i+j) k=xb (v / 2^j) i k
 | 0,_=>rfl
 | k+1,i=>by
  show v / 2^(i+j) % 2::xb v (i+j+1) k=v / 2^j / 2^i % 2::xb (v / 2^j) (i+1) k
  rw[show i+j+1=i+1+j from by omega,xb_shift v j k (i+1),Nat.div_div_eq_div_mul,<- Nat.pow_add,Nat.add_comm j i]
theorem xb_mod (n s:Nat):xb (n % 2^s) 0 s=xb n 0 s:=by
 have e:n=n % 2^s+n / 2^s*2^s:=by rw[Nat.mul_comm];exact (Nat.mod_add_div n (2^s)).symm
 have:=xb_low (n % 2^s) (n / 2^s) s s 0 (by omega)
 rw[<- e] at this
 exact this.symm
theorem xb_put (r m n s:Nat) (hr:r<2^m):xb (putR r m n s) 0 (m+s)=xb r 0 m++xb n 0 s:=by
 unfold putR
 rw[xb_app,xb_low r (n % 2^s) m m 0 (by omega),xb_shift,Nat.add_mul_div_right _ _ (Nat.two_pow_pos m),Nat.div_eq_of_lt hr,Nat.zero_add,xb_mod]
theorem xb_le:∀ (k V:Nat),flat8 (nl (leB k V))=xb V 0 (8*k)
 | 0,V=>rfl
 | k+1,V=>by
  have e:nl (leB (k+1) V)=V % 256::nl (leB k (V / 256)):=rfl
  rw[e,flat8_cons,xb_le k (V / 256),show 8*(k+1)=8+8*k from by omega,xb_app V 8 0 (8*k),xb_shift V 8 (8*k) 0]
  have:=xb_mod V 8
  rw[show (2:Nat)^8=256 from by decide] at this ⊢
  rw[this]
def bitsW (l:List Int) (r m:Nat):List Nat:=flat8 (nl l)++xb r 0 m
theorem bitsW_put (l:List Int) (r m n s:Nat) (hr:r<2^m):bitsW (l++leB ((m+s) / 8) (putR r m n s)) (putR r m n s / 256^((m+s) / 8)) ((m+s) % 8)=bitsW l r m++xb n 0 s:=by
 unfold bitsW
 rw[nl_app,flat8_app,xb_le,List.append_assoc,List.append_assoc,<- xb_put r m n s hr]
 congr 1
 have e:(256:Nat)^((m+s) / 8)=2^(8*((m+s) / 8)):=by rw[Nat.pow_mul]
 have e2:m+s=8*((m+s) / 8)+(m+s) % 8:=(Nat.div_add_mod (m+s) 8).symm
 rw[e]
 have:=xb_app (putR r m n s) (8*((m+s) / 8)) 0 ((m+s) % 8)
 rw[<- e2,xb_shift] at this
 exact this.symm
theorem bitsW_len (l:List Int) (r m:Nat):(bitsW l r m).length=8*l.length+m:=by
 unfold bitsW;rw[List.length_append,flat8_len,nl_len,xb_len]
theorem xb_zero:∀ (k i:Nat),xb 0 i k=List.replicate k 0
 | 0,_=>rfl
 | k+1,i=>by
  show 0 / 2^i % 2::xb 0 (i+1) k=0::List.replicate k 0
  rw[Nat.zero_div,xb_zero k (i+1)]
theorem cb_one (n k:Nat):cb n (k+1)=xb (n / 2^k) 0 1++cb n k:=by
 show n / 2^k % 2::cb n k=(n / 2^k / 2^0 % 2::[])++cb n k
 rw[Nat.pow_zero,Nat.div_one];rfl
structure BX (W:World) (x N:Nat) (bs:List Nat):Prop where
 ex:∃ l r m,BitB W x N l r m/\r<2^m/\m<=7/\bs=bitsW l r m
theorem BX.lt {W:World} {x N:Nat} {bs:List Nat} (h:BX W x N bs):x<N:=by obtain ⟨l,r,m,b,_⟩:=h.ex;exact b.lt
theorem BX.size {W:World} {x N:Nat} {bs:List Nat} (h:BX W x N bs):N<=W.heap.size:=by obtain ⟨l,r,m,b,_⟩:=h.ex;exact b.size
theorem BX.kept {W W':World} {x N:Nat} {bs:List Nat} (h:BX W x N bs) (k:Kept W W'):BX W' x N bs:=by
 obtain ⟨l,r,m,b,h1,h2,h3⟩:=h.ex
 exact ⟨l,r,m,b.kept k,h1,h2,h3⟩
structure WX (x N:Nat) (bs:List Nat) (w w':World):Prop where
 bits:BX w' x N bs
 fr:FrN x N w w'
 far:∀ j,3<=j->w'.cell? ⟨x,j,none⟩=w.cell? ⟨x,j,none⟩
theorem WX.trans {x N:Nat} {bs cs:List Nat} {a b c:World} (h:WX x N bs a b) (k:WX x N cs b c):WX x N cs a c:=⟨k.bits,h.fr.trans k.fr,fun j hj=>(k.far j hj).trans (h.far j hj)⟩
theorem WX.refl {x N:Nat} {bs:List Nat} {a:World} (h:BX a x N bs):WX x N bs a a:=⟨h,Fr.refl _ _,fun _ _=>rfl⟩
theorem WX.kept {x N:Nat} {bs:List Nat} {a b c:World} (h:WX x N bs a b) (k:Kept b c):WX x N bs a c:=by
 have hx:x<b.heap.size:=Nat.lt_of_lt_of_le h.bits.lt h.bits.size
 exact ⟨h.bits.kept k,h.fr.kept k,fun j hj=>(k.cell (p:=⟨x,j,none⟩) hx).trans (h.far j hj)⟩
theorem WX.drewN {x N:Nat} {bs:List Nat} {a b:World} (h:WX x N bs a b) (n:Nat):WX x N bs a (b.drewN n):=h.kept ((Kept.refl _).drewN n)
theorem number_x (x N n s:Nat) (bs:List Nat) (w:World) (h:BX w x N bs) (hs:s<=16) (hn1:n<4294967296) (hl:bs.length<=1073741824) :
  Calls Tryz.prog 133 #[.pointer (some ⟨x,0,none⟩),.int .u32 (n:Int),.int .u64 (s:Int)] w fun e w'=>e = .returned (.tuple #[])/\WX x N (bs++xb n 0 s) w w':=by
 obtain ⟨l,r,m,b,h1,h2,h3⟩:=h.ex
 have hlen:bs.length=8*l.length+m:=by rw[h3];exact bitsW_len l r m
 refine (number_wb x N l r m n s _ _ _ w b h1 h2 hs hn1 (by omega) rfl rfl rfl).mono ?_
 rintro e w' ⟨rfl,k⟩
 refine ⟨rfl,⟨_,_,_,k.bits,?_,?_,?_⟩,k.fr,k.far⟩
 ·have hp:=putR_lt (n:=n) (s:=s) h1
  have e2:m+s=8*((m+s) / 8)+(m+s) % 8:=(Nat.div_add_mod (m+s) 8).symm
  have e:(256:Nat)^((m+s) / 8)=2^(8*((m+s) / 8)):=by rw[Nat.pow_mul]
  rw[e]
  refine (Nat.div_lt_iff_lt_mul (Nat.two_pow_pos _)).2 ?_
  rw[<- Nat.pow_add,Nat.add_comm ((m+s) % 8),<- e2]
  exact hp
 ·have:=Nat.mod_lt (m+s) (show 0<8 by omega);omega
 ·rw[bitsW_put l r m n s h1,h3]
theorem code_x (x N n s:Nat) (bs:List Nat) (w:World) (h:BX w x N bs) (hs:s<=15) (hn1:n<4294967296) (hT:bs.length<=536870912) :
  Calls Tryz.prog 162 #[.pointer (some ⟨x,0,none⟩),.int .u32 (n:Int),.int .u64 (s:Int)] w fun r w'=>r = .returned (.tuple #[])/\WX x N (bs++cb n s) w w':=by
 have H0:Hid (BX w x N bs):=h
 clear h
 obtain ⟨E,hE⟩:∃ E,E=bs++cb n s:=⟨_,rfl⟩
 rw[<- hE]
 have HE:Hid (E=bs++cb n s):=hE
 clear hE
 go_enter Tryz.func162,Tryz.ntmps162
 go_wp2
 go_loopw [2] (fun v W=>∃ k:Nat,k<=s/\v = .int .u64 (k:Int)/\∃ cs,cs++cb n k=E/\cs.length<=bs.length+s/\WX x N cs w W) (fun v _=>(intOf v).toNat)
 case atStart=>exact ⟨s,by omega,rfl,bs,HE.out.symm,by omega,WX.refl H0.out⟩
 case round=>
  obtain ⟨k,hk,rfl,cs,hcs,hcl,hW⟩:=hrel
  by_cases h0:0<k
  ·have h0':(0:Int)<=(k:Int) - 1:=by omega
   have h1':(k:Int) - 1<=32:=by omega
   have h2':(0:Int)<(k:Int):=by omega
   obtain ⟨j,hj⟩:∃ j,k=j+1:=⟨k - 1,by omega⟩
   have q1:n / 2^j<4294967296:=Nat.lt_of_le_of_lt (Nat.div_le_self _ _) hn1
   have eq:(n:Int) / 2^(k - 1)=((n / 2^j:Nat):Int):=by rw[show k - 1=j from by omega];simp
   have HN:Hid ((cs++xb (n / 2^j) 0 1)++cb n j=E):=by
    show (cs++xb (n / 2^j) 0 1)++cb n j=E
    rw[List.append_assoc,<- cb_one,<- hj];exact hcs
   have hlen:k<=s/\(cs++xb (n / 2^j) 0 1).length+k=cs.length+1+k:=⟨hk,by rw[List.length_append,xb_len]⟩
   have hEl:cs.length+k=bs.length+s:=by
    have e1:=congrArg List.length hcs
    have e2:=congrArg List.length HE.out
    rw[List.length_append,cb_len] at e1 e2
    omega
   have F:Hid (Calls Tryz.prog 133 #[.pointer (some ⟨x,0,none⟩),.int .u32 ((n / 2^j:Nat):Int),.int .u64 ((1:Nat):Int)] wr fun r w'=>r = .returned (.tuple #[])/\WX x N (cs++xb (n / 2^j) 0 1) wr w'):=number_x x N (n / 2^j) 1 cs wr hW.bits (by omega) q1 (by omega)
   have hnl:Hid ((cs++xb (n / 2^j) 0 1).length<=bs.length+s):=by show (cs++xb (n / 2^j) 0 1).length<=bs.length+s;rw[List.length_append,xb_len];omega
   replace hW:Hid (WX x N cs w wr):=hW
   obtain ⟨Q,hQ⟩:∃ Q,Q=n / 2^j:=⟨_,rfl⟩
   rw[<- hQ] at F eq HN hnl
   replace hQ:Hid _:=hQ
   replace hj:Hid _:=hj
   replace hcs:Hid _:=hcs
   clear q1 hlen hEl hcl
   go_wp2_with fail
   refine F.out.mono ?_
   rintro r w1 ⟨rfl,hw1⟩
   have HW1:Hid (WX x N (cs++xb Q 0 1) w w1):=hW.out.trans hw1
   clear hw1
   go_wp2
   exact ⟨⟨k - 1,by omega,val_int (by omega),cs++xb Q 0 1,by rw[show k - 1=j from by have:=hj.out;omega];exact HN.out,hnl.out,HW1.out⟩,by simp [intOf];omega⟩
  ·have hk0:k=0:=by omega
   subst hk0
   have hcE:cs=E:=by rw[<- hcs];show cs=cs++[];rw[List.append_nil]
   subst hcE
   go_wp2
   go_end0
   exact ⟨rfl,hW⟩
theorem fill_x (x N:Nat) (bs:List Nat) (w:World) (h:BX w x N bs) (hT:bs.length<=536870912) :
  Calls Tryz.prog 102 #[.pointer (some ⟨x,0,none⟩)] w fun r w'=>r = .returned (.tuple #[])/\WX x N (bs++List.replicate ((8 - bs.length % 8) % 8) 0) w w':=by
 obtain ⟨l,r0,m,b,h1,h2,h3⟩:=h.ex
 have hlen:bs.length=8*l.length+m:=by rw[h3];exact bitsW_len l r0 m
 have hmm:bs.length % 8=m:=by omega
 have k2:=b.sz
 by_cases h0:m=0
 ·have H0:Hid (BX w x N bs):=h
  have HE:Hid (bs++List.replicate ((8 - bs.length % 8) % 8) 0=bs):=by show _=_;rw[hmm,h0];show bs++[]=bs;rw[List.append_nil]
  rw[h0] at k2
  clear h b hlen hmm h3 h1 h2 h0
  go_enter Tryz.func102,Tryz.ntmps102
  go_wp2
  go_end0
  exact ⟨rfl,by rw[HE.out];exact WX.refl H0.out⟩
 ·have HE:Hid (bs++List.replicate ((8 - bs.length % 8) % 8) 0=bs++xb 0 0 (8 - m)):=by show _=_;rw[hmm,xb_zero,show (8 - m) % 8=8 - m from by omega]
  obtain ⟨S,hS⟩:∃ S,S=8 - m:=⟨_,rfl⟩
  have eS:(8:Int) - (m:Int)=(S:Int):=by omega
  have F:Hid (∀ W,Kept w W->Calls Tryz.prog 133 #[.pointer (some ⟨x,0,none⟩),.int .u32 ((0:Nat):Int),.int .u64 (S:Int)] W fun r w'=>r = .returned (.tuple #[])/\WX x N (bs++xb 0 0 S) W w'):=fun W k=>number_x x N 0 S bs W (h.kept k) (by omega) (by omega) (by omega)
  rw[<- hS] at HE
  have hm0:(0:Int)<(m:Int):=by omega
  have hm8:(m:Int)<=7:=by omega
  clear h b hlen hmm h3 h1 h0 hS
  go_enter Tryz.func102,Tryz.ntmps102
  go_wp2_with fail
  refine (F.out _ (Kept.refl _)).mono ?_
  rintro r w1 ⟨rfl,hw1⟩
  go_wp2
  go_end0
  exact ⟨rfl,by rw[HE.out];exact hw1⟩
