import Derived.Test.YtmbmecfodigciaaGreatDoorTu15
import Derived.Test.YtmbmecfodigciaaGreatDoorTu34
set_option maxRecDepth 100000
set_option maxHeartbeats 6400000
namespace Go.Proofs.YtmbmecfodigciaaGreatDoor
open Go.RowKit Px
set_option linter.unusedSimpArgs false
set_option linter.unusedVariables false
def chL (PL:List (List Int)):List Int:=PL.flatMap (chB idat)
theorem chL_snoc (PL:List (List Int)) (d:List Int):chL (PL++[d])=chL PL++chB idat d:=by
 unfold chL
 rw[List.flatMap_append,List.flatMap_cons,List.flatMap_nil,List.append_nil]
theorem chL_len:∀ PL:List (List Int),(chL PL).length=12*PL.length+PL.flatten.length
 | []=>rfl
 | d::t=>by
  have e:chL (d::t)=chB idat d++chL t:=rfl
  rw[e,List.length_append,chB_len,chL_len t,List.flatten_cons,List.length_append,List.length_cons]
  omega
theorem cut_more (C k f f' V n:Nat) (hC:1<=C) (h:k<=C*f) (hf:f<n) (hV:k % C=0->1<=V) (hf':f'=f+min V (n - f)):k+1<=C*f':=by
 by_cases q:k % C=0
 ·have:=hV q
  have h2:C*(f+1)<=C*f':=Nat.mul_le_mul_left C (by omega)
  rw[Nat.mul_succ] at h2
  omega
 ·have h1:k≠C*f:=fun e=>q (by rw[e,Nat.mul_mod_right])
  have h2:C*f<=C*f':=Nat.mul_le_mul_left C (by omega)
  omega
theorem flat_snoc (PL:List (List Int)) (l:List Int) (f n:Nat) (h:PL.flatten=l.take f):(PL++[(l.drop f).take n]).flatten=l.take (f+n):=by
 rw[List.flatten_append,h,List.flatten_cons,List.flatten_nil,List.append_nil,List.take_add]
theorem wdata_x (x N g o c:Nat) (L:List Int) (S:Nat->Prop) (cv:Value) (l cl:List Int) (w:World) (h:WrB w x N L S) (hm0:0<L.length) (hm:L.length<=10000000) (hl:LAt w .u8 (.slice (some ⟨g,o,none⟩) l.length c) l) (hB:isBytes l) (hcap:l.length<=c) (h0:0<l.length) (hn:l.length<=65536) (hgS:¬ S g) (hcl:LAt w .i64 cv cl) (hc0:0<cl.length) (hc1:cl.length<=64) (hcS:∀ b,sliceBlock cv=some b->¬ S b) (hcc:∀ y ∈ cl,0<=y/\y<=65536) (hcf:1<=cl.getD 0 0) :
  Calls Tryz.prog 76 #[.pointer (some ⟨x,0,none⟩),.slice (some ⟨g,o,none⟩) l.length c,cv] w fun r w'=>r = .returned (.tuple #[])/\∃ PL:List (List Int),PL≠[]/\PL.flatten=l/\(chL PL).length<=60000000/\PutB x N (L++chL PL) S w w':=by
 obtain ⟨cp,cc,rfl⟩:=hcl.form
 have hCn:cl.length*l.length<=4194304:=Nat.le_trans (Nat.mul_le_mul hc1 hn) (by decide)
 have hCp:0<cl.length*l.length:=Nat.mul_pos hc0 h0
 have hPB:∀ (PL:List (List Int)) (k f:Nat),PL.length=k->k<=4194304->PL.flatten=l.take f->f<=l.length->(L++chL PL).length<=100000000/\0<(L++chL PL).length/\(chL PL).length<=60000000:=fun PL k f h1 h2 h3 h4=>by
  have:=chL_len PL
  rw[h3,List.length_take,h1] at this
  rw[List.length_append]
  omega
 have F1:Hid (∀ (W:World) (k:Nat) (M:List Int),k<=67108864->PutB x N M S w W->Calls Tryz.prog 100 #[.slice cp cl.length cc,.int .i64 (k:Int)] W fun r w'=>r = .returned (.int .i64 (cl.getD (k % cl.length) 0))/\Kept W w'):=fun W k M hk hP=>turns_any _ cl k W (hcl.fr hP.fr hcS) hc0 (by omega) (by omega)
 have F2:Hid (∀ (W:World) (PL:List (List Int)) (f n c':Nat),(L++chL PL).length<=100000000->0<(L++chL PL).length->f+n<=l.length->PutB x N (L++chL PL) S w W->Calls Tryz.prog 107 #[.pointer (some ⟨x,0,none⟩),.slice (some ⟨g,o+f,none⟩) n c'] W fun r w'=>r = .returned (.tuple #[])/\PutB x N (L++chL (PL++[(l.drop f).take n])) S W w'):=by
  intro W PL f n c' hk hk0 hf hP
  have hlen:((l.drop f).take n).length=n:=by simp;omega
  have:=dataw_b x N (L++chL PL) S (.slice (some ⟨g,o+f,none⟩) n c') _ W hP.at' hk0 ((hl.fr hP.fr (fun b hb=>by
   have:g=b:=by injection hb
   rw[<- this];exact hgS)).part f n c' hf) (hB.part f n) (fun n' c'' e=>by injection e with e _ _;cases e) (fun b hb=>by
   have:g=b:=by injection hb
   rw[<- this];exact hgS) hk (by rw[hlen];omega)
  rw[chL_snoc,<- List.append_assoc]
  exact this
 have HP0:Hid (PutB x N (L++chL []) S w w):=by show PutB x N (L++[]) S w w;rw[List.append_nil];exact PutB.refl h
 have HCC:Hid (∀ y ∈ cl,0<=y/\y<=65536):=hcc
 have HPB:Hid _:=hPB
 have hQE:∀ k f,k<=cl.length*f->¬ (f<l.length/\k<cl.length*l.length)->f<=l.length->f=l.length:=fun k f h1 h2 h3=>by
  by_cases q:f<l.length
  ·have h4:cl.length*(f+1)<=cl.length*l.length:=Nat.mul_le_mul_left _ (by omega)
   rw[Nat.mul_succ] at h4
   exact absurd ⟨q,by omega⟩ h2
  ·omega
 have HCM:Hid (∀ k f f' V,k<=cl.length*f->f<l.length->(k % cl.length=0->1<=V)->f'=f+min V (l.length - f)->k+1<=cl.length*f'):=fun k f f' V h1 h2 h3 h4=>cut_more cl.length k f f' V l.length hc0 h1 h2 h3 h4
 clear h hl hB hcl hcS hcc hPB
 have eM:((cl.length:Int)*(l.length:Int))=((cl.length*l.length:Nat):Int):=by simp
 obtain ⟨Q,hQ⟩:∃ Q,Q=cl.length*l.length:=⟨_,rfl⟩
 rw[<- hQ] at eM hCn hCp hQE
 replace hQE:Hid _:=hQE
 have hCl:(cl.length:Int)<=64:=by omega
 have hll:(l.length:Int)<=65536:=by omega
 clear hQ
 go_enter Tryz.func76,Tryz.ntmps76
 go_wp2
 go_loopw [6,7] (fun u v W=>∃ (k f:Nat) (PL:List (List Int)),u = .int .i64 (k:Int)/\v = .int .i64 (f:Int)/\f<=l.length/\k<=Q/\Hid (k<=cl.length*f)/\PL.length=k/\PL.flatten=l.take f/\PutB x N (L++chL PL) S w W) (fun u _ _=>Q - (intOf u).toNat)
 case atStart=>exact ⟨0,0,[],rfl,rfl,by omega,by omega,Nat.zero_le _,rfl,rfl,HP0.out⟩
 case round=>
  obtain ⟨k,f,PL,rfl,rfl,hf,hkQ,hkf,hPl,hPf,hP⟩:=hrel
  by_cases hlt:f<l.length/\k<Q
  ·obtain ⟨hlt1,hlt2⟩:=hlt
   have FT:=F1.out wr k _ (by omega) hP
   have hcv:=HCC.out _ (getD_mem (Nat.mod_lt k hc0))
   obtain ⟨V,hV⟩:∃ V:Nat,cl.getD (k % cl.length) 0=(V:Int):=⟨(cl.getD (k % cl.length) 0).toNat,by omega⟩
   have hV1:k % cl.length=0->1<=V:=by
    intro e
    rw[e] at hV;omega
   have hkf2:Hid (∀ f',f'=f+min V (l.length - f)->k+1<=cl.length*f'):=fun f' e=>HCM.out k f f' V hkf.out hlt1 hV1 e
   obtain ⟨hb1,hb2,_⟩:=HPB.out PL k f hPl (by omega) hPf hf
   rw[hV] at FT
   have hVb:V<=65536:=by omega
   clear hcv hV hV1
   replace hb1:Hid _:=hb1
   replace hb2:Hid _:=hb2
   replace hPl:Hid _:=hPl
   replace hPf:Hid _:=hPf
   replace FT:Hid (Calls Tryz.prog 100 #[.slice cp cl.length cc,.int .i64 (k:Int)] wr fun r w'=>r = .returned (.int .i64 (V:Int))/\Kept wr w'):=FT
   replace hP:Hid (PutB x N (L++chL PL) S w wr):=hP
   have hV0:(0:Int)<=(V:Int):=by omega
   have l1:(f:Int)<(l.length:Int):=by omega
   have l2:(k:Int)<(Q:Int):=by omega
   by_cases hm':V<=l.length - f
   ·have hmi:(V:Int)<=(l.length:Int) - (f:Int):=by omega
    go_wp2_with fail
    refine FT.out.mono ?_
    rintro r w6 ⟨rfl,hk6⟩
    replace hk6:Hid (Kept wr w6):=hk6
    go_wp2_with fail
    refine (F2.out w6 PL f (V) (c - f) hb1.out hb2.out (by omega) (hP.out.kept hk6.out)).mono ?_
    rintro r w7 ⟨rfl,hw7⟩
    have HP7:Hid (PutB x N (L++chL (PL++[(l.drop f).take V])) S w w7):=(hP.out.kept hk6.out).trans hw7
    have hn1:Hid ((PL++[(l.drop f).take V]).length=k+1):=by show _=_;rw[List.length_append,hPl.out];rfl
    have hn2:Hid ((PL++[(l.drop f).take V]).flatten=l.take (f+V)):=flat_snoc PL l f V hPf.out
    have hn3:Hid (k+1<=cl.length*(f+V)):=hkf2.out (f+V) (by omega)
    clear hw7
    generalize PL++[(l.drop f).take V]=PL' at *
    go_wp2
    exact ⟨⟨k+1,f+V,PL',by go_num,by first | rfl | go_num,by omega,by omega,hn3,hn1.out,hn2.out,HP7.out⟩,by simp [intOf];omega⟩
   ·have hmi:¬ (V:Int)<=(l.length:Int) - (f:Int):=by omega
    go_wp2_with fail
    refine FT.out.mono ?_
    rintro r w6 ⟨rfl,hk6⟩
    replace hk6:Hid (Kept wr w6):=hk6
    go_wp2_with fail
    refine (F2.out w6 PL f (l.length - f) (c - f) hb1.out hb2.out (by omega) (hP.out.kept hk6.out)).mono ?_
    rintro r w7 ⟨rfl,hw7⟩
    have HP7:Hid (PutB x N (L++chL (PL++[(l.drop f).take (l.length - f)])) S w w7):=(hP.out.kept hk6.out).trans hw7
    have hn1:Hid ((PL++[(l.drop f).take (l.length - f)]).length=k+1):=by show _=_;rw[List.length_append,hPl.out];rfl
    have hn2:Hid ((PL++[(l.drop f).take (l.length - f)]).flatten=l.take l.length):=by
     have:=flat_snoc PL l f (l.length - f) hPf.out
     rw[show f+(l.length - f)=l.length from by omega] at this
     exact this
    have hn3:Hid (k+1<=cl.length*l.length):=hkf2.out l.length (by omega)
    clear hw7
    generalize PL++[(l.drop f).take (l.length - f)]=PL' at *
    go_wp2
    exact ⟨⟨k+1,l.length,PL',by go_num,by first | rfl | go_num,by omega,by omega,hn3,hn1.out,hn2.out,HP7.out⟩,by simp [intOf];omega⟩
  ·have hfe:f=l.length:=hQE.out k f hkf.out hlt hf
   subst hfe
   obtain ⟨_,_,hb3⟩:=HPB.out PL k l.length hPl (by omega) hPf hf
   have hfin:Hid (∃ PL:List (List Int),PL≠[]/\PL.flatten=l/\(chL PL).length<=60000000/\PutB x N (L++chL PL) S w wr):=by
    refine ⟨PL,?_,by rw[hPf,List.take_length],hb3,hP⟩
    intro e
    subst e
    rw[List.take_length] at hPf
    have:l=[]:=hPf.symm
    rw[this] at h0
    exact absurd h0 (by decide)
   clear hP hPf hPl hb3
   have l1:¬ (l.length:Int)<(l.length:Int):=by omega
   go_wp2
   go_end0
   exact ⟨rfl,hfin.out⟩
