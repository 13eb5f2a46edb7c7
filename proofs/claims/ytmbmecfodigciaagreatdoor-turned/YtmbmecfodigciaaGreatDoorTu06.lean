import Derived.Test.YtmbmecfodigciaaGreatDoorTu05
set_option maxRecDepth 100000
set_option maxHeartbeats 6400000
namespace Go.Proofs.YtmbmecfodigciaaGreatDoor
open Go.RowKit Px
set_option linter.unusedSimpArgs false
set_option linter.unusedVariables false
theorem zero646:Tryz.zeroCells86.toList=[.int .i64 0,.int .i64 0,.int .i64 0]++(List.replicate 306 (.int .i64 0)++(List.replicate 335 (.int .u8 0)++List.replicate 2 (.int .i64 0))):=by kernel_rfl
def tbL (a b c:Nat):List Value:=[.int .i64 (a:Int),.int .i64 (b:Int),.int .i64 (c:Int)]++(List.replicate 306 (.int .i64 0)++(List.replicate 335 (.int .u8 0)++List.replicate 2 (.int .i64 0)))
theorem tbL_len (a b c:Nat):(tbL a b c).length=646:=by
 unfold tbL
 simp only [List.length_append,List.length_replicate,List.length_cons,List.length_nil]
theorem tbL_set (a b c:Nat):((Tryz.zeroCells86.toList.set 0 (.int .i64 (a:Int))).set 1 (.int .i64 (b:Int))).set 2 (.int .i64 (c:Int))=tbL a b c:=by
 rw[zero646];rfl
def tbN (a b c:Nat):Tb:=⟨a,b,c,cs00,fun _=>0,fun _=>0,0,0⟩
theorem tbL_V (a b c:Nat):TbV (fun j=>(tbL a b c).getD j undef) 0 (tbN a b c):=by
 have A:∀ i,i<306->(tbL a b c).getD (3+i) undef = .int .i64 0:=fun i hi=>(getD_skip _ _ 3 i rfl).trans (getD_rep _ _ _ _ hi)
 have B:∀ i,i<335->(tbL a b c).getD (3+(306+i)) undef = .int .u8 0:=fun i hi=>(getD_skip _ _ 3 _ rfl).trans ((getD_skip _ _ 306 i (List.length_replicate ..)).trans (getD_rep _ _ _ _ hi))
 have C:∀ i,i<2->(tbL a b c).getD (3+(306+(335+i))) undef = .int .i64 0:=fun i hi=>(getD_skip _ _ 3 _ rfl).trans ((getD_skip _ _ 306 _ (List.length_replicate ..)).trans ((getD_skip _ _ 335 i (List.length_replicate ..)).trans (by
  have:=getD_rep 2 i (.int .i64 0) [] hi
  rw[List.append_nil] at this;exact this)))
 have A':∀ i,3<=i->i<309->(tbL a b c).getD i undef = .int .i64 0:=fun i h1 h2=>by
  have:=A (i - 3) (by omega);rwa [show 3+(i - 3)=i by omega] at this
 have B':∀ i,309<=i->i<644->(tbL a b c).getD i undef = .int .u8 0:=fun i h1 h2=>by
  have:=B (i - 309) (by omega);rwa [show 3+(306+(i - 309))=i by omega] at this
 have C':∀ i,644<=i->i<646->(tbL a b c).getD i undef = .int .i64 0:=fun i h1 h2=>by
  have:=C (i - 644) (by omega);rwa [show 3+(306+(335+(i - 644)))=i by omega] at this
 exact ⟨rfl,rfl,rfl,⟨fun i hi=>A' _ (by omega) (by omega),fun i hi=>A' _ (by omega) (by omega),A' _ (by omega) (by omega),A' _ (by omega) (by omega)⟩,fun i hi=>B' _ (by omega) (by omega),fun i hi=>B' _ (by omega) (by omega),C' _ (by omega) (by omega),C' _ (by omega) (by omega)⟩
theorem tbL_one (a b c:Nat):∀ v ∈ tbL a b c,v.oneCell'=true:=by
 intro v hv
 unfold tbL at hv
 simp only [List.mem_append,List.mem_cons,List.not_mem_nil,or_false,List.mem_replicate] at hv
 rcases hv with (rfl | rfl | rfl) | ⟨_,rfl⟩ | ⟨_,rfl⟩ | ⟨_,rfl⟩<;>rfl
theorem u32_and31 (v:Nat) (hv:v<4294967296):bits .and .u32 (v:Int) 31=((v % 32:Nat):Int):=by
 have:=u32_and_n v 31 hv (by omega)
 rw[show (31:Int)=((31:Nat):Int) from rfl,this]
 congr 1
 exact Nat.and_two_pow_sub_one_eq_mod v 5
theorem StV.put_tb {c d:Nat->Value} {o:Nat} {s:St} {t:Tb} (h:StV c o s) (e:∀ i,o<=i->i<o+3351->(i<o+623\/o+1269<=i)->d i=c i) (ht:TbV d (o+623) t):StV d o { s with tb:=t } :=
 ⟨(e _ (by omega) (by omega) (by omega)).trans h.part,(e _ (by omega) (by omega) (by omega)).trans h.number,(e _ (by omega) (by omega) (by omega)).trans h.got,(e _ (by omega) (by omega) (by omega)).trans h.wanted,h.path.congr (fun i h1 h2=>e i (by omega) (by omega) (by omega)),(e _ (by omega) (by omega) (by omega)).trans h.skip,(e _ (by omega) (by omega) (by omega)).trans h.window,(e _ (by omega) (by omega) (by omega)).trans h.last,(e _ (by omega) (by omega) (by omega)).trans h.left,h.lit.congr (fun i h1 h2=>e i (by omega) (by omega) (by omega)),h.dist.congr (fun i h1 h2=>e i (by omega) (by omega) (by omega)),ht,(e _ (by omega) (by omega) (by omega)).trans h.length,(e _ (by omega) (by omega) (by omega)).trans h.base,fun i hi=>(e _ (by omega) (by omega) (by omega)).trans (h.hist i hi),(e _ (by omega) (by omega) (by omega)).trans h.count,(e _ (by omega) (by omega) (by omega)).trans h.sum⟩
theorem CSV.shift {c d:Nat->Value} {o p:Nat} {s:CS} (e:∀ j,j<306->d (p+j)=c (o+j)) (h:CSV c o s):CSV d p s:=
 ⟨fun i hi=>(e i (by omega)).trans (h.count i hi),fun i hi=>by rw[Nat.add_assoc];exact (e (16+i) (by omega)).trans (by rw[<- Nat.add_assoc];exact h.sym i hi),(e 304 (by omega)).trans h.total,(e 305 (by omega)).trans h.longest⟩
theorem TbV.shift {c d:Nat->Value} {p:Nat} {s:Tb} (e:∀ j,j<646->d (p+j)=c j) (h:TbV c 0 s):TbV d p s:=by
 have f:∀ j v,j<646->c (0+j)=v->d (p+j)=v:=fun j v hj q=>(e j hj).trans (by rw[Nat.zero_add] at q;exact q)
 refine ⟨f 0 _ (by omega) h.literals,f 1 _ (by omega) h.distances,f 2 _ (by omega) h.shorts,h.short.shift (fun j hj => ?_),fun i hi => ?_,fun i hi => ?_,f 644 _ (by omega) h.told,f 645 _ (by omega) h.rep⟩
 ·rw[Nat.add_assoc,e (3+j) (by omega)]
 ·rw[Nat.add_assoc];exact f (309+i) _ (by omega) (by rw[<- Nat.add_assoc];exact h.sl i hi)
 ·rw[Nat.add_assoc];exact f (328+i) _ (by omega) (by rw[<- Nat.add_assoc];exact h.ls i hi)
def St.counts (s:St) (v:Nat):St × Nat:=if 286<v % 32+257\/30<v / 32 % 32+1 then ({ s with tb:=tbN (v % 32+257) (v / 32 % 32+1) (v / 1024+4) },12) else (({ s with tb:=tbN (v % 32+257) (v / 32 % 32+1) (v / 1024+4) }:St).enter 5 3,0)
theorem takeCounts_x (b o n v:Nat) (c:Nat->Value) (s:St) (w:World) (hB:Blk w b n c) (hV:StV c o s) (hn:o+3351<=n) (hv:v<16384) :
  Calls Tryz.prog 181 #[.pointer (some ⟨b,o,none⟩),.int .u32 (v:Int)] w fun e w'=>e = .returned (.int .i64 ((s.counts v).2:Int))/\StStep b o n c (s.counts v).1 w w':=by
 have ea:=u32_and31 v (by omega)
 have eb:=u32_and31 (v / 32) (by omega)
 obtain ⟨A,hA⟩:∃ A,A=v % 32+257:=⟨_,rfl⟩
 obtain ⟨Q,hQ⟩:∃ Q,Q=v / 32 % 32+1:=⟨_,rfl⟩
 obtain ⟨C,hC⟩:∃ C,C=v / 1024+4:=⟨_,rfl⟩
 obtain ⟨V5,h5⟩:∃ V5,V5=v / 32:=⟨_,rfl⟩
 obtain ⟨V10,h10⟩:∃ V10,V10=v / 1024:=⟨_,rfl⟩
 obtain ⟨A0,hA0⟩:∃ A0,A0=v % 32:=⟨_,rfl⟩
 obtain ⟨Q0,hQ0⟩:∃ Q0,Q0=v / 32 % 32:=⟨_,rfl⟩
 rw[<- hA0] at ea
 rw[<- hQ0,<- h5] at eb
 have e5:(v:Int) / 32=(V5:Int):=by omega
 have e10:(v:Int) / 1024=(V10:Int):=by omega
 have eA:(A0:Int)+257=(A:Int):=by omega
 have eQ:(Q0:Int)+1=(Q:Int):=by omega
 have eC:(V10:Int)+4=(C:Int):=by omega
 have bA:A<300:=by omega
 have bQ:Q<40:=by omega
 have bC:C<30:=by omega
 replace hA0:Hid _:=hA0
 replace hQ0:Hid _:=hQ0
 replace h5:Hid _:=h5
 replace h10:Hid _:=h10
 have HE:Hid (s.counts v=if 286<A\/30<Q then ({ s with tb:=tbN A Q C },12) else (({ s with tb:=tbN A Q C }:St).enter 5 3,0)):=by
  show s.counts v=_
  rw[hA,hQ,hC];rfl
 replace hA:Hid _:=hA
 replace hQ:Hid _:=hQ
 replace hC:Hid _:=hC
 generalize s.counts v=SC at *
 obtain ⟨L,hL⟩:∃ L,L=tbL A Q C:=⟨_,rfl⟩
 have hset:=tbL_set A Q C
 rw[<- hL] at hset
 have hll:L.length=646:=by rw[hL];exact tbL_len _ _ _
 have hsc:(storeCells ⟨b,o+623,none⟩ L).run Tryz.prog w = .ok () (w.setCells b (o+623) L):=store_all (by rw[hll];exact hB.there (by omega)) (by rw[hL];exact tbL_one _ _ _)
 have B1:Blk (w.setCells b (o+623) L) b n (updL c (o+623) 646 (fun j=>L.getD j undef)):=hB.sets (k:=o+623) (m:=646) (by omega) (fun j=>L.getD j undef) hll (fun j hj=>by
  show L[j]? = some (L.getD j undef)
  rw[List.getD_eq_getElem?_getD,List.getElem?_eq_getElem (by omega)];rfl)
 have T1:TbV (updL c (o+623) 646 (fun j=>L.getD j undef)) (o+623) (tbN A Q C):=TbV.shift (fun j hj=>by
  rw[updL_in hj,hL]) (tbL_V A Q C)
 have V1:StV (updL c (o+623) 646 (fun j=>L.getD j undef)) o { s with tb:=tbN A Q C }:=hV.put_tb (fun i _ _ h=>updL_out (by omega)) T1
 have C1:FrC b o (o+3351) c (updL c (o+623) 646 (fun j=>L.getD j undef)):=⟨fun i hi=>updL_out (by omega)⟩
 have F1:Fr1 b w (w.setCells b (o+623) L):=Fr1.sets _ _ (Fr.refl _ _)
 have y0:=B1.at (i:=o+623) (by omega) T1.literals
 have y1:=B1.at (i:=o+623+1) (by omega) T1.distances
 replace y0:(w.setCells b (o+623) L).cell? ⟨b,o+623,none⟩=some (.int .i64 (A:Int)):=y0
 replace y1:(w.setCells b (o+623) L).cell? ⟨b,o+623+1,none⟩=some (.int .i64 (Q:Int)):=y1
 replace B1:Hid _:=B1
 replace T1:Hid _:=T1
 replace V1:Hid _:=V1
 replace C1:Hid _:=C1
 replace F1:Hid _:=F1
 replace hL:Hid _:=hL
 replace hll:Hid _:=hll
 clear hB hV
 generalize w.setCells b (o+623) L=w1 at *
 by_cases hbad:286<A\/30<Q
 ·have HE2:Hid (SC=({ s with tb:=tbN A Q C },12)):=by show SC=_;rw[HE.out,if_pos hbad]
  by_cases h1:286<A
  ·have h1':(286:Int)<(A:Int):=by omega
   clear hbad
   go_enter Tryz.func181,Tryz.ntmps181
   go_wp2
   go_ret
   rw[HE2.out]
   exact ⟨rfl,_,B1.out,V1.out,C1.out,F1.out⟩
  ·have h1':¬ (286:Int)<(A:Int):=by omega
   have h2':(30:Int)<(Q:Int):=by omega
   clear hbad
   go_enter Tryz.func181,Tryz.ntmps181
   go_wp2
   go_ret
   rw[HE2.out]
   exact ⟨rfl,_,B1.out,V1.out,C1.out,F1.out⟩
 ·have HE2:Hid (SC=(({ s with tb:=tbN A Q C }:St).enter 5 3,0)):=by show SC=_;rw[HE.out,if_neg hbad]
  have h1':¬ (286:Int)<(A:Int):=by omega
  have h2':¬ (30:Int)<(Q:Int):=by omega
  have FE:Hid _:=senter_x b o n 5 3 _ { s with tb:=tbN A Q C } w1 B1.out V1.out hn
  go_enter Tryz.func181,Tryz.ntmps181
  go_wp2_with fail
  refine Calls.mono FE.out ?_
  rintro e w2 ⟨rfl,d,h1,h2,h3,h4⟩
  go_wp2_with fail
  go_ret
  rw[HE2.out]
  exact ⟨rfl,d,h1,h2,C1.out.trans h3,F1.out.trans h4⟩
theorem StStep.one {b o n:Nat} {c:Nat->Value} {s:St} {w W:World} (h:StStep b o n c s w W) (k:Nat) (v:Value) (t:Tb) (hn:o+3351<=n) (hk:k<646) (ht:∀ d,TbV d (o+623) s.tb->TbV (upd d (o+623+k) v) (o+623) t):StStep b o n c { s with tb:=t } w (W.setCell ⟨b,o+623+k,none⟩ v):=by
 obtain ⟨d,h1,h2,h3,h4⟩:=h
 exact ⟨_,h1.set (k:=o+623+k) (by omega) _,h2.put_tb (fun i _ _ q=>upd_ne _ _ _ (by omega)) (ht d h2.tb),h3.trans (FrC.upd _ (by omega) (by omega)),Fr1.set h4 _ _⟩
theorem StStep.sl {b o n:Nat} {c:Nat->Value} {s:St} {w W:World} (h:StStep b o n c s w W) (hn:o+3351<=n) (k v:Nat) (hk:k<19):StStep b o n c { s with tb:={ s.tb with sl:=upd s.tb.sl k v } } w (W.setCell ⟨b,o+623+309+k,none⟩ (.int .u8 (v:Int))):=by
 have:=h.one (309+k) (.int .u8 (v:Int)) { s.tb with sl:=upd s.tb.sl k v } hn (by omega) (fun d q=>by rw[<- Nat.add_assoc];exact q.set_sl k v hk)
 rw[<- Nat.add_assoc] at this;exact this
theorem StStep.ls {b o n:Nat} {c:Nat->Value} {s:St} {w W:World} (h:StStep b o n c s w W) (hn:o+3351<=n) (k v:Nat) (hk:k<316):StStep b o n c { s with tb:={ s.tb with ls:=upd s.tb.ls k v } } w (W.setCell ⟨b,o+623+328+k,none⟩ (.int .u8 (v:Int))):=by
 have:=h.one (328+k) (.int .u8 (v:Int)) { s.tb with ls:=upd s.tb.ls k v } hn (by omega) (fun d q=>by rw[<- Nat.add_assoc];exact q.set_ls k v hk)
 rw[<- Nat.add_assoc] at this;exact this
theorem StStep.told {b o n:Nat} {c:Nat->Value} {s:St} {w W:World} (h:StStep b o n c s w W) (hn:o+3351<=n) (v:Nat):StStep b o n c { s with tb:={ s.tb with told:=v } } w (W.setCell ⟨b,o+623+644,none⟩ (.int .i64 (v:Int))):=h.one 644 _ _ hn (by omega) (fun d q=>q.set_told v)
theorem StStep.rep {b o n:Nat} {c:Nat->Value} {s:St} {w W:World} (h:StStep b o n c s w W) (hn:o+3351<=n) (v:Int):StStep b o n c { s with tb:={ s.tb with rep:=v } } w (W.setCell ⟨b,o+623+645,none⟩ (.int .i64 v)):=h.one 645 _ _ hn (by omega) (fun d q=>q.set_rep v)
theorem StStep.kept {b o n:Nat} {c:Nat->Value} {s:St} {w W W':World} (h:StStep b o n c s w W) (k:Kept W W'):StStep b o n c s w W':=by
 obtain ⟨d,h1,h2,h3,h4⟩:=h
 exact ⟨d,h1.kept k,h2,h3,h4.kept k⟩
theorem StStep.set {b o n:Nat} {c:Nat->Value} {s:St} {w W:World} (h:StStep b o n c s w W) (hn:o+3351<=n) (k:Nat) (x:CS) (s':St) (cs:List Value) (hcs:cs=(List.range 306).map (csC x)) (hk:k+306<=3351) (hs:∀ d e,StV d o s->CSV e (o+k) x->(∀ i,¬ (o+k<=i/\i<o+k+306)->e i=d i)->StV e o s'):(storeCells ⟨b,o+k,none⟩ cs).run Tryz.prog W = .ok () (W.setCells b (o+k) cs)/\StStep b o n c s' w (W.setCells b (o+k) cs):=by
 obtain ⟨d,h1,h2,h3,h4⟩:=h
 have hdl:cs.length=306:=by rw[hcs];exact range_len _ 306
 refine ⟨store_all (by rw[hdl];exact h1.there (by omega)) (by rw[hcs];exact csC_one _),updL d (o+k) 306 (csC x),h1.sets (by omega) _ hdl (fun j hj=>by rw[hcs,range_get _ 306 j hj]),hs d _ h2 (CSV.of_cells (fun j hj=>updL_in hj)) (fun i hi=>updL_out hi),h3.trans (FrC.updL (by omega) (by omega)),Fr1.sets _ _ h4⟩
theorem StStep.short {b o n:Nat} {c:Nat->Value} {s:St} {w W:World} (h:StStep b o n c s w W) (hn:o+3351<=n) (x:CS) (cs:List Value) (hcs:cs=(List.range 306).map (csC x)):(storeCells ⟨b,o+623+3,none⟩ cs).run Tryz.prog W = .ok () (W.setCells b (o+623+3) cs)/\StStep b o n c { s with tb:={ s.tb with short:=x } } w (W.setCells b (o+623+3) cs) :=
 h.set hn 626 x _ cs hcs (by omega) (fun d e q1 q2 q3=>q1.put_tb (fun i _ _ q=>q3 i (by omega)) (q1.tb.set_short x q2 (fun i q=>q3 i (fun z=>q ⟨by omega,by omega⟩))))
theorem StStep.lit {b o n:Nat} {c:Nat->Value} {s:St} {w W:World} (h:StStep b o n c s w W) (hn:o+3351<=n) (x:CS) (cs:List Value) (hcs:cs=(List.range 306).map (csC x)):(storeCells ⟨b,o+11,none⟩ cs).run Tryz.prog W = .ok () (W.setCells b (o+11) cs)/\StStep b o n c { s with lit:=x } w (W.setCells b (o+11) cs) :=
 h.set hn 11 x _ cs hcs (by omega) (fun d e q1 q2 q3=>q1.set_lit x q2 (fun i q=>q3 i (fun z=>q ⟨by omega,by omega⟩)))
theorem StStep.dist {b o n:Nat} {c:Nat->Value} {s:St} {w W:World} (h:StStep b o n c s w W) (hn:o+3351<=n) (x:CS) (cs:List Value) (hcs:cs=(List.range 306).map (csC x)):(storeCells ⟨b,o+317,none⟩ cs).run Tryz.prog W = .ok () (W.setCells b (o+317) cs)/\StStep b o n c { s with dist:=x } w (W.setCells b (o+317) cs) :=
 h.set hn 317 x _ cs hcs (by omega) (fun d e q1 q2 q3=>q1.set_dist x q2 (fun i q=>q3 i (fun z=>q ⟨by omega,by omega⟩)))
theorem StStep.refl {b o n:Nat} {c:Nat->Value} {s:St} {w:World} (hB:Blk w b n c) (hV:StV c o s):StStep b o n c s w w:=⟨c,hB,hV,FrC.refl _ _ _ _,Fr.refl _ _⟩
theorem StStep.tbc {b o n:Nat} {c:Nat->Value} {s:St} {w W:World} (h:StStep b o n c s w W) (hn:o+3351<=n):W.cell? ⟨b,o+623,none⟩=some (.int .i64 (s.tb.literals:Int))/\W.cell? ⟨b,o+623+1,none⟩=some (.int .i64 (s.tb.distances:Int))/\W.cell? ⟨b,o+623+2,none⟩=some (.int .i64 (s.tb.shorts:Int))/\W.cell? ⟨b,o+623+644,none⟩=some (.int .i64 (s.tb.told:Int))/\W.cell? ⟨b,o+623+645,none⟩=some (.int .i64 s.tb.rep)/\(∀ k,k<19->W.cell? ⟨b,o+623+309+k,none⟩=some (.int .u8 (s.tb.sl k:Int)))/\(∀ k,k<316->W.cell? ⟨b,o+623+328+k,none⟩=some (.int .u8 (s.tb.ls k:Int)))/\∀ k,W.frozen? ⟨b,k,none⟩=false:=by
 obtain ⟨d,h1,h2,h3,h4⟩:=h
 exact ⟨h1.at (by omega) h2.tb.literals,h1.at (by omega) h2.tb.distances,h1.at (by omega) h2.tb.shorts,h1.at (by omega) h2.tb.told,h1.at (by omega) h2.tb.rep,fun k hk=>h1.at (by omega) (h2.tb.sl k hk),fun k hk=>h1.at (by omega) (h2.tb.ls k hk),h1.fz⟩
def St.short1 (s:St) (v:Nat):St:={ s with tb:={ s.tb with sl:=upd s.tb.sl (ordT.getD s.tb.told 0) v,told:=s.tb.told+1 } }
def St.short2 (s:St):St:={ s with tb:={ s.tb with short:=setP s.tb.sl 19 } }
def St.shortLen (s:St) (v:Nat):St × Nat:=
 if s.tb.told+1<s.tb.shorts then ((s.short1 v).enter 5 3,0)
 else if (s.short1 v).short2.tb.short.full=true then (({ (s.short1 v).short2 with tb:={ (s.short1 v).short2.tb with told:=0 } }:St).enter 11 0,0)
 else ((s.short1 v).short2,12)
theorem shortLen_x (b o n v:Nat) (c:Nat->Value) (s:St) (w:World) (hB:Blk w b n c) (hV:StV c o s) (hn:o+3351<=n) (hT:TabsAt w) (hb:b≠2) (hv:v<256) (ht:s.tb.told<19) (hs:s.tb.shorts<=19) (hsl:∀ i,i<19->s.tb.sl i<256) :
  Calls Tryz.prog 182 #[.pointer (some ⟨b,o,none⟩),.int .u32 (v:Int)] w fun e w'=>e = .returned (.int .i64 ((s.shortLen v).2:Int))/\StStep b o n c (s.shortLen v).1 w w':=by
 have S0:StStep b o n c s w w:=StStep.refl hB hV
 obtain ⟨-,-,y2,y4,-,y6,-,z⟩:=S0.tbc hn
 have yo:=hT.ord s.tb.told ht
 have ho:=ordT_le s.tb.told ht
 have HE:Hid (s.shortLen v=if s.tb.told+1<s.tb.shorts then ((s.short1 v).enter 5 3,0) else if (s.short1 v).short2.tb.short.full=true then (({ (s.short1 v).short2 with tb:={ (s.short1 v).short2.tb with told:=0 } }:St).enter 11 0,0) else ((s.short1 v).short2,12)):=rfl
 obtain ⟨T,hTe⟩:∃ T,T=s.tb.told:=⟨_,rfl⟩
 obtain ⟨R,hR⟩:∃ R,R=ordT.getD s.tb.told 0:=⟨_,rfl⟩
 rw[<- hR] at yo ho
 have y7:=y6 R ho
 obtain ⟨OV,hOV⟩:∃ OV,OV=s.tb.sl R:=⟨_,rfl⟩
 rw[<- hOV] at y7
 have S1:Hid (StStep b o n c (s.short1 v) w ((w.setCell ⟨b,o+623+309+R,none⟩ (.int .u8 (v:Int))).drew.setCell ⟨b,o+623+644,none⟩ (.int .i64 ((T+1:Nat):Int)))):=by
  have:=((S0.sl hn R v ho).kept ((Kept.refl _).drewN 1)).told hn (T+1)
  rw[hTe] at this ⊢
  unfold St.short1
  rw[<- hR]
  exact this
 have hsl1:∀ i,i<19->(s.short1 v).tb.sl i<256:=fun i hi=>by
  show upd s.tb.sl (ordT.getD s.tb.told 0) v i<256
  by_cases e:i=ordT.getD s.tb.told 0
  ·rw[e,upd_same];exact hv
  ·rw[upd_ne _ _ _ e];exact hsl i hi
 have t1:(s.short1 v).tb.told=T+1:=by rw[hTe];rfl
 have t2:(s.short1 v).tb.shorts=s.tb.shorts:=rfl
 rw[<- hTe] at y4 yo ht HE
 generalize s.short1 v=s1 at *
 generalize s.shortLen v=SC at *
 obtain ⟨H,hH⟩:∃ H,H=s.tb.shorts:=⟨_,rfl⟩
 rw[<- hH] at t2 HE hs y2
 replace hR:Hid _:=hR
 replace hTe:Hid _:=hTe
 replace hOV:Hid _:=hOV
 replace hH:Hid _:=hH
 replace y6:Hid _:=y6
 have HSL:Hid (∀ i,i<19->s1.tb.sl i<256):=hsl1
 have T1:Hid (s1.tb.told=T+1):=t1
 have T2:Hid (s1.tb.shorts=H):=t2
 clear S0 hB hV hT hsl hsl1 t1 t2
 obtain ⟨T',hT'⟩:∃ T',T'=T+1:=⟨_,rfl⟩
 rw[<- hT'] at S1 T1 HE
 have eT:(T:Int)+1=(T':Int):=by omega
 have i0:(0:Int)<=(T:Int):=by omega
 have i1:(T:Int)<19:=by omega
 have r0:(0:Int)<=(R:Int):=by omega
 have r1:(R:Int)<19:=by omega
 have wv:IntKind.u8.wrap (v:Int)=(v:Int):=by rw[IntKind.wrap_u8];omega
 have z1:∀ k,(w.setCell ⟨b,o+623+309+R,none⟩ (.int .u8 (v:Int))).drew.frozen? ⟨b,k,none⟩=false:=fun k=>(World.frozen?_setCell _ _ _ _).trans (z k)
 have y4':(w.setCell ⟨b,o+623+309+R,none⟩ (.int .u8 (v:Int))).drew.cell? ⟨b,o+623+644,none⟩=some (.int .i64 (T:Int)):=(cell_set_other _ _ _ _ _ (by omega)).trans y4
 replace hT':Hid _:=hT'
 go_enter Tryz.func182,Tryz.ntmps182
 go_wp2_with fail
 go_region_held3 (fun W=>W.cell? ⟨b,o+623+644,none⟩=some (.int .i64 (T:Int))/\W.cell? ⟨2,T,none⟩=some (.int .i64 (R:Int))) (first | exact ⟨y4,yo⟩ | exact ⟨(cell_set_other _ _ _ _ _ (by omega)).trans y4,(cell_set_blk _ _ _ _ (by omega)).trans yo⟩ | go_keep) (fail)
 generalize (w.setCell ⟨b,o+623+309+R,none⟩ (.int .u8 (v:Int))).drew=w1 at *
 clear z y4 yo y2 y7
 go_upto_region 5 with fail
 generalize w1.setCell ⟨b,o+623+644,none⟩ (.int .i64 (T':Int))=w2 at *
 clear z1 y4'
 obtain ⟨-,-,y2,y4,-,-,-,z⟩:=S1.out.tbc hn
 rw[T2.out] at y2
 rw[T1.out] at y4
 go_wp2_with fail
 go_quiet (fail)
 have S2:=S1.out.kept ((Kept.refl w2).drewN nq)
 generalize w2.drewN nq=w3 at *
 clear y2 y4 z S1
 replace S2:Hid (StStep b o n c s1 w w3):=S2
 by_cases h1:T'<H
 ·have h1':(T':Int)<(H:Int):=by omega
  have HE2:Hid (SC=(s1.enter 5 3,0)):=by show SC=_;rw[HE.out,if_pos h1]
  have FE:Hid (Calls Tryz.prog 154 #[.pointer (some ⟨b,o,none⟩),.int .i64 ((5:Nat):Int),.int .u64 ((3:Nat):Int)] w3 fun e w'=>e = .returned (.tuple #[])/\StStep b o n c (s1.enter 5 3) w w'):=by
   obtain ⟨d,k1,k2,k3,k4⟩:=S2.out
   refine (senter_x b o n 5 3 d s1 w3 k1 k2 hn).mono ?_
   rintro e w' ⟨rfl,d',m1,m2,m3,m4⟩
   exact ⟨rfl,d',m1,m2,k3.trans m3,k4.trans m4⟩
  go_wp2_with fail
  refine FE.out.mono ?_
  rintro e w4 ⟨rfl,S4⟩
  go_wp2
  go_ret
  rw[HE2.out]
  exact ⟨rfl,S4⟩
 ·have h1':¬ (T':Int)<(H:Int):=by omega
  obtain ⟨-,-,-,-,-,y6,-,z⟩:=S2.out.tbc hn
  have FM:Hid _:=make_g b (o+623+309) 19 19 s1.tb.sl w3 y6 HSL.out (by omega) (by omega) (by omega)
  have HE2:Hid (SC=if s1.short2.tb.short.full=true then (({ s1.short2 with tb:={ s1.short2.tb with told:=0 } }:St).enter 11 0,0) else (s1.short2,12)):=by show SC=_;rw[HE.out,if_neg h1]
  clear y6
  go_wp2_with fail
  refine Calls.mono FM.out ?_
  rintro e w4 ⟨rfl,hk4⟩
  obtain ⟨cs,hcs⟩:∃ cs,cs=(List.range 306).map (csC (setP s1.tb.sl 19)):=⟨_,rfl⟩
  rw[<- hcs]
  obtain ⟨hsc,S5⟩:=(S2.out.kept hk4).short hn (setP s1.tb.sl 19) cs hcs
  replace S5:Hid (StStep b o n c s1.short2 w (w4.setCells b (o+623+3) cs)):=S5
  have ok5:Hid (CSOk s1.short2.tb.short):=setP_ok s1.tb.sl 19 (by omega) (by omega)
  have hcl:cs.length=306:=by rw[hcs];exact range_len _ 306
  replace hcs:Hid _:=hcs
  clear hk4 z
  generalize s1.short2=s2 at *
  go_upto_region 9 with fail
  generalize w4.setCells b (o+623+3) cs=w5 at *
  clear hsc hcl
  have FF:Hid (Calls Tryz.prog 194 #[.pointer (some ⟨b,o+623+3,none⟩)] w5 fun e w'=>e = .returned (.bool s2.tb.short.full)/\w'=w5):=by
   obtain ⟨d,k1,k2,k3,k4⟩:=S5.out
   exact full_x b (o+623+3) n d s2.tb.short w5 k1 k2.tb.short (by omega) ok5.out
  obtain ⟨BF,hBF⟩:∃ BF,BF=s2.tb.short.full:=⟨_,rfl⟩
  rw[<- hBF] at FF HE2
  replace hBF:Hid _:=hBF
  go_wp2_with fail
  refine FF.out.mono ?_
  rintro e w6 ⟨rfl,hw6⟩
  subst w6
  cases BF with
  | false=>
   have HE3:Hid (SC=(s2,12)):=HE2.out
   go_wp2
   go_ret
   rw[HE3.out]
   exact ⟨rfl,S5.out⟩
  | true=>
   have HE3:Hid (SC=(({ s2 with tb:={ s2.tb with told:=0 } }:St).enter 11 0,0)):=HE2.out
   obtain ⟨-,-,-,y4,-,-,-,z⟩:=S5.out.tbc hn
   have S6:Hid _:=S5.out.told hn 0
   have FE:Hid (∀ W,StStep b o n c { s2 with tb:={ s2.tb with told:=0 } } w W->Calls Tryz.prog 154 #[.pointer (some ⟨b,o,none⟩),.int .i64 ((11:Nat):Int),.int .u64 ((0:Nat):Int)] W fun e w'=>e = .returned (.tuple #[])/\StStep b o n c (({ s2 with tb:={ s2.tb with told:=0 } }:St).enter 11 0) w w'):=fun W hW=>by
    obtain ⟨d,k1,k2,k3,k4⟩:=hW
    refine (senter_x b o n 11 0 d { s2 with tb:={ s2.tb with told:=0 } } W k1 k2 hn).mono ?_
    rintro e w' ⟨rfl,d',m1,m2,m3,m4⟩
    exact ⟨rfl,d',m1,m2,k3.trans m3,k4.trans m4⟩
   go_wp2_with fail
   refine (FE.out _ S6.out).mono ?_
   rintro e w7 ⟨rfl,S7⟩
   go_wp2
   go_ret
   rw[HE3.out]
   exact ⟨rfl,S7⟩
def St.mkLit (s:St):St:={ s with lit:=setP s.tb.ls s.tb.literals }
def St.mkDist (s:St):St:={ s with dist:=setP (fun i=>s.tb.ls (s.tb.literals+i)) (s.tb.told - s.tb.literals) }
def St.makeCodes (s:St):St × Nat:=
 if (s.mkLit.mkDist.lit.full || s.mkLit.mkDist.lit.lone)=false then (s.mkLit.mkDist,12)
 else if (s.mkLit.mkDist.dist.full || (s.mkLit.mkDist.dist.lone || s.mkLit.mkDist.dist.empty))=false then (s.mkLit.mkDist,12)
 else if s.tb.ls 256=0 then (s.mkLit.mkDist,12) else (s.mkLit.mkDist.enter 12 0,0)
def CsX (x:CS) (W:World) (e:Ending) (W':World):Prop:=∃ cs:List Value,e = .returned (.agg cs.toArray)/\Hid (cs=(List.range 306).map (csC x))/\cs.length=306/\Kept W W'
theorem make_s (b q N C:Nat) (f:Nat->Nat) (w:World) (hg:∀ i,i<N->w.cell? ⟨b,q+i,none⟩=some (.int .u8 (f i:Int))) (hfb:∀ i,i<N->f i<256) (h0:0<N) (h1:N<=288) (hC:N<=C):Calls Tryz.prog 193 #[.slice (some ⟨b,q,none⟩) N C] w fun e w'=>CsX (setP f N) w e w' :=
 (make_g b q N C f w hg hfb h0 h1 hC).mono (fun e w' ⟨h1,h2⟩=>⟨_,h1,rfl,range_len _ 306,h2⟩)
theorem makeCodes_x (b o n:Nat) (c:Nat->Value) (s:St) (w:World) (hB:Blk w b n c) (hV:StV c o s) (hn:o+3351<=n) (hA1:257<=s.tb.literals) (hA2:s.tb.literals<=286) (ht1:s.tb.literals<s.tb.told) (ht2:s.tb.told<=s.tb.literals+30) (hls:∀ i,i<316->s.tb.ls i<256) :
  Calls Tryz.prog 188 #[.pointer (some ⟨b,o,none⟩)] w fun e w'=>e = .returned (.int .i64 (s.makeCodes.2:Int))/\StStep b o n c s.makeCodes.1 w w':=by
 have S0:StStep b o n c s w w:=StStep.refl hB hV
 obtain ⟨y0,-,-,y4,-,-,y7,z⟩:=S0.tbc hn
 have hbl:=hB.lt
 have HE:Hid (s.makeCodes=if (s.mkLit.mkDist.lit.full || s.mkLit.mkDist.lit.lone)=false then (s.mkLit.mkDist,12) else if (s.mkLit.mkDist.dist.full || (s.mkLit.mkDist.dist.lone || s.mkLit.mkDist.dist.empty))=false then (s.mkLit.mkDist,12) else if s.tb.ls 256=0 then (s.mkLit.mkDist,12) else (s.mkLit.mkDist.enter 12 0,0)):=rfl
 have HLS:Hid (∀ i,i<316->s.tb.ls i<256):=hls
 have S1:Hid (StStep b o n c s w w):=S0
 have e1:s.mkLit.tb=s.tb:=rfl
 have e2:s.mkLit.mkDist.tb=s.tb:=rfl
 have o1:CSOk s.mkLit.mkDist.lit:=setP_ok _ _ (by omega) (by omega)
 have o2:CSOk s.mkLit.mkDist.dist:=setP_ok (fun i=>s.tb.ls (s.tb.literals+i)) (s.tb.told - s.tb.literals) (by omega) (by omega)
 have d1:Hid (s.mkLit={ s with lit:=setP s.tb.ls s.tb.literals }):=rfl
 have d2:Hid (s.mkLit.mkDist={ s.mkLit with dist:=setP (fun i=>s.tb.ls (s.tb.literals+i)) (s.tb.told - s.tb.literals) }):=rfl
 generalize s.mkLit.mkDist=s2 at *
 generalize s.mkLit=s1 at *
 generalize s.makeCodes=SC at *
 obtain ⟨A,hA⟩:∃ A,A=s.tb.literals:=⟨_,rfl⟩
 obtain ⟨T,hT⟩:∃ T,T=s.tb.told:=⟨_,rfl⟩
 obtain ⟨f,hf⟩:∃ f,f=s.tb.ls:=⟨_,rfl⟩
 obtain ⟨M,hM⟩:∃ M,M=s.tb.told - s.tb.literals:=⟨_,rfl⟩
 rw[<- hA] at hA1 hA2 ht1 ht2 y0 d1 d2
 rw[<- hT] at ht1 ht2 y4 d2
 rw[<- hf] at HLS HE y7 d1 d2
 rw[<- hA,<- hT] at hM
 rw[<- hM] at d2
 have Y7:Hid (∀ W,Kept w W->∀ k,k<316->W.cell? ⟨b,o+623+328+k,none⟩=some (.int .u8 (f k:Int))):=fun W kW k hk=>(kW.cell (p:=⟨b,o+623+328+k,none⟩) hbl).trans (y7 k hk)
 have FM1:Hid (∀ W,Kept w W->Calls Tryz.prog 193 #[.slice (some ⟨b,o+623+328,none⟩) A 316] W fun e w'=>CsX (setP f A) W e w'):=fun W kW=>make_s b (o+623+328) A 316 f W (fun i hi=>Y7.out W kW i (by omega)) (fun i hi=>HLS.out i (by omega)) (by omega) (by omega) (by omega)
 have H0a:Hid (∀ W,Kept w W->W.cell? ⟨b,o+623,none⟩=some (.int .i64 (A:Int))):=fun W kW=>(kW.cell (p:=⟨b,o+623,none⟩) hbl).trans y0
 have H0b:Hid (∀ (W:World) (cs:List Value),Kept w W->cs.length=306->(W.setCells b (o+11) cs).cell? ⟨b,o+623,none⟩=some (.int .i64 (A:Int))):=fun W cs kW hc=>(World.cell?_setCells_out b cs (o+11) W ⟨b,o+623,none⟩ (fun _ _=>Or.inr (by rw[hc];show o+11+306<=o+623;omega))).trans (H0a.out W kW)
 replace hA:Hid _:=hA
 replace hT:Hid _:=hT
 replace hf:Hid _:=hf
 have HM:Hid (M=T - A):=hM
 have bM:0<M/\M<=30:=by omega
 clear hM
 have a0:decide ((A:Int)<0)=false:=decide_eq_false (by omega)
 have a1:decide ((T:Int)<(A:Int))=false:=decide_eq_false (by omega)
 have a2:decide ((316:Int)<(T:Int))=false:=decide_eq_false (by omega)
 have a1':decide (T<A)=false:=decide_eq_false (by omega)
 have a2':decide (316<T)=false:=decide_eq_false (by omega)
 have a3:(0:Int)<=(A:Int):=by omega
 have a4:(A:Int)<=316:=by omega
 have a5:(A:Int)<=(T:Int):=by omega
 have a6:(T:Int)<=316:=by omega
 replace y7:Hid _:=y7
 replace e1:Hid _:=e1
 replace e2:Hid _:=e2
 replace o1:Hid _:=o1
 replace o2:Hid _:=o2
 clear hB hV hls S0
 go_enter Tryz.func188,Tryz.ntmps188
 go_wp2_with fail
 go_quiet (fail)
 have K1:Kept w (w.drewN nq):=(Kept.refl w).drewN nq
 have S2:=S1.out.kept K1
 generalize w.drewN nq=w1 at *
 replace S2:Hid (StStep b o n c s w w1):=S2
 replace K1:Hid (Kept w w1):=K1
 have y01:=H0a.out w1 K1.out
 have hb1:b<w1.heap.size:=Nat.lt_of_lt_of_le hbl K1.out.size
 clear y0 y4 z y7 S1
 go_upto_region 4 with fail
 go_region_held3 (fun W=>W.cell? ⟨b,o+623,none⟩=some (.int .i64 (A:Int))) (first | exact y01 | exact H0b.out _ _ hk5 hcl | exact H0a.out _ hk5 | exact H0a.out _ (K1.out.trans ((Kept.refl _).drewN 1)) | go_keep) ((go_at_call 193;refine (FM1.out _ (K1.out.trans ((Kept.refl _).drewN 1))).mono ?_;rintro e w5 ⟨cs,rfl,hcs,hcl,hk5'⟩;have hk5:Kept w w5:=(K1.out.trans ((Kept.refl _).drewN 1)).trans hk5';have hk15:Kept w1 w5:=((Kept.refl _).drewN 1).trans hk5';have hsc5:=((S2.out.kept hk15).lit hn (setP f A) cs hcs.out).1))
 have S3:StStep b o n c s1 w (w5.setCells b (o+11) cs):=by
  have q:=((S2.out.kept hk15).lit hn (setP f A) cs hcs.out).2
  rw[<- d1.out] at q
  exact q
 clear hsc5 hcl hk5' hk5 hk15 hcs
 generalize w5.setCells b (o+11) cs=w6 at *
 obtain ⟨y0,-,-,y4,-,-,y7,z⟩:=S3.tbc hn
 rw[e1.out,<- hA.out] at y0
 rw[e1.out,<- hT.out] at y4
 rw[e1.out,<- hf.out] at y7
 have hb6:b<w6.heap.size:=World.block_lt_of_cell? _ _ y0
 have FM2:Hid (∀ W,Kept w6 W->Calls Tryz.prog 193 #[.slice (some ⟨b,o+623+328+A,none⟩) M (316 - A)] W fun e w'=>CsX (setP (fun i=>f (A+i)) M) W e w'):=fun W kW=>make_s b (o+623+328+A) M (316 - A) (fun i=>f (A+i)) W (fun i hi=>by
  rw[Nat.add_assoc (o+623+328)]
  exact (kW.cell (p:=⟨b,o+623+328+(A+i),none⟩) hb6).trans (y7 (A+i) (by omega))) (fun i hi=>HLS.out (A+i) (by omega)) bM.1 (by omega) (by omega)
 rw[HM.out] at FM2
 have H1a:Hid (∀ W,Kept w6 W->W.cell? ⟨b,o+623,none⟩=some (.int .i64 (A:Int))/\W.cell? ⟨b,o+623+644,none⟩=some (.int .i64 (T:Int))):=fun W kW=>⟨(kW.cell (p:=⟨b,o+623,none⟩) hb6).trans y0,(kW.cell (p:=⟨b,o+623+644,none⟩) hb6).trans y4⟩
 have H1b:Hid (∀ (W:World) (cs:List Value),Kept w6 W->cs.length=306->(W.setCells b (o+317) cs).cell? ⟨b,o+623,none⟩=some (.int .i64 (A:Int))/\(W.setCells b (o+317) cs).cell? ⟨b,o+623+644,none⟩=some (.int .i64 (T:Int))):=fun W cs kW hc=>⟨(World.cell?_setCells_out b cs (o+317) W ⟨b,o+623,none⟩ (fun _ _=>Or.inr (by rw[hc];show o+317+306<=o+623;omega))).trans (H1a.out W kW).1,(World.cell?_setCells_out b cs (o+317) W ⟨b,o+623+644,none⟩ (fun _ _=>Or.inr (by rw[hc];show o+317+306<=o+623+644;omega))).trans (H1a.out W kW).2⟩
 replace S3:Hid (StStep b o n c s1 w w6):=S3
 have yy:w6.cell? ⟨b,o+623,none⟩=some (.int .i64 (A:Int))/\w6.cell? ⟨b,o+623+644,none⟩=some (.int .i64 (T:Int)):=⟨y0,y4⟩
 replace yy:Hid _:=yy
 clear y7 z S2 H0a H0b y01 FM1
 have a7:¬ (316=A):=by omega
 go_upto_region 5 with fail
 go_region_held3 (fun W=>W.cell? ⟨b,o+623,none⟩=some (.int .i64 (A:Int))/\W.cell? ⟨b,o+623+644,none⟩=some (.int .i64 (T:Int))) (first | exact yy.out | exact H1b.out _ _ hk7 hcl | exact H1a.out _ hk7 | exact H1a.out _ ((Kept.refl _).drewN 1) | go_keep) ((go_at_call 193;refine (FM2.out _ ((Kept.refl _).drewN 1)).mono ?_;rintro e w7 ⟨cs2,rfl,hcs,hcl,hk7'⟩;have hk7:Kept w6 w7:=((Kept.refl _).drewN 1).trans hk7';have hsc7:=((S3.out.kept hk7).dist hn (setP (fun i=>f (A+i)) (T - A)) cs2 hcs.out).1))
 have S4:StStep b o n c s2 w (w7.setCells b (o+317) cs2):=by
  have q:=((S3.out.kept hk7).dist hn (setP (fun i=>f (A+i)) (T - A)) cs2 hcs.out).2
  rw[<- HM.out,<- d2.out] at q
  exact q
 clear hsc7 hcl hk7' hk7 hcs
 generalize w7.setCells b (o+317) cs2=w8 at *
 replace S4:Hid (StStep b o n c s2 w w8):=S4
 have FU1:Hid (Calls Tryz.prog 194 #[.pointer (some ⟨b,o+11,none⟩)] w8 fun e w'=>e = .returned (.bool s2.lit.full)/\w'=w8):=by
  obtain ⟨d,k1,k2,k3,k4⟩:=S4.out
  exact full_x b (o+11) n d s2.lit w8 k1 k2.lit (by omega) o1.out
 have FL1:Hid (Calls Tryz.prog 195 #[.pointer (some ⟨b,o+11,none⟩)] w8 fun e w'=>e = .returned (.bool s2.lit.lone)/\w'=w8):=by
  obtain ⟨d,k1,k2,k3,k4⟩:=S4.out
  exact lone_x b (o+11) n d s2.lit w8 k1 k2.lit (by omega)
 have FU2:Hid (Calls Tryz.prog 194 #[.pointer (some ⟨b,o+317,none⟩)] w8 fun e w'=>e = .returned (.bool s2.dist.full)/\w'=w8):=by
  obtain ⟨d,k1,k2,k3,k4⟩:=S4.out
  exact full_x b (o+317) n d s2.dist w8 k1 k2.dist (by omega) o2.out
 have FL2:Hid (Calls Tryz.prog 195 #[.pointer (some ⟨b,o+317,none⟩)] w8 fun e w'=>e = .returned (.bool s2.dist.lone)/\w'=w8):=by
  obtain ⟨d,k1,k2,k3,k4⟩:=S4.out
  exact lone_x b (o+317) n d s2.dist w8 k1 k2.dist (by omega)
 have FE2:Hid (Calls Tryz.prog 196 #[.pointer (some ⟨b,o+317,none⟩)] w8 fun e w'=>e = .returned (.bool s2.dist.empty)/\w'=w8):=by
  obtain ⟨d,k1,k2,k3,k4⟩:=S4.out
  exact empty_x b (o+317) n d s2.dist w8 k1 k2.dist (by omega)
 have FN:Hid (Calls Tryz.prog 154 #[.pointer (some ⟨b,o,none⟩),.int .i64 ((12:Nat):Int),.int .u64 ((0:Nat):Int)] w8 fun e w'=>e = .returned (.tuple #[])/\StStep b o n c (s2.enter 12 0) w w'):=by
  obtain ⟨d,k1,k2,k3,k4⟩:=S4.out
  refine (senter_x b o n 12 0 d s2 w8 k1 k2 hn).mono ?_
  rintro e w' ⟨rfl,d',m1,m2,m3,m4⟩
  exact ⟨rfl,d',m1,m2,k3.trans m3,k4.trans m4⟩
 obtain ⟨-,-,-,-,-,-,y7,-⟩:=S4.out.tbc hn
 rw[e2.out,<- hf.out] at y7
 have y256:=y7 256 (by omega)
 clear y7 S3 yy H1a H1b FM2 y0 y4 a7
 generalize s2.lit.full=p1 at *
 generalize s2.lit.lone=p2 at *
 generalize s2.dist.full=p3 at *
 generalize s2.dist.lone=p4 at *
 generalize s2.dist.empty=p5 at *
 generalize hz:f 256=Z at *
 replace hz:Hid _:=hz
 cases p1 with
 | true=>
  go_wp2_with fail
  refine FU1.out.mono ?_
  rintro e w9 ⟨rfl,hw9⟩
  subst w9
  cases p3 with
  | true=>
   go_wp2_with fail
   refine FU2.out.mono ?_
   rintro e w9 ⟨rfl,hw9⟩
   subst w9
   by_cases hZ:Z=0
   ·have hZ':((Z:Int) == 0)=true:=by rw[beq_iff_eq];omega
    have HE2:Hid (SC=(s2,12)):=HE.out.trans (if_pos hZ)
    replace hZ:Hid _:=hZ
    go_wp2
    go_ret
    rw[HE2.out]
    exact ⟨rfl,S4.out⟩
   ·have hZ':((Z:Int) == 0)=false:=by rw[beq_eq_false_iff_ne];omega
    have HE2:Hid (SC=(s2.enter 12 0,0)):=HE.out.trans (if_neg hZ)
    replace hZ:Hid _:=hZ
    go_wp2_with fail
    refine FN.out.mono ?_
    rintro e w9 ⟨rfl,S9⟩
    go_wp2
    go_ret
    rw[HE2.out]
    exact ⟨rfl,S9⟩
  | false=>
   go_wp2_with fail
   refine FU2.out.mono ?_
   rintro e w9 ⟨rfl,hw9⟩
   subst w9
   cases p4 with
   | true=>
    go_wp2_with fail
    refine FL2.out.mono ?_
    rintro e w9 ⟨rfl,hw9⟩
    subst w9
    by_cases hZ:Z=0
    ·have hZ':((Z:Int) == 0)=true:=by rw[beq_iff_eq];omega
     have HE2:Hid (SC=(s2,12)):=HE.out.trans (if_pos hZ)
     replace hZ:Hid _:=hZ
     go_wp2
     go_ret
     rw[HE2.out]
     exact ⟨rfl,S4.out⟩
    ·have hZ':((Z:Int) == 0)=false:=by rw[beq_eq_false_iff_ne];omega
     have HE2:Hid (SC=(s2.enter 12 0,0)):=HE.out.trans (if_neg hZ)
     replace hZ:Hid _:=hZ
     go_wp2_with fail
     refine FN.out.mono ?_
     rintro e w9 ⟨rfl,S9⟩
     go_wp2
     go_ret
     rw[HE2.out]
     exact ⟨rfl,S9⟩
   | false=>
    go_wp2_with fail
    refine FL2.out.mono ?_
    rintro e w9 ⟨rfl,hw9⟩
    subst w9
    cases p5 with
    | true=>
     go_wp2_with fail
     refine FE2.out.mono ?_
     rintro e w9 ⟨rfl,hw9⟩
     subst w9
     by_cases hZ:Z=0
     ·have hZ':((Z:Int) == 0)=true:=by rw[beq_iff_eq];omega
      have HE2:Hid (SC=(s2,12)):=HE.out.trans (if_pos hZ)
      replace hZ:Hid _:=hZ
      go_wp2
      go_ret
      rw[HE2.out]
      exact ⟨rfl,S4.out⟩
     ·have hZ':((Z:Int) == 0)=false:=by rw[beq_eq_false_iff_ne];omega
      have HE2:Hid (SC=(s2.enter 12 0,0)):=HE.out.trans (if_neg hZ)
      replace hZ:Hid _:=hZ
      go_wp2_with fail
      refine FN.out.mono ?_
      rintro e w9 ⟨rfl,S9⟩
      go_wp2
      go_ret
      rw[HE2.out]
      exact ⟨rfl,S9⟩
    | false=>
     go_wp2_with fail
     refine FE2.out.mono ?_
     rintro e w9 ⟨rfl,hw9⟩
     subst w9
     have HE2:Hid (SC=(s2,12)):=HE.out
     go_wp2
     go_ret
     rw[HE2.out]
     exact ⟨rfl,S4.out⟩
 | false=>
  go_wp2_with fail
  refine FU1.out.mono ?_
  rintro e w9 ⟨rfl,hw9⟩
  subst w9
  cases p2 with
  | true=>
   go_wp2_with fail
   refine FL1.out.mono ?_
   rintro e w9 ⟨rfl,hw9⟩
   subst w9
   cases p3 with
   | true=>
    go_wp2_with fail
    refine FU2.out.mono ?_
    rintro e w9 ⟨rfl,hw9⟩
    subst w9
    by_cases hZ:Z=0
    ·have hZ':((Z:Int) == 0)=true:=by rw[beq_iff_eq];omega
     have HE2:Hid (SC=(s2,12)):=HE.out.trans (if_pos hZ)
     replace hZ:Hid _:=hZ
     go_wp2
     go_ret
     rw[HE2.out]
     exact ⟨rfl,S4.out⟩
    ·have hZ':((Z:Int) == 0)=false:=by rw[beq_eq_false_iff_ne];omega
     have HE2:Hid (SC=(s2.enter 12 0,0)):=HE.out.trans (if_neg hZ)
     replace hZ:Hid _:=hZ
     go_wp2_with fail
     refine FN.out.mono ?_
     rintro e w9 ⟨rfl,S9⟩
     go_wp2
     go_ret
     rw[HE2.out]
     exact ⟨rfl,S9⟩
   | false=>
    go_wp2_with fail
    refine FU2.out.mono ?_
    rintro e w9 ⟨rfl,hw9⟩
    subst w9
    cases p4 with
    | true=>
     go_wp2_with fail
     refine FL2.out.mono ?_
     rintro e w9 ⟨rfl,hw9⟩
     subst w9
     by_cases hZ:Z=0
     ·have hZ':((Z:Int) == 0)=true:=by rw[beq_iff_eq];omega
      have HE2:Hid (SC=(s2,12)):=HE.out.trans (if_pos hZ)
      replace hZ:Hid _:=hZ
      go_wp2
      go_ret
      rw[HE2.out]
      exact ⟨rfl,S4.out⟩
     ·have hZ':((Z:Int) == 0)=false:=by rw[beq_eq_false_iff_ne];omega
      have HE2:Hid (SC=(s2.enter 12 0,0)):=HE.out.trans (if_neg hZ)
      replace hZ:Hid _:=hZ
      go_wp2_with fail
      refine FN.out.mono ?_
      rintro e w9 ⟨rfl,S9⟩
      go_wp2
      go_ret
      rw[HE2.out]
      exact ⟨rfl,S9⟩
    | false=>
     go_wp2_with fail
     refine FL2.out.mono ?_
     rintro e w9 ⟨rfl,hw9⟩
     subst w9
     cases p5 with
     | true=>
      go_wp2_with fail
      refine FE2.out.mono ?_
      rintro e w9 ⟨rfl,hw9⟩
      subst w9
      by_cases hZ:Z=0
      ·have hZ':((Z:Int) == 0)=true:=by rw[beq_iff_eq];omega
       have HE2:Hid (SC=(s2,12)):=HE.out.trans (if_pos hZ)
       replace hZ:Hid _:=hZ
       go_wp2
       go_ret
       rw[HE2.out]
       exact ⟨rfl,S4.out⟩
      ·have hZ':((Z:Int) == 0)=false:=by rw[beq_eq_false_iff_ne];omega
       have HE2:Hid (SC=(s2.enter 12 0,0)):=HE.out.trans (if_neg hZ)
       replace hZ:Hid _:=hZ
       go_wp2_with fail
       refine FN.out.mono ?_
       rintro e w9 ⟨rfl,S9⟩
       go_wp2
       go_ret
       rw[HE2.out]
       exact ⟨rfl,S9⟩
     | false=>
      go_wp2_with fail
      refine FE2.out.mono ?_
      rintro e w9 ⟨rfl,hw9⟩
      subst w9
      have HE2:Hid (SC=(s2,12)):=HE.out
      go_wp2
      go_ret
      rw[HE2.out]
      exact ⟨rfl,S4.out⟩
  | false=>
   go_wp2_with fail
   refine FL1.out.mono ?_
   rintro e w9 ⟨rfl,hw9⟩
   subst w9
   have HE2:Hid (SC=(s2,12)):=HE.out
   go_wp2
   go_ret
   rw[HE2.out]
   exact ⟨rfl,S4.out⟩
structure TbOk (t:Tb):Prop where
 l1:257<=t.literals
 l2:t.literals<=286
 d1:1<=t.distances
 d2:t.distances<=30
 td:t.told<=t.literals+t.distances
 ls:∀ i,t.ls i<256
def St.lay1 (s:St) (x:Nat):St:={ s with tb:={ s.tb with ls:=upd s.tb.ls s.tb.told x,told:=s.tb.told+1 } }
def St.layN:Nat->Nat->St->St
 | 0,_,s=>s
 | k+1,x,s=>St.layN k x (s.lay1 x)
def St.lay (s:St) (x k:Nat):St × Nat:=
 if s.tb.literals+s.tb.distances<s.tb.told+k then (s,12)
 else if (St.layN k x s).tb.told<s.tb.literals+s.tb.distances then ((St.layN k x s).enter 11 0,0)
 else (St.layN k x s).makeCodes
theorem TbOk.lay1 {s:St} {x:Nat} (h:TbOk s.tb) (hx:x<256) (hr:s.tb.told+1<=s.tb.literals+s.tb.distances):TbOk (s.lay1 x).tb:=⟨h.l1,h.l2,h.d1,h.d2,hr,fun i=>by
 show upd s.tb.ls s.tb.told x i<256
 by_cases e:i=s.tb.told
 ·rw[e,upd_same];exact hx
 ·rw[upd_ne _ _ _ e];exact h.ls i⟩
theorem layLens_x (b o n x k:Nat) (c:Nat->Value) (s:St) (w:World) (hB:Blk w b n c) (hV:StV c o s) (hn:o+3351<=n) (hx:x<256) (hk:k<=1000) (ht:TbOk s.tb) :
  Calls Tryz.prog 171 #[.pointer (some ⟨b,o,none⟩),.int .u8 (x:Int),.int .i64 (k:Int)] w fun e w'=>e = .returned (.int .i64 ((s.lay x k).2:Int))/\StStep b o n c (s.lay x k).1 w w':=by
 have S0:StStep b o n c s w w:=StStep.refl hB hV
 obtain ⟨y0,y1,-,y4,-,-,-,z⟩:=S0.tbc hn
 have HE:Hid (s.lay x k=if s.tb.literals+s.tb.distances<s.tb.told+k then (s,12) else if (St.layN k x s).tb.told<s.tb.literals+s.tb.distances then ((St.layN k x s).enter 11 0,0) else (St.layN k x s).makeCodes):=rfl
 have S1:Hid (StStep b o n c s w w):=S0
 have HT:Hid (TbOk s.tb):=ht
 have HL:Hid (St.layN k x s=St.layN k x s):=rfl
 have b1:=ht.l1
 have b2:=ht.l2
 have b3:=ht.d1
 have b4:=ht.d2
 have b5:=ht.td
 obtain ⟨A,hA⟩:∃ A,A=s.tb.literals:=⟨_,rfl⟩
 obtain ⟨Q,hQ⟩:∃ Q,Q=s.tb.distances:=⟨_,rfl⟩
 obtain ⟨T,hT⟩:∃ T,T=s.tb.told:=⟨_,rfl⟩
 obtain ⟨SL,hSL⟩:∃ SL,SL=St.layN k x s:=⟨_,rfl⟩
 rw[<- hSL] at HE
 rw[<- hA,<- hQ,<- hT] at HE b5
 rw[<- hA] at b1 b2 y0
 rw[<- hQ] at b3 b4 y1
 rw[<- hT] at y4
 generalize s.lay x k=SC at *
 obtain ⟨AQ,hAQ⟩:∃ AQ,AQ=A+Q:=⟨_,rfl⟩
 have eAQ:(A:Int)+(Q:Int)=(AQ:Int):=by omega
 obtain ⟨Tk,hTk⟩:∃ Tk,Tk=T+k:=⟨_,rfl⟩
 have eTk:(T:Int)+(k:Int)=(Tk:Int):=by omega
 rw[<- hAQ,<- hTk] at HE
 rw[<- hAQ] at b5
 have bAQ:AQ<=316/\A<AQ/\AQ<=A+30:=by omega
 have bTk:Tk<=2000:=by omega
 replace hSL:Hid _:=hSL
 replace hA:Hid _:=hA
 replace hQ:Hid _:=hQ
 replace hT:Hid _:=hT
 replace hAQ:Hid _:=hAQ
 clear hB hV S0 HL ht
 go_enter Tryz.func171,Tryz.ntmps171
 go_wp2_with fail
 go_quiet (fail)
 have K1:Kept w (w.drewN nq):=(Kept.refl w).drewN nq
 have S2:=S1.out.kept K1
 have y41:=(K1.cell (p:=⟨b,o+623+644,none⟩) (World.block_lt_of_cell? _ _ y4)).trans y4
 generalize w.drewN nq=w1 at *
 replace S2:Hid (StStep b o n c s w w1):=S2
 clear y0 y1 y4 z K1 S1
 by_cases hov:AQ<Tk
 ·have hov':(AQ:Int)<(Tk:Int):=by omega
  have HE2:Hid (SC=(s,12)):=HE.out.trans (if_pos hov)
  replace hTk:Hid _:=hTk
  clear hov
  go_wp2
  go_ret
  rw[HE2.out]
  exact ⟨rfl,S2.out⟩
 have hov':¬ (AQ:Int)<(Tk:Int):=by omega
 have HE2:Hid (SC=if SL.tb.told<AQ then (SL.enter 11 0,0) else SL.makeCodes):=HE.out.trans (if_neg hov)
 have hfit:T+k<=AQ:=by omega
 replace hTk:Hid _:=hTk
 clear hov HE
 go_wp2_with fail
 go_loopg [9] k (fun m v W=>∃ (i:Nat) (s':St),m=k - i/\i<=k/\v = .int .i64 (i:Int)/\StStep b o n c s' w W/\TbOk s'.tb/\s'.tb.literals=A/\s'.tb.distances=Q/\s'.tb.told=T+i/\SL=St.layN (k - i) x s')
 case atStart=>exact ⟨0,s,by omega,by omega,rfl,S2.out,HT.out,hA.out.symm,hQ.out.symm,by rw[hT.out,Nat.add_zero],hSL.out⟩
 case round=>
  obtain ⟨i,s',hgk,hi,rfl,hst,htb,hl,hd,htd,hsl⟩:=hrel
  replace hgk:Hid _:=hgk
  clear y41 S2
  obtain ⟨-,-,-,y4,-,-,y7,z⟩:=hst.tbc hn
  rw[htd] at y4
  obtain ⟨J,hJ⟩:∃ J,J=T+i:=⟨_,rfl⟩
  rw[<- hJ] at y4 htd
  have S3:Hid (StStep b o n c s' w wr):=hst
  have HB:Hid (TbOk s'.tb):=htb
  have HLt:Hid (s'.tb.literals=A):=hl
  have HDt:Hid (s'.tb.distances=Q):=hd
  have HTd:Hid (s'.tb.told=J):=htd
  clear hst htb hl hd htd
  by_cases hlt:i<k
  ·have hlt':(i:Int)<(k:Int):=by omega
   have hJ1:(J:Int)<316:=by omega
   have hJ0:(0:Int)<=(J:Int):=by omega
   have hsl':SL=St.layN (k - (i+1)) x (s'.lay1 x):=by rw[hsl,show k - i=(k - (i+1))+1 by omega];rfl
   replace hsl':Hid _:=hsl'
   obtain ⟨J1,hJ1'⟩:∃ J1,J1=J+1:=⟨_,rfl⟩
   have eJ:(J:Int)+1=(J1:Int):=by omega
   have y8:=y7 J (by omega)
   have S4:Hid (StStep b o n c (s'.lay1 x) w ((wr.setCell ⟨b,o+623+328+J,none⟩ (.int .u8 (x:Int))).drew.setCell ⟨b,o+623+644,none⟩ (.int .i64 (J1:Int)))):=by
    have:=((S3.out.ls hn J x (by omega)).kept ((Kept.refl _).drewN 1)).told hn J1
    have e:s'.lay1 x={ s' with tb:={ s'.tb with ls:=upd s'.tb.ls J x,told:=J1 } }:=by unfold St.lay1;rw[HTd.out,<- hJ1']
    show StStep b o n c (s'.lay1 x) w _
    rw[e]
    exact this
   have T4:Hid (TbOk (s'.lay1 x).tb):=HB.out.lay1 hx (by rw[HTd.out,HLt.out,HDt.out];have:=hAQ.out;omega)
   have y4':(wr.setCell ⟨b,o+623+328+J,none⟩ (.int .u8 (x:Int))).drew.cell? ⟨b,o+623+644,none⟩=some (.int .i64 (J:Int)):=(cell_set_other _ _ _ _ _ (by omega)).trans y4
   have z1:∀ k,(wr.setCell ⟨b,o+623+328+J,none⟩ (.int .u8 (x:Int))).drew.frozen? ⟨b,k,none⟩=false:=fun k=>(World.frozen?_setCell _ _ _ _).trans (z k)
   have HTd2:Hid ((s'.lay1 x).tb.told=T+(i+1)):=by
    show s'.tb.told+1=_
    rw[HTd.out,hJ];omega
   replace hJ:Hid _:=hJ
   replace hJ1':Hid _:=hJ1'
   replace y7:Hid _:=y7
   go_wp2_with fail
   go_region_held3 (fun W=>W.cell? ⟨b,o+623+644,none⟩=some (.int .i64 (J:Int))) (first | exact y4 | exact (cell_set_other _ _ _ _ _ (by omega)).trans y4 | go_keep) (fail)
   generalize (wr.setCell ⟨b,o+623+328+J,none⟩ (.int .u8 (x:Int))).drew=w4 at *
   clear y4 y8 z
   go_wp2
   go_roundg (k - (i+1))
   case measure=>rw[hgk.out];omega
   case rel=>exact ⟨i+1,s'.lay1 x,rfl,by omega,by go_num,S4.out,T4.out,HLt.out,HDt.out,HTd2.out,hsl'.out⟩
  ·have hlt':¬ (i:Int)<(k:Int):=by omega
   have hik:i=k:=by omega
   rw[hik,Nat.sub_self] at hsl
   have hsl2:SL=s':=hsl
   clear hsl
   by_cases hfin:J<AQ
   ·have hfin':(J:Int)<(AQ:Int):=by omega
    have HE3:Hid (SC=(s'.enter 11 0,0)):=by
     show SC=_
     rw[HE2.out,hsl2,if_pos (by rw[HTd.out];exact hfin)]
    have FE:Hid (Calls Tryz.prog 154 #[.pointer (some ⟨b,o,none⟩),.int .i64 ((11:Nat):Int),.int .u64 ((0:Nat):Int)] wr fun e w'=>e = .returned (.tuple #[])/\StStep b o n c (s'.enter 11 0) w w'):=by
     obtain ⟨d,k1,k2,k3,k4⟩:=S3.out
     refine (senter_x b o n 11 0 d s' wr k1 k2 hn).mono ?_
     rintro e w' ⟨rfl,d',m1,m2,m3,m4⟩
     exact ⟨rfl,d',m1,m2,k3.trans m3,k4.trans m4⟩
    replace hJ:Hid _:=hJ
    replace hik:Hid _:=hik
    replace hsl2:Hid _:=hsl2
    replace y7:Hid _:=y7
    clear hfin
    go_wp2_with fail
    refine FE.out.mono ?_
    rintro e w4 ⟨rfl,S4⟩
    go_wp2
    go_ret
    rw[HE3.out]
    exact ⟨rfl,S4⟩
   ·have hfin':¬ (J:Int)<(AQ:Int):=by omega
    have HE3:Hid (SC=s'.makeCodes):=by
     show SC=_
     rw[HE2.out,hsl2,if_neg (by rw[HTd.out];exact hfin)]
    have FE:Hid (Calls Tryz.prog 188 #[.pointer (some ⟨b,o,none⟩)] wr fun e w'=>e = .returned (.int .i64 (s'.makeCodes.2:Int))/\StStep b o n c s'.makeCodes.1 w w'):=by
     obtain ⟨d,k1,k2,k3,k4⟩:=S3.out
     have q1:=HTd.out
     have q2:=HLt.out
     refine (makeCodes_x b o n d s' wr k1 k2 hn (by omega) (by omega) (by omega) (by omega) (fun i _=>HB.out.ls i)).mono ?_
     rintro e w' ⟨rfl,d',m1,m2,m3,m4⟩
     exact ⟨rfl,d',m1,m2,k3.trans m3,k4.trans m4⟩
    generalize s'.makeCodes=MC at *
    replace hJ:Hid _:=hJ
    replace hik:Hid _:=hik
    replace hsl2:Hid _:=hsl2
    replace y7:Hid _:=y7
    clear hfin
    go_wp2_with fail
    refine FE.out.mono ?_
    rintro e w4 ⟨rfl,S4⟩
    go_wp2
    go_ret
    rw[HE3.out]
    exact ⟨rfl,S4⟩
def St.setRep (s:St) (σ:Int):St:={ s with tb:={ s.tb with rep:=σ } }
def St.codeLen (s:St) (σ:Int):St × Nat:=
 if σ = -1 then (s.setRep σ,0) else if σ = -2 then (s.setRep σ,13)
 else if σ=16 then (if s.tb.told=0 then (s.setRep σ,12) else ((s.setRep σ).enter 6 2,0))
 else if σ=17 then ((s.setRep σ).enter 6 3,0) else if σ=18 then ((s.setRep σ).enter 6 7,0)
 else (s.setRep σ).lay σ.toNat 1
def St.repeat (s:St) (v:Nat):St × Nat:=
 if s.tb.rep=17 then s.lay 0 (v+3) else if s.tb.rep=18 then s.lay 0 (v+11)
 else if s.tb.told<1 then (s,12) else s.lay (s.tb.ls (s.tb.told - 1)) (v+3)
theorem StStep.enterTo {b o n p k:Nat} {c:Nat->Value} {s:St} {w W:World} (h:StStep b o n c s w W) (hn:o+3351<=n):Calls Tryz.prog 154 #[.pointer (some ⟨b,o,none⟩),.int .i64 (p:Int),.int .u64 (k:Int)] W fun e w'=>e = .returned (.tuple #[])/\StStep b o n c (s.enter p k) w w':=by
 obtain ⟨d,k1,k2,k3,k4⟩:=h
 refine (senter_x b o n p k d s W k1 k2 hn).mono ?_
 rintro e w' ⟨rfl,d',m1,m2,m3,m4⟩
 exact ⟨rfl,d',m1,m2,k3.trans m3,k4.trans m4⟩
theorem StStep.layTo {b o n x k:Nat} {c:Nat->Value} {s:St} {w W:World} (h:StStep b o n c s w W) (hn:o+3351<=n) (hx:x<256) (hk:k<=1000) (ht:TbOk s.tb):Calls Tryz.prog 171 #[.pointer (some ⟨b,o,none⟩),.int .u8 (x:Int),.int .i64 (k:Int)] W fun e w'=>e = .returned (.int .i64 ((s.lay x k).2:Int))/\StStep b o n c (s.lay x k).1 w w':=by
 obtain ⟨d,k1,k2,k3,k4⟩:=h
 refine (layLens_x b o n x k d s W k1 k2 hn hx hk ht).mono ?_
 rintro e w' ⟨rfl,d',m1,m2,m3,m4⟩
 exact ⟨rfl,d',m1,m2,k3.trans m3,k4.trans m4⟩
theorem codeLen_x (b o n:Nat) (σ:Int) (c:Nat->Value) (s:St) (w:World) (hB:Blk w b n c) (hV:StV c o s) (hn:o+3351<=n) (h1 : -2<=σ) (h2:σ<=18) (ht:TbOk s.tb) :
  Calls Tryz.prog 165 #[.pointer (some ⟨b,o,none⟩),.int .i64 σ] w fun e w'=>e = .returned (.int .i64 ((s.codeLen σ).2:Int))/\StStep b o n c (s.codeLen σ).1 w w':=by
 have S0:StStep b o n c s w w:=StStep.refl hB hV
 obtain ⟨-,-,-,-,y5,-,-,z⟩:=S0.tbc hn
 have S1:StStep b o n c (s.setRep σ) w (w.setCell ⟨b,o+623+645,none⟩ (.int .i64 σ)):=S0.rep hn σ
 obtain ⟨-,-,-,y4,-,-,-,-⟩:=S1.tbc hn
 have T1:(s.setRep σ).tb.told=s.tb.told:=rfl
 have T2:Hid (TbOk (s.setRep σ).tb):=⟨ht.l1,ht.l2,ht.d1,ht.d2,ht.td,ht.ls⟩
 rw[T1] at y4
 have HE:Hid (s.codeLen σ=if σ = -1 then (s.setRep σ,0) else if σ = -2 then (s.setRep σ,13) else if σ=16 then (if s.tb.told=0 then (s.setRep σ,12) else ((s.setRep σ).enter 6 2,0)) else if σ=17 then ((s.setRep σ).enter 6 3,0) else if σ=18 then ((s.setRep σ).enter 6 7,0) else (s.setRep σ).lay σ.toNat 1):=rfl
 replace S1:Hid (StStep b o n c (s.setRep σ) w (w.setCell ⟨b,o+623+645,none⟩ (.int .i64 σ))):=S1
 generalize s.setRep σ=s1 at *
 generalize s.codeLen σ=SC at *
 have bT:s.tb.told<=316:=by have:=ht.td;have:=ht.l2;have:=ht.d2;omega
 generalize s.tb.told=T at *
 clear hB hV S0 ht T1
 by_cases q1:σ = -1
 ·have HE2:Hid (SC=(s1,0)):=HE.out.trans (if_pos q1)
  subst q1
  go_enter Tryz.func165,Tryz.ntmps165
  go_wp2
  go_ret
  rw[HE2.out]
  exact ⟨rfl,S1.out⟩
 have q1':(σ == -1)=false:=by rw[beq_eq_false_iff_ne];exact q1
 by_cases q2:σ = -2
 ·have HE2:Hid (SC=(s1,13)):=HE.out.trans ((if_neg q1).trans (if_pos q2))
  subst q2
  go_enter Tryz.func165,Tryz.ntmps165
  go_wp2
  go_ret
  rw[HE2.out]
  exact ⟨rfl,S1.out⟩
 have q2':(σ == -2)=false:=by rw[beq_eq_false_iff_ne];exact q2
 by_cases q3:σ=16
 ·have HE2:Hid (SC=if T=0 then (s1,12) else (s1.enter 6 2,0)):=HE.out.trans ((if_neg q1).trans ((if_neg q2).trans (if_pos q3)))
  subst q3
  by_cases q4:T=0
  ·have HE3:Hid (SC=(s1,12)):=HE2.out.trans (if_pos q4)
   subst q4
   go_enter Tryz.func165,Tryz.ntmps165
   go_wp2
   go_ret
   rw[HE3.out]
   exact ⟨rfl,S1.out⟩
  ·have HE3:Hid (SC=(s1.enter 6 2,0)):=HE2.out.trans (if_neg q4)
   have q4':((T:Int) == 0)=false:=by rw[beq_eq_false_iff_ne];omega
   have FE:Hid (Calls Tryz.prog 154 #[.pointer (some ⟨b,o,none⟩),.int .i64 ((6:Nat):Int),.int .u64 ((2:Nat):Int)] _ fun e w'=>e = .returned (.tuple #[])/\StStep b o n c (s1.enter 6 2) w w'):=S1.out.enterTo hn
   clear q4
   go_enter Tryz.func165,Tryz.ntmps165
   go_wp2_with fail
   refine FE.out.mono ?_
   rintro e w4 ⟨rfl,S4⟩
   go_wp2
   go_ret
   rw[HE3.out]
   exact ⟨rfl,S4⟩
 have q3':(σ == 16)=false:=by rw[beq_eq_false_iff_ne];exact q3
 by_cases q5:σ=17
 ·have HE3:Hid (SC=(s1.enter 6 3,0)):=HE.out.trans ((if_neg q1).trans ((if_neg q2).trans ((if_neg q3).trans (if_pos q5))))
  subst q5
  have FE:Hid (Calls Tryz.prog 154 #[.pointer (some ⟨b,o,none⟩),.int .i64 ((6:Nat):Int),.int .u64 ((3:Nat):Int)] _ fun e w'=>e = .returned (.tuple #[])/\StStep b o n c (s1.enter 6 3) w w'):=S1.out.enterTo hn
  go_enter Tryz.func165,Tryz.ntmps165
  go_wp2_with fail
  refine FE.out.mono ?_
  rintro e w4 ⟨rfl,S4⟩
  go_wp2
  go_ret
  rw[HE3.out]
  exact ⟨rfl,S4⟩
 have q5':(σ == 17)=false:=by rw[beq_eq_false_iff_ne];exact q5
 by_cases q6:σ=18
 ·have HE3:Hid (SC=(s1.enter 6 7,0)):=HE.out.trans ((if_neg q1).trans ((if_neg q2).trans ((if_neg q3).trans ((if_neg q5).trans (if_pos q6)))))
  subst q6
  have FE:Hid (Calls Tryz.prog 154 #[.pointer (some ⟨b,o,none⟩),.int .i64 ((6:Nat):Int),.int .u64 ((7:Nat):Int)] _ fun e w'=>e = .returned (.tuple #[])/\StStep b o n c (s1.enter 6 7) w w'):=S1.out.enterTo hn
  go_enter Tryz.func165,Tryz.ntmps165
  go_wp2_with fail
  refine FE.out.mono ?_
  rintro e w4 ⟨rfl,S4⟩
  go_wp2
  go_ret
  rw[HE3.out]
  exact ⟨rfl,S4⟩
 have q6':(σ == 18)=false:=by rw[beq_eq_false_iff_ne];exact q6
 obtain ⟨x,hx⟩:∃ x:Nat,σ=(x:Int):=⟨σ.toNat,by omega⟩
 subst hx
 have hx2:x<256:=by omega
 have HE3:Hid (SC=s1.lay x 1):=HE.out.trans ((if_neg q1).trans ((if_neg q2).trans ((if_neg q3).trans ((if_neg q5).trans (if_neg q6)))))
 have FE:Hid (Calls Tryz.prog 171 #[.pointer (some ⟨b,o,none⟩),.int .u8 (x:Int),.int .i64 ((1:Nat):Int)] _ fun e w'=>e = .returned (.int .i64 ((s1.lay x 1).2:Int))/\StStep b o n c (s1.lay x 1).1 w w'):=S1.out.layTo hn hx2 (by omega) T2.out
 generalize s1.lay x 1=LL at *
 clear q1 q2 q3 q5 q6
 go_enter Tryz.func165,Tryz.ntmps165
 go_wp2_with fail
 refine FE.out.mono ?_
 rintro e w4 ⟨rfl,S4⟩
 go_wp2
 go_ret
 rw[HE3.out]
 exact ⟨rfl,S4⟩
theorem repeat_x (b o n v:Nat) (c:Nat->Value) (s:St) (w:World) (hB:Blk w b n c) (hV:StV c o s) (hn:o+3351<=n) (hv:v<256) (hr:s.tb.rep=16\/s.tb.rep=17\/s.tb.rep=18) (ht:TbOk s.tb) :
  Calls Tryz.prog 183 #[.pointer (some ⟨b,o,none⟩),.int .u32 (v:Int)] w fun e w'=>e = .returned (.int .i64 ((s.repeat v).2:Int))/\StStep b o n c (s.repeat v).1 w w':=by
 have S0:StStep b o n c s w w:=StStep.refl hB hV
 obtain ⟨-,-,-,y4,y5,-,y7,z⟩:=S0.tbc hn
 have HE:Hid (s.repeat v=if s.tb.rep=17 then s.lay 0 (v+3) else if s.tb.rep=18 then s.lay 0 (v+11) else if s.tb.told<1 then (s,12) else s.lay (s.tb.ls (s.tb.told - 1)) (v+3)):=rfl
 generalize s.repeat v=SC at *
 have S1:Hid (StStep b o n c s w w):=S0
 have HT:Hid (TbOk s.tb):=ht
 have bT:s.tb.told<=316:=by have:=ht.td;have:=ht.l2;have:=ht.d2;omega
 obtain ⟨V3,hV3⟩:∃ V,V=v+3:=⟨_,rfl⟩
 obtain ⟨V11,hV11⟩:∃ V,V=v+11:=⟨_,rfl⟩
 have e3:(v:Int)+3=(V3:Int):=by omega
 have e11:(v:Int)+11=(V11:Int):=by omega
 rw[<- hV3,<- hV11] at HE
 have b3:V3<=1000:=by omega
 have b11:V11<=1000:=by omega
 replace hV3:Hid _:=hV3
 replace hV11:Hid _:=hV11
 clear hB hV S0 ht
 by_cases q1:s.tb.rep=17
 ·have HE2:Hid (SC=s.lay 0 V3):=HE.out.trans (if_pos q1)
  rw[q1] at y5
  have FE:Hid (Calls Tryz.prog 171 #[.pointer (some ⟨b,o,none⟩),.int .u8 ((0:Nat):Int),.int .i64 (V3:Int)] w fun e w'=>e = .returned (.int .i64 ((s.lay 0 V3).2:Int))/\StStep b o n c (s.lay 0 V3).1 w w'):=S1.out.layTo hn (by omega) b3 HT.out
  generalize s.lay 0 V3=LL at *
  clear q1 hr y7
  go_enter Tryz.func183,Tryz.ntmps183
  go_wp2_with fail
  refine FE.out.mono ?_
  rintro e w4 ⟨rfl,S4⟩
  go_wp2
  go_ret
  rw[HE2.out]
  exact ⟨rfl,S4⟩
 by_cases q2:s.tb.rep=18
 ·have HE2:Hid (SC=s.lay 0 V11):=HE.out.trans ((if_neg q1).trans (if_pos q2))
  rw[q2] at y5
  have FE:Hid (Calls Tryz.prog 171 #[.pointer (some ⟨b,o,none⟩),.int .u8 ((0:Nat):Int),.int .i64 (V11:Int)] w fun e w'=>e = .returned (.int .i64 ((s.lay 0 V11).2:Int))/\StStep b o n c (s.lay 0 V11).1 w w'):=S1.out.layTo hn (by omega) b11 HT.out
  generalize s.lay 0 V11=LL at *
  clear q1 q2 hr y7
  go_enter Tryz.func183,Tryz.ntmps183
  go_wp2_with fail
  refine FE.out.mono ?_
  rintro e w4 ⟨rfl,S4⟩
  go_wp2
  go_ret
  rw[HE2.out]
  exact ⟨rfl,S4⟩
 have q3:s.tb.rep=16:=by rcases hr with q | q | q;exact q;exact absurd q q1;exact absurd q q2
 rw[q3] at y5
 by_cases q4:s.tb.told<1
 ·have HE2:Hid (SC=(s,12)):=HE.out.trans ((if_neg q1).trans ((if_neg q2).trans (if_pos q4)))
  have q4':(s.tb.told:Int)<1:=by omega
  generalize s.tb.told=T at *
  clear q1 q2 q3 hr y7 q4
  go_enter Tryz.func183,Tryz.ntmps183
  go_wp2
  go_ret
  rw[HE2.out]
  exact ⟨rfl,S1.out⟩
 ·have HE2:Hid (SC=s.lay (s.tb.ls (s.tb.told - 1)) V3):=HE.out.trans ((if_neg q1).trans ((if_neg q2).trans (if_neg q4)))
  have q4':¬ (s.tb.told:Int)<1:=by omega
  have q5':¬ (316:Int)<(s.tb.told:Int):=by omega
  have y8:=y7 (s.tb.told - 1) (by omega)
  have hx:=HT.out.ls (s.tb.told - 1)
  obtain ⟨X,hX⟩:∃ X,X=s.tb.ls (s.tb.told - 1):=⟨_,rfl⟩
  rw[<- hX] at y8 hx HE2
  obtain ⟨T1,hT1⟩:∃ T1,T1=s.tb.told - 1:=⟨_,rfl⟩
  rw[<- hT1] at y8
  have eT:(s.tb.told:Int) - 1=(T1:Int):=by omega
  have t0:(0:Int)<=(T1:Int):=by omega
  have t1:(T1:Int)<316:=by omega
  replace hX:Hid _:=hX
  replace hT1:Hid _:=hT1
  have FE:Hid (∀ W,Kept w W->Calls Tryz.prog 171 #[.pointer (some ⟨b,o,none⟩),.int .u8 (X:Int),.int .i64 (V3:Int)] W fun e w'=>e = .returned (.int .i64 ((s.lay X V3).2:Int))/\StStep b o n c (s.lay X V3).1 w w'):=fun W kW=>(S1.out.kept kW).layTo hn hx b3 HT.out
  generalize s.lay X V3=LL at *
  generalize s.tb.told=T at *
  clear q1 q2 q3 hr y7 q4
  go_enter Tryz.func183,Tryz.ntmps183
  go_wp2_with fail
  go_quiet (fail)
  have K1:Hid (Kept w (w.drewN nq)):=(Kept.refl w).drewN nq
  generalize w.drewN nq=w1 at *
  go_wp2_with fail
  refine (FE.out w1 K1.out).mono ?_
  rintro e w4 ⟨rfl,S4⟩
  go_wp2
  go_ret
  rw[HE2.out]
  exact ⟨rfl,S4⟩
def St.lastIs (s:St) (v:Nat):St:={ s with last:=decide (v % 2=1) }
def St.block (s:St) (v:Nat):St:=if v / 2=0 then s.block0 v else if v / 2=1 then s.block1 v else if v / 2=2 then (s.lastIs v).enter 4 14 else s.lastIs v
def blockE (v:Nat):Nat:=if v / 2=3 then 11 else 0
theorem takeBlock23_x (b o n v:Nat) (c:Nat->Value) (s:St) (w:World) (hB:Blk w b n c) (hV:StV c o s) (hn:o+3351<=n) (hv:v / 2=2\/v / 2=3) :
  Calls Tryz.prog 178 #[.pointer (some ⟨b,o,none⟩),.int .u32 (v:Int)] w fun e w'=>e = .returned (.int .i64 (blockE v:Int))/\StStep b o n c (if v / 2=2 then (s.lastIs v).enter 4 14 else s.lastIs v) w w':=by
 have k9:=hB.at (i:=o+9) (by omega) hV.last
 have z:=hB.fz
 have ea:=u32_and_1 v (by omega)
 obtain ⟨B1,hB1⟩:∃ B1,B1=v % 2:=⟨_,rfl⟩
 rw[<- hB1] at ea
 have HL:Hid (((B1:Int) == 1)=decide (v % 2=1)):=by show ((B1:Int) == 1)=decide (v % 2=1);rw[Bool.eq_iff_iff,beq_iff_eq,decide_eq_true_iff];omega
 have hE:s.lastIs v={ s with last:=decide (v % 2=1) }:=rfl
 have HB:Hid (Blk (w.setCell ⟨b,o+9,none⟩ (.bool (decide (v % 2=1)))) b n (upd c (o+9) (.bool (decide (v % 2=1))))):=hB.set (by omega) _
 have HV:Hid (StV (upd c (o+9) (.bool (decide (v % 2=1)))) o (s.lastIs v)):=hV.set_last _
 have HF:Hid (Fr1 b w (w.setCell ⟨b,o+9,none⟩ (.bool (decide (v % 2=1))))):=Fr1.set (Fr.refl _ _) _ _
 have HC:Hid (FrC b o (o+3351) c (upd c (o+9) (.bool (decide (v % 2=1))))):=FrC.upd _ (by omega) (by omega)
 generalize s.lastIs v=s1 at *
 generalize decide (v % 2=1)=LL at *
 generalize upd c (o+9) (.bool LL)=c1 at *
 by_cases q:v / 2=2
 ·have e2:(v:Int) / 2=2:=by omega
  have hE0:Hid (blockE v=0):=by show blockE v=0;unfold blockE;rw[if_neg (by omega)]
  rw[if_pos q]
  replace hB1:Hid _:=hB1
  clear hB hV hv hE q
  go_enter Tryz.func178,Tryz.ntmps178
  go_wp2_with fail
  rw[HL.out]
  generalize w.setCell ⟨b,o+9,none⟩ (.bool LL)=w1 at *
  refine (senter_x b o n 4 14 c1 s1 w1 HB.out HV.out hn).mono ?_
  rintro e w2 ⟨rfl,d,h1,h2,h3,h4⟩
  go_wp2_with fail
  go_ret
  rw[hE0.out]
  exact ⟨rfl,d,h1,h2,HC.out.trans h3,HF.out.trans h4⟩
 ·have e2:(v:Int) / 2=3:=by omega
  have hE0:Hid (blockE v=11):=by show blockE v=11;unfold blockE;rw[if_pos (by omega)]
  rw[if_neg q]
  replace hB1:Hid _:=hB1
  clear hB hV hv hE q
  go_enter Tryz.func178,Tryz.ntmps178
  go_wp2_with fail
  rw[HL.out]
  generalize w.setCell ⟨b,o+9,none⟩ (.bool LL)=w1 at *
  go_ret
  rw[hE0.out]
  exact ⟨rfl,c1,HB.out,HV.out,HC.out,HF.out⟩
theorem takeBlock_x (b o n v:Nat) (c:Nat->Value) (s:St) (w:World) (hB:Blk w b n c) (hV:StV c o s) (hn:o+3351<=n) (hv:v<8) :
  Calls Tryz.prog 178 #[.pointer (some ⟨b,o,none⟩),.int .u32 (v:Int)] w fun e w'=>e = .returned (.int .i64 (blockE v:Int))/\StStep b o n c (s.block v) w w':=by
 unfold St.block
 by_cases h0:v / 2=0
 ·rw[if_pos h0,show blockE v=0 from if_neg (by omega)]
  exact takeBlock0_x b o n v c s w hB hV hn (by omega)
 rw[if_neg h0]
 by_cases h1:v / 2=1
 ·rw[if_pos h1,show blockE v=0 from if_neg (by omega)]
  exact takeBlock1_x b o n v c s w hB hV hn (by omega)
 rw[if_neg h1]
 exact takeBlock23_x b o n v c s w hB hV hn (by omega)
def symT (s:St) (r:Rw) (σ:Int):St × Rw × Nat:=if σ = -1 then (s,r,0) else if σ<0\/286<=σ then (s,r,13) else if σ=256 then (s.endBlock,r,0) else if 257<=σ then (s.copy (σ.toNat - 257),r,0) else giveP (s.enter 12 0) r σ.toNat
theorem takeSymbol_x (b o n:Nat) (σ:Int) (c:Nat->Value) (s:St) (r:Rw) (w:World) (hB:Blk w b n c) (hS:StV c o s) (hR:RwV c (o+3351) r) (hn:o+4900<=n) (hk:RwGood r) (hG:GrdAt w) (hb:b≠0) (hT:TabsAt w) (hs:s.sum<4294967296) (hσ1 : -2<=σ) (hσ2:σ<=1000) :
  Calls Tryz.prog 166 #[.pointer (some ⟨b,o,none⟩),.int .i64 σ,.pointer (some ⟨b,o+3351,none⟩)] w fun e w'=>e = .returned (.int .i64 ((symT s r σ).2.2:Int))/\SRStep b o n c (symT s r σ).1 (symT s r σ).2.1 w w':=by
 by_cases h1:σ = -1
 ·subst h1
  have H0:Hid (SRStep b o n c s r w w):=SRStep.refl hB hS hR
  have HE:Hid (symT s r (-1)=(s,r,0)):=by show symT s r (-1)=_;unfold symT;rw[if_pos rfl]
  clear hB hS hR hk hG hT
  go_enter Tryz.func166,Tryz.ntmps166
  go_wp2
  go_ret
  rw[HE.out]
  exact ⟨rfl,H0.out⟩
 ·have h1':(σ == -1)=false:=by rw[beq_eq_false_iff_ne];exact h1
  by_cases hbad:σ<0\/286<=σ
  ·have H0:Hid (SRStep b o n c s r w w):=SRStep.refl hB hS hR
   have HE:Hid (symT s r σ=(s,r,13)):=by show symT s r σ=_;unfold symT;rw[if_neg h1,if_pos hbad]
   clear hB hS hR hk hG hT
   by_cases h3:σ<0
   ·clear hbad
    go_enter Tryz.func166,Tryz.ntmps166
    go_wp2
    go_ret
    rw[HE.out]
    exact ⟨rfl,H0.out⟩
   ·have h4:(286:Int)<=σ:=by omega
    clear hbad
    go_enter Tryz.func166,Tryz.ntmps166
    go_wp2
    go_ret
    rw[HE.out]
    exact ⟨rfl,H0.out⟩
  have g0:¬ σ<0:=by omega
  have g1:¬ (286:Int)<=σ:=by omega
  by_cases h6:σ=256
  ·subst h6
   have FE:Hid (Calls Tryz.prog 172 #[.pointer (some ⟨b,o,none⟩)] w fun e w'=>e = .returned (.int .i64 0)/\StStep b o n c s.endBlock w w'):=endBlock_x b o n c s w hB hS (by omega)
   have HR:Hid (RwV c (o+3351) r):=hR
   have HE:Hid (symT s r 256=(s.endBlock,r,0)):=by show symT s r 256=_;unfold symT;rw[if_neg (by decide),if_neg (by decide),if_pos rfl]
   clear hB hS hR hk hG hT
   go_enter Tryz.func166,Tryz.ntmps166
   go_wp2_with fail
   refine FE.out.mono ?_
   rintro e w1 ⟨rfl,k1⟩
   go_wp2_with fail
   go_ret
   rw[HE.out]
   exact ⟨rfl,SRStep.of_st HR.out k1⟩
  ·have h6':(σ == 256)=false:=by rw[beq_eq_false_iff_ne];exact h6
   by_cases h7:(257:Int)<=σ
   ·obtain ⟨j,hj⟩:∃ j:Nat,σ=((257+j:Nat):Int):=⟨σ.toNat - 257,by omega⟩
    have FC:Hid _:=beginCopy_x b o n j σ c s w hB hS (by omega) hT hj (by omega)
    have HR:Hid (RwV c (o+3351) r):=hR
    have HE:Hid (symT s r σ=(s.copy j,r,0)):=by show symT s r σ=_;unfold symT;rw[if_neg h1,if_neg hbad,if_neg h6,if_pos h7,show σ.toNat - 257=j by omega]
    generalize s.copy j=SC at *
    clear hB hS hR hk hG hT hbad hj
    go_enter Tryz.func166,Tryz.ntmps166
    go_wp2_with fail
    refine Calls.mono FC.out ?_
    rintro e w1 ⟨rfl,k1⟩
    go_wp2_with fail
    go_ret
    rw[HE.out]
    exact ⟨rfl,SRStep.of_st HR.out k1⟩
   have g2:¬ (257:Int)<=σ:=h7
   obtain ⟨x,hx⟩:∃ x:Nat,σ=(x:Int):=⟨σ.toNat,by omega⟩
   subst hx
   have hx2:x<256:=by omega
   have F1:Hid (Calls Tryz.prog 154 #[.pointer (some ⟨b,o,none⟩),.int .i64 ((12:Nat):Int),.int .u64 ((0:Nat):Int)] w fun e w'=>e = .returned (.tuple #[])/\StStep b o n c (s.enter 12 0) w w'):=senter_x b o n 12 0 c s w hB hS (by omega)
   have HR:Hid (RwV c (o+3351) r):=hR
   have F2:Hid (∀ (W:World) (d:Nat->Value),Blk W b n d->StV d o (s.enter 12 0)->RwV d (o+3351) r->Fr1 b w W->Calls Tryz.prog 174 #[.pointer (some ⟨b,o,none⟩),.int .u8 (x:Int),.pointer (some ⟨b,o+3351,none⟩)] W fun e w'=>e = .returned (.int .i64 ((giveP (s.enter 12 0) r x).2.2:Int))/\SRStep b o n d (giveP (s.enter 12 0) r x).1 (giveP (s.enter 12 0) r x).2.1 W w'):=fun W d a1 a2 a3 a4=>give_x b o n x d (s.enter 12 0) r W a1 a2 a3 hn hk (hG.fr a4 (fun q=>hb q.symm)) hb hx2 hs
   obtain ⟨GP,hGP⟩:∃ G,G=giveP (s.enter 12 0) r x:=⟨_,rfl⟩
   rw[<- hGP] at F2
   have HGP:Hid (symT s r (x:Int)=GP):=by
    show symT s r (x:Int)=GP
    unfold symT
    rw[if_neg h1,if_neg hbad,if_neg h6,if_neg h7,Int.toNat_natCast,hGP]
   clear hB hS hR hk hG hT hGP hbad h7
   go_enter Tryz.func166,Tryz.ntmps166
   go_wp2_with fail
   refine F1.out.mono ?_
   rintro e w1 ⟨rfl,d,k1,k2,k3,k4⟩
   have R1:RwV d (o+3351) r:=HR.out.congr (fun i h1 h2=>k3.out i (by omega))
   have C1:Hid (FrC b o (o+4900) c d):=k3.mono (by omega) (by omega)
   have F3:=F2.out w1 d k1 k2 R1 k4
   replace F3:Hid _:=F3
   have F4:Hid (Fr1 b w w1):=k4
   clear k1 k2 k3 k4 R1 F2
   go_wp2_with fail
   refine Calls.mono F3.out ?_
   rintro e w2 ⟨rfl,k5⟩
   go_wp2_with fail
   go_ret
   rw[HGP.out]
   exact ⟨rfl,SRStep.next C1.out F4.out k5⟩
