import Derived.Test.YthniahejjamhgaaGreatDoorRoF1
set_option maxRecDepth 100000
set_option maxHeartbeats 6400000
namespace Go.Proofs.YthniahejjamhgaaGreatDoor
open Go.RowKit
set_option linter.unusedSimpArgs false
set_option linter.unusedVariables false
theorem pick_any (c:Int) (n:Nat) (w:World) (h1 : -9223372036854775808<=c) (h2:c<9223372036854775808) (hn:1<=n) (hn2:n<=1099511627776) :
  Calls Tryz.prog 7 #[.int .i64 c,.int .i64 (n:Int)] w fun r w'=>(∃ k:Nat,k<n/\r = .returned (.int .i64 (k:Int)))/\w'=w:=by
 by_cases hc:c<0
 ·go_enter Tryz.func7,Tryz.ntmps7
  go_wp2;go_ret;have e : -(c+1).tmod (n:Int)=(-(c+1)) % (n:Int):=by rw[<- Int.neg_tmod,Int.tmod_eq_emod_of_nonneg (by omega)]
  have p0:=Int.emod_nonneg (-(c+1)) (show (n:Int)≠0 by omega);have p1:=Int.emod_lt_of_pos (-(c+1)) (show (0:Int)<(n:Int) by omega);exact ⟨⟨((-(c+1)) % (n:Int)).toNat,by omega,ret_int (by rw[e];omega)⟩,rfl⟩
 ·go_enter Tryz.func7,Tryz.ntmps7
  go_wp2;go_ret;have p0:=Int.emod_nonneg c (show (n:Int)≠0 by omega);have p1:=Int.emod_lt_of_pos c (show (0:Int)<(n:Int) by omega);exact ⟨⟨(c % (n:Int)).toNat,by omega,ret_int (by omega)⟩,rfl⟩
theorem channels_any (K:Nat) (w:World) (h:K=0\/K=2\/K=3\/K=4\/K=6) :
  Calls Tryz.prog 13 #[.int .i64 (K:Int)] w fun r w'=>r = .returned (.int .i64 (chan K:Int))/\w'=w:=by
 rcases h with rfl | rfl | rfl | rfl | rfl
 all_goals
  go_enter Tryz.func13,Tryz.ntmps13;go_wp2;go_ret;exact ⟨rfl,rfl⟩
theorem at_any (s:ByteArray) (k:Nat) (w:World) (hs:s.size<=65536) (hk:k<=1048576) :
  Calls Tryz.prog 20 #[.string s,.int .i64 (k:Int)] w fun r w'=>(∃ v:Nat,v<256/\r = .returned (.int .i64 (v:Int)))/\Kept w w':=by
 by_cases h0:s.size=0
 ·have h0':((s.size:Int) == 0)=true:=by rw[h0];rfl
  have h0'':(s.size:Int)=0:=by omega
  go_enter Tryz.func20,Tryz.ntmps20;go_wp2;go_ret;exact ⟨⟨0,by omega,rfl⟩,Kept.refl _⟩
 ·have h0':((s.size:Int) == 0)=false:=by rw[beq_eq_false_iff_ne];omega
  have hm:k % s.size<s.size:=Nat.mod_lt _ (by omega);have e:(k:Int).tmod (s.size:Int)=((k % s.size:Nat):Int):=by rw[Int.tmod_eq_emod_of_nonneg (by omega)];exact Int.natCast_emod k s.size
  have e2:(k:Int) % (s.size:Int)=((k % s.size:Nat):Int):=(Int.natCast_emod k s.size).symm;have i1:((k % s.size:Nat):Int)<(s.size:Int):=by omega
  have n1:¬ ((s.size:Int)=0):=by omega
  generalize k % s.size=M at *;have i0:(0:Int)<=(M:Int):=by omega
  go_enter Tryz.func20,Tryz.ntmps20;go_wp2;go_ret;have hb:s[M].toNat<256:=UInt8.toNat_lt _;refine ⟨⟨s[M].toNat,hb,ret_int ?_⟩,Kept.refl _⟩;unfold wrap64;omega
theorem far_any (s t u v:ByteArray) (w:World) (hs:s.size<9223372036854775808) (ht:t.size<9223372036854775808) (hu:u.size<9223372036854775808) (hv:v.size<9223372036854775808) :
  Calls Tryz.prog 5 #[.string s,.string t,.string u,.string v] w fun r w'=>r = .returned (.bool (decide (65536<s.size\/65536<t.size\/65536<u.size\/65536<v.size)))/\w'=w:=by
 by_cases h1:65536<s.size
 ·have h1':(65536:Int)<(s.size:Int):=by omega
  go_enter Tryz.func5,Tryz.ntmps5;go_wp2;go_ret;exact ⟨ret_bool (by simp [h1]),rfl⟩
 ·have h1':¬ (65536:Int)<(s.size:Int):=by omega
  by_cases h2:65536<t.size
  ·have h2':(65536:Int)<(t.size:Int):=by omega
   go_enter Tryz.func5,Tryz.ntmps5;go_wp2;go_ret;exact ⟨ret_bool (by simp [h2]),rfl⟩
  ·have h2':¬ (65536:Int)<(t.size:Int):=by omega
   by_cases h3:65536<u.size
   ·have h3':(65536:Int)<(u.size:Int):=by omega
    go_enter Tryz.func5,Tryz.ntmps5;go_wp2;go_ret;exact ⟨ret_bool (by simp [h3]),rfl⟩
   ·have h3':¬ (65536:Int)<(u.size:Int):=by omega
    by_cases h4:65536<v.size
    ·have h4':(65536:Int)<(v.size:Int):=by omega
     go_enter Tryz.func5,Tryz.ntmps5;go_wp2;go_ret;exact ⟨ret_bool (by simp [h4]),rfl⟩
    ·have h4':¬ (65536:Int)<(v.size:Int):=by omega
     go_enter Tryz.func5,Tryz.ntmps5;go_wp2;go_ret;exact ⟨ret_bool (by simp [h1,h2,h3,h4]),rfl⟩
theorem infoI:(Tryz.prog.info? 3).map (fun i=>(i.zero,i.size,i.bytes))=some (some (.int .i64 0),1,8):=by kernel_rfl
def OwnI (w:World) (N:Nat) (v:Value) (l:List Int):Prop:=w.ownsRow N 3 1 v l.length (l.map (Value.int .i64))
theorem OwnI.slice {w:World} {N:Nat} {v:Value} {l:List Int} (h:OwnI w N v l):∃ p c,v = .slice p l.length c:=own_slice h
theorem OwnI.kept {w W:World} {N:Nat} {v:Value} {l:List Int} (h:OwnI w N v l) (k:Kept w W):OwnI W N v l:=own_kept h k
theorem OwnI.alloc {w:World} {N:Nat} {v:Value} {l:List Int} (h:OwnI w N v l) (o:Obj):OwnI (w.alloc o) N v l:=h.kept (Below.alloc (Below.refl _ _) (Nat.le_refl _) o)
theorem OwnI.drewN {w:World} {N:Nat} {v:Value} {l:List Int} (h:OwnI w N v l) (k:Nat):OwnI (w.drewN k) N v l:=h.kept ((Kept.refl _).drewN k)
theorem OwnI.set {w:World} {N:Nat} {v:Value} {l:List Int} (h:OwnI w N v l) {b:Nat} (hb:b<N) (k:Nat) (u:Value):OwnI (w.setCell ⟨b,k,none⟩ u) N v l:=ownsRow_setCell_below h hb _
theorem OwnI.ge {w:World} {N:Nat} {v:Value} {l:List Int} (h:OwnI w N v l):∀ k,v.ownBlock=some k->N<=k:=fun k hk=>(World.ownsRow.lt h k hk).1
theorem OwnI.nil (w:World) (N:Nat):OwnI w N (.slice none 0 0) []:=World.ownsRow_nil _ _ _ _
theorem OwnI.lat {w:World} {N:Nat} {v:Value} {l:List Int} (h:OwnI w N v l):LAt w .i64 v l:=own_lat h
theorem appendI (w:World) {ops:Array Oper} {rest:List Oper} {o:Oper} {a:Act} {Q:Exit->Act->World->Prop}
  (hg:o.guard=none) (s x:Operand) (hop:o.op=Op.call { callee:=Callee.builtin Builtin.append,args:=#[s,x],argTypes:=#[27,27] })
  (N:Nat) (v:Value) (l:List Int) (hs:a.eval s=v) (hown:OwnI w N v l)
  (g c:Nat) (e:Int) (hx:a.eval x = .slice (some ⟨g,0,none⟩) 1 c) (hc:w.cell? ⟨g,0,none⟩=some (.int .i64 e)) (hb:l.length+1<=1048576) (hbase:N<=w.heap.size)
  (hK:∀ v' w',OwnI w' N v' (l++[e])->Fr (fun k=>v.ownBlock=some k) w w'->(∀ k,v'.ownBlock=some k->v.ownBlock=some k\/w.heap.size<=k)->wpList Tryz.prog ops Q rest (a.put o.dst v') w') :
  wpList Tryz.prog ops Q (o::rest) a w:=by
 refine append_own w 27 27 3 1 8 (.int .i64 0) Tryz.underlying27 infoI rfl (by omega) hg s x hop N v l.length (l.map (Value.int .i64)) hs hown ⟨g,0,none⟩ 1 c [.int .i64 e] hx rfl (by omega) ?_ ?_ (by unfold maxLen;omega) (by omega) hbase ?_ rfl
 ·intro j u hj
  match j,hj with
  | 0,hj=>simp at hj;subst hj;exact hc
  | j+1,hj=>simp at hj
 ·intro u hu;simp at hu;subst hu;rfl
 ·intro v' w' h1 h2 h3
  refine hK v' w' ?_ ⟨h2.os,h2.tape,h2.output,h2.size,fun k hk hn=>h2.block k hk (fun e=>hn e.symm)⟩ h3;show w'.ownsRow N 3 1 v' (l++[e]).length ((l++[e]).map (Value.int .i64))
  rw[List.length_append,List.map_append];exact h1
