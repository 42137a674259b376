import Derived.Test.YtjjggefmmeminacGreatJQy
import Derived.Test.YtjjggefmmeminacGreatJBase
namespace Go.Proofs.YtjjggefmmeminacGreat
open Go.RowKit Go.Sort Go.PlainAid
def calledS (s f:ByteArray):ByteArray:=if emp s then f else s
set_option maxRecDepth 100000 in
set_option maxHeartbeats 400000 in
theorem qcalled_any (s f:ByteArray) (A:Option Addr) (n C:Nat) (w:World) :
  Calls Tryz.prog 67 #[.agg #[.string s,.string f,.slice A n C]] w fun e w'=>e = .returned (.string (calledS s f))∧Below w.heap.size w w':=by
 have hee:=emp_eq s
 cases he:emp s with
 | true =>
  rw [he] at hee
  have HF:Hid (calledS s f=f):=by unfold calledS; rw [he]; rfl
  clear he
  go_enter Tryz.func67,Tryz.ntmps67
  go_wp2_with fail
  go_ret
  exact ⟨by rw [HF.out]; rfl,below1 _ _⟩
 | false =>
  rw [he] at hee
  have HF:Hid (calledS s f=s):=by unfold calledS; rw [he]; rfl
  clear he
  go_enter Tryz.func67,Tryz.ntmps67
  go_wp2_with fail
  go_ret
  exact ⟨by rw [HF.out]; rfl,below1 _ _⟩
theorem Tryz.e122:∀ args w,(callFunc 122 args).run Tryz.prog w = .ok (.enter 122 args) w:=enters_of Tryz.func122 (by kernel_rfl) rfl
set_option maxRecDepth 100000 in
set_option maxHeartbeats 400000 in
theorem isCalled1_any (bn:Nat) (s f name:ByteArray) (A:Option Addr) (n C:Nat) (w:World) (hm:w.cell? ⟨bn,0,none⟩=some (.string name)) :
  Calls Tryz.prog 122 #[.agg #[.string s,.string f,.slice A n C],.pointer (some ⟨bn,0,none⟩)] w fun e w'=>e = .returned (.bool (eqs (calledS s f) name))∧Below w.heap.size w w':=by
 generalize hW:w.alloc (Obj.cells #[.string s,.string f,.slice A n C] 76)=W
 have hBW:Below w.heap.size w W:=by rw [← hW]; exact below1 _ _
 have c0:W.cell? ⟨w.heap.size,0,none⟩=some (.string s):=by rw [← hW,World.cell?_alloc_at _ _ _ _ rfl]; rfl
 have c1:W.cell? ⟨w.heap.size,1,none⟩=some (.string f):=by rw [← hW,World.cell?_alloc_at _ _ _ _ rfl]; rfl
 have c2:W.cell? ⟨w.heap.size,2,none⟩=some (.slice A n C):=by rw [← hW,World.cell?_alloc_at _ _ _ _ rfl]; rfl
 have hm:=keptCell hBW hm
 have d0:=cell_regrown c0
 have d1:=cell_regrown c1
 have d2:=cell_regrown c2
 have d3:=cell_regrown hm
 have cN:∀ d os,Calls Tryz.prog 67 #[.agg #[.string s,.string f,.slice A n C]] (grow (redrawn W d) os) fun e w''=>e = .returned (.string (calledS s f))∧∃ p:Regrown,w''=grow (redrawn W p.d) p.os:=fun d os=>Calls.regrown_of (qcalled_any _ _ _ _ _ _)
 have HBW:=hidI hBW
 clear hBW c0 c1 c2 hm
 go_enter Tryz.func122,Tryz.ntmps122
 go_wp2_with fail
 clear hW
 refine wp_region_quiet_below (by kernel_rfl) (by kernel_rfl) ?_
 repeat (go_big_quiet_step (first | exact cN _ _))
 refine wpQuiet_nil ?_
 intro _ hw'
 obtain ⟨⟨dq,osq⟩,hw''⟩:=hw'
 subst hw''
 have hB:=below_regrown W dq osq
 have HB:Hid (Below w.heap.size w (grow (redrawn W dq) osq)):=HBW.out.trans (hB.mono HBW.out.size)
 clear hB
 go_wp2_with fail
 go_ret
 exact ⟨by rw [← eqs_eq]; rfl,HB.out⟩
def calledIdx {d:Nat} (L:List (Pick (d + 1))) (name:ByteArray):Int:=idx L.length (fun i=>eqs (called (pickN L i)) name)
theorem calledS_eq {d:Nat} (p:Pick (d + 1)):calledS (nick p) (pfield p)=called p:=rfl
set_option maxRecDepth 100000 in
set_option maxHeartbeats 400000 in
theorem calledIdx_any (d bn:Nat) (a:Option Addr) (cap:Nat) (L:List (Pick (d + 1))) (name:ByteArray) (w:World) (hP:PicksAt w (d + 1) a L) (hm:w.cell? ⟨bn,0,none⟩=some (.string name)) :
  Calls Tryz.prog 141 #[.slice a L.length cap,.func (.func 122) #[] #[.pointer (some ⟨bn,0,none⟩)]] w fun e w'=>e = .returned (.int .i64 (calledIdx L name))∧Below w.heap.size w w':=by
 have hn:L.length≤9223372036854775807:=hP.max
 have HP:=hidI hP
 have eK:=Tryz.e122
 clear hP
 go_enter Tryz.func141,Tryz.ntmps141
 go_wp2_with fail
 go_loopw [8] (fun i wr => ∃ k:Nat,k≤L.length∧i = .int .i64 k∧Hid (∀ j,j < k→eqs (called (pickN L j)) name=false)∧Below w.heap.size w wr) (fun i _=>L.length - (intOf i).toNat)
 case atStart=>exact ⟨0,Nat.zero_le _,rfl,(fun j hj=>absurd hj (Nat.not_lt_zero _)),Below.refl _ _⟩
 case round =>
  obtain ⟨k,hk,rfl,hb,hw⟩:=hrel
  by_cases hlt:k < L.length
  ·obtain ⟨b,o,A,C,ha,k0,k1,k2,-⟩:=(HP.out.kept hw).2 k hlt
   subst ha
   have hlt':(k:Int) < (L.length:Int):=by omega
   have hk0:(0:Int)≤(k:Int):=by omega
   have hcl:=isCalled1_any bn (nick (pickN L k)) (pfield (pickN L k)) name A (subs (pickN L k)).length C wr (keptCell hw hm)
   rw [calledS_eq] at hcl
   go_wp2_with fail
   refine hcl.mono ?_
   clear hcl
   rintro e w1 ⟨rfl,hw1⟩
   have hw2:Below w.heap.size w w1:=hw.trans (hw1.mono hw.size)
   clear hw1 k0 k1 k2
   cases hpk:eqs (called (pickN L k)) name with
   | true =>
    have hfin:Hid (calledIdx L name=(k:Int)):=idx_hit hlt hpk hb
    clear hpk
    go_wp2_with fail
    go_ret
    exact ⟨by rw [hfin.out]; rfl,hw2⟩
   | false =>
    have hb2:Hid (∀ j,j < k + 1→eqs (called (pickN L j)) name=false):=fun j hj=>by
     rcases Nat.lt_succ_iff_lt_or_eq.1 hj with h | h
     ·exact hb j h
     ·rw [h]; exact hpk
    clear hpk
    go_wp2_with fail
    go_roundw
    case rel=>exact ⟨k + 1,by omega,by go_num,hb2,hw2⟩
    case measure=>simp [intOf]; omega
  ·have hfin:Hid (calledIdx L name = -1):=idx_none (fun j hj=>hb j (by omega))
   go_wp2_with fail
   go_ret
   exact ⟨by rw [hfin.out]; rfl,hw⟩
theorem calledIdx_any_iff {d:Nat} (L:List (Pick (d + 1))) (name:ByteArray):decide (0≤calledIdx L name)=(L.map called).any (fun q=>eqs q name):=by
 rcases idx_cases L.length (fun i=>eqs (called (pickN L i)) name) with ⟨h1,h2⟩ | ⟨k,hk,h1,h2,-⟩
 ·have e : ¬ 0≤calledIdx L name:=by unfold calledIdx; rw [h1]; decide
  rw [decide_eq_false e]
  symm
  rw [List.any_eq_false]
  intro q hq
  obtain ⟨p,hp,rfl⟩:=List.mem_map.1 hq
  obtain ⟨i,hi,rfl⟩:=List.mem_iff_getElem.1 hp
  rw [← pickN_get hi,h2 i hi]; decide
 ·have e:0≤calledIdx L name:=by unfold calledIdx; rw [h1]; omega
  rw [decide_eq_true e]
  symm
  rw [List.any_eq_true]
  exact ⟨called (pickN L k),List.mem_map.2 ⟨_,by rw [pickN_get hk]; exact List.getElem_mem hk,rfl⟩,h2⟩
set_option maxRecDepth 100000 in
set_option maxHeartbeats 400000 in
theorem isCalled_any (d:Nat) (a:Option Addr) (cap:Nat) (L:List (Pick (d + 1))) (name:ByteArray) (w:World) (hP:PicksAt w (d + 1) a L) :
  Calls Tryz.prog 92 #[.slice a L.length cap,.string name] w fun e w'=>e = .returned (.bool ((L.map called).any (fun q=>eqs q name)))∧Below w.heap.size w w':=by
 have hmf:∀ (fn:Fn) (first cap:Array Value) (w:World),(Instr.makeFunc fn first cap).run Tryz.prog w = .ok (.func fn first cap) w:=fun _ _ _ _=>rfl
 have HE:=hidI (calledIdx_any_iff L name)
 have hB:=below1 w (Obj.cells #[Value.string name] 9)
 have hcl:=calledIdx_any d w.heap.size a cap L name _ (hP.kept hB) (by rw [World.cell?_alloc_at _ _ _ _ rfl]; rfl)
 have HB:=hidI hB
 clear hB hP
 go_enter Tryz.func92,Tryz.ntmps92
 go_wp2_with (go_at_call 121; go_in)
 refine hcl.mono ?_
 clear hcl
 rintro e w1 ⟨rfl,hw1⟩
 have HB1:Hid (Below w.heap.size w w1):=HB.out.trans (hw1.mono HB.out.size)
 clear hw1
 go_wp2_with fail
 go_ret
 exact ⟨by rw [← HE.out]; rfl,HB1.out⟩
theorem Tryz.e65':∀ args w,(callFunc 65 args).run Tryz.prog w = .ok (.enter 65 args) w:=enters_of Tryz.func65 (by kernel_rfl) rfl
set_option maxRecDepth 100000 in
set_option maxHeartbeats 400000 in
theorem partIdx1_any (bn n1 c1 n2 c2 n3 c3:Nat) (a1 a2 a3:Option Addr) (name s:ByteArray) (w:World) (hm:w.cell? ⟨bn,0,none⟩=some (.string name)) :
  Calls Tryz.prog 65 #[.agg #[.string s,.slice a1 n1 c1,.slice a2 n2 c2,.slice a3 n3 c3],.pointer (some ⟨bn,0,none⟩)] w fun e w'=>e = .returned (.bool (eqs s name))∧Below w.heap.size w w':=by
 have hlt:=block_lt_of_cell hm
 go_enter Tryz.func65,Tryz.ntmps65
 go_wp2
 go_ret
 exact ⟨by rw [← eqs_eq]; rfl,below1 w _⟩
set_option maxRecDepth 100000 in
set_option maxHeartbeats 400000 in
theorem pindex_any (bn:Nat) (a:Option Addr) (n cap:Nat) (P:Nat→LPart) (name:ByteArray) (w:World) (hP:PartsAt w a n P) (hm:w.cell? ⟨bn,0,none⟩=some (.string name)) :
  Calls Tryz.prog 64 #[.slice a n cap,.func (.func 65) #[] #[.pointer (some ⟨bn,0,none⟩)]] w fun e w'=>e = .returned (.int .i64 (partIdx n P name))∧Below w.heap.size w w':=by
 have hn:n≤9223372036854775807:=hP.1
 have HP:=hidI hP
 have eK:=Tryz.e65'
 clear hP
 go_enter Tryz.func64,Tryz.ntmps64
 go_wp2_with fail
 go_loopw [8] (fun i wr => ∃ k:Nat,k≤n∧i = .int .i64 k∧Hid (∀ j,j < k→eqs (P j).name name=false)∧Below w.heap.size w wr) (fun i _=>n - (intOf i).toNat)
 case atStart=>exact ⟨0,Nat.zero_le _,rfl,(fun j hj=>absurd hj (Nat.not_lt_zero _)),Below.refl _ _⟩
 case round =>
  obtain ⟨k,hk,rfl,hb,hw⟩:=hrel
  by_cases hlt:k < n
  ·obtain ⟨b,o,ha,k0,k1,k2,k3,-⟩:=(HP.out.kept hw).2 k hlt
   subst ha
   have hlt':(k:Int) < (n:Int):=by omega
   have hk0:(0:Int)≤(k:Int):=by omega
   have hcl:=partIdx1_any bn (P k).nf (P k).fcap (P k).no (P k).ocap (P k).nh (P k).hcap (P k).fa (P k).oa (P k).ha name (P k).name wr (keptCell hw hm)
   go_wp2_with fail
   refine hcl.mono ?_
   clear hcl
   rintro e w1 ⟨rfl,hw1⟩
   have hw2:Below w.heap.size w w1:=hw.trans (hw1.mono hw.size)
   clear hw1 k0 k1 k2 k3
   cases hpk:eqs (P k).name name with
   | true =>
    have hfin:Hid (partIdx n P name=(k:Int)):=idx_hit hlt hpk hb
    clear hpk
    go_wp2_with fail
    go_ret
    exact ⟨by rw [hfin.out]; rfl,hw2⟩
   | false =>
    have hb2:Hid (∀ j,j < k + 1→eqs (P j).name name=false):=fun j hj=>by
     rcases Nat.lt_succ_iff_lt_or_eq.1 hj with h | h
     ·exact hb j h
     ·rw [h]; exact hpk
    clear hpk
    go_wp2_with fail
    go_roundw
    case rel=>exact ⟨k + 1,by omega,by go_num,hb2,hw2⟩
    case measure=>simp [intOf]; omega
  ·have hfin:Hid (partIdx n P name = -1):=idx_none (fun j hj=>hb j (by omega))
   go_wp2_with fail
   go_ret
   exact ⟨by rw [hfin.out]; rfl,hw⟩
set_option maxRecDepth 100000 in
set_option maxHeartbeats 400000 in
theorem partIdx_any (a:Option Addr) (n cap:Nat) (P:Nat→LPart) (name:ByteArray) (w:World) (hP:PartsAt w a n P) :
  Calls Tryz.prog 42 #[.slice a n cap,.string name] w fun e w'=>e = .returned (.int .i64 (partIdx n P name))∧Below w.heap.size w w':=by
 have hmf:∀ (fn:Fn) (first cap:Array Value) (w:World),(Instr.makeFunc fn first cap).run Tryz.prog w = .ok (.func fn first cap) w:=fun _ _ _ _=>rfl
 have hB:=below1 w (Obj.cells #[Value.string name] 9)
 have hcl:=pindex_any w.heap.size a n cap P name _ (hP.kept hB) (by rw [World.cell?_alloc_at _ _ _ _ rfl]; rfl)
 have HB:=hidI hB
 clear hB hP
 go_enter Tryz.func42,Tryz.ntmps42
 go_wp2_with fail
 refine hcl.mono ?_
 clear hcl
 rintro e w1 ⟨rfl,hw1⟩
 have HB1:Hid (Below w.heap.size w w1):=HB.out.trans (hw1.mono HB.out.size)
 clear hw1
 go_wp2_with fail
 go_ret
 exact ⟨rfl,HB1.out⟩
end Go.Proofs.YtjjggefmmeminacGreat
