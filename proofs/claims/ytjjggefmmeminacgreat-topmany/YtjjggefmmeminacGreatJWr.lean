import Derived.Test.YtjjggefmmeminacGreatJBase
import Derived.Handy
namespace Go.Proofs.YtjjggefmmeminacGreat
open Go.RowKit Go.Sort Go.PlainAid
def wrongTypeName (T:Nat→LType) (i:Nat):Int:=if !named (T i).name || decide (0≤find i T (T i).name) then 6 else 0
set_option maxHeartbeats 400000 in
theorem wrongTypeName_any (a:Option Addr) (n cap i:Nat) (T:Nat→LType) (w:World) (hT:TypesAt w a n T) (hcap:n≤cap) (hi:i < n) :
  Calls Tryz.prog 109 #[.slice a n cap,.int .i64 (i:Int)] w fun e w'=>e = .returned (.int .i64 (wrongTypeName T i))∧Below w.heap.size w w':=by
 have hn:n≤9223372036854775807:=hT.1
 obtain ⟨b,o,rfl,hc,-,-,hs,-⟩:=hT.2 i hi
 have k0:=cell_regrown hc
 have cN:∀ d os,Calls Tryz.prog 19 #[.string (T i).name] (grow (redrawn w d) os) fun e w''=>e = .returned (.bool (named (T i).name))∧∃ p:Regrown,w''=grow (redrawn w p.d) p.os:=fun d os=>Calls.regrown_of (named_any _ _ hs)
 have cF:∀ d os,Calls Tryz.prog 123 #[.slice (some ⟨b,o,none⟩) i cap,.string (T i).name] (grow (redrawn w d) os) fun e w''=>e = .returned (.int .i64 (find i T (T i).name))∧∃ p:Regrown,w''=grow (redrawn w p.d) p.os:=fun d os=>Calls.regrown_of (find_any _ _ _ T _ _ ((hT.less (Nat.le_of_lt hi)).kept (below_regrown w d os)))
 clear hT hc hs
 have hi':(i:Int) < (n:Int):=by omega
 have hi0:(0:Int)≤(i:Int):=by omega
 have hic:(i:Int)≤(cap:Int):=by omega
 cases h1:named (T i).name
 ·have hfin:Hid (wrongTypeName T i=6):=by unfold wrongTypeName Hid; simp [h1]
  go_enter Tryz.func109,Tryz.ntmps109
  go_wp2
  refine wp_region_quiet_below (by kernel_rfl) (by kernel_rfl) ?_
  rw [h1] at cN
  repeat (go_big_quiet_step (first | exact cN _ _ | exact cF _ _))
  refine wpQuiet_nil ?_
  intro _ hw'
  obtain ⟨⟨dq,osq⟩,hw''⟩:=hw'
  subst hw''
  go_wp2
  go_ret
  exact ⟨by rw [hfin.out]; rfl,below_regrown w dq osq⟩
 ·by_cases h2:0≤find i T (T i).name
  ·have hfin:Hid (wrongTypeName T i=6):=by unfold wrongTypeName Hid; simp [h1,h2]
   go_enter Tryz.func109,Tryz.ntmps109
   go_wp2
   refine wp_region_quiet_below (by kernel_rfl) (by kernel_rfl) ?_
   rw [h1] at cN
   repeat (go_big_quiet_step (first | exact cN _ _ | exact cF _ _))
   refine wpQuiet_nil ?_
   intro _ hw'
   obtain ⟨⟨dq,osq⟩,hw''⟩:=hw'
   subst hw''
   go_wp2
   go_ret
   exact ⟨by rw [hfin.out]; rfl,below_regrown w dq osq⟩
  ·have hfin:Hid (wrongTypeName T i=0):=by unfold wrongTypeName Hid; simp [h1,h2]
   go_enter Tryz.func109,Tryz.ntmps109
   go_wp2
   refine wp_region_quiet_below (by kernel_rfl) (by kernel_rfl) ?_
   rw [h1] at cN
   repeat (go_big_quiet_step (first | exact cN _ _ | exact cF _ _))
   refine wpQuiet_nil ?_
   intro _ hw'
   obtain ⟨⟨dq,osq⟩,hw''⟩:=hw'
   subst hw''
   go_wp2
   go_ret
   exact ⟨by rw [hfin.out]; rfl,below_regrown w dq osq⟩
def fitOf (k:Int) (ty:ByteArray) (f:Int):Int:=if k=1 then (if ty.size=0 then 0 else 7) else if k=2∨k=3 then (if f < 0 then 5 else 0) else 1
theorem empty_size {s:ByteArray} : s.toList.isEmpty=true ↔ s.size=0:=by rw [List.isEmpty_iff]; exact toList_nil
theorem fit_7 {k:Int} {ty:ByteArray} {f : Int} (h:(k == 1)=true) (h':(!ty.toList.isEmpty)=true):fitOf k ty f=7:=by
 have h1:k=1:=by simpa using h
 have h2 : ¬ ty.size=0:=fun e=>by rw [empty_size.2 e] at h'; simp at h'
 unfold fitOf; simp [h1,h2]
theorem fit_0 {k:Int} {ty:ByteArray} {f : Int} (h:(k == 1)=true) (h':(!ty.toList.isEmpty)=false):fitOf k ty f=0:=by
 have h1:k=1:=by simpa using h
 have h2:ty.size=0:=empty_size.1 (by simpa using h')
 unfold fitOf; simp [h1,h2]
theorem fit_find {k:Int} {ty:ByteArray} {f : Int} (h':(k == 2)=true∨(k == 3)=true):fitOf k ty f=if f < 0 then 5 else 0:=by
 have h2:k=2∨k=3:=by simpa using h'
 unfold fitOf; rw [if_neg (by omega),if_pos h2]
theorem fit_1 {k:Int} {ty:ByteArray} {f : Int} (h:(k == 1)=false) (h':(k == 2)=false) (h'':(k == 3)=false):fitOf k ty f=1:=by
 have h1 : ¬ k=1:=by simpa using h
 have h2 : ¬ k=2:=by simpa using h'
 have h3 : ¬ k=3:=by simpa using h''
 unfold fitOf; rw [if_neg h1,if_neg (by omega)]
def wrongField (n:Nat) (T:Nat→LType) (F:Nat→LField) (i:Nat):Int :=
 if !named (F i).name || decide (0≤fieldIdx i F (F i).name) then 6 else fitOf (F i).kind (F i).type (find n T (F i).type)
set_option maxHeartbeats 400000 in
theorem wrongField_any (a fa:Option Addr) (n cap nf fcap i:Nat) (T:Nat→LType) (F:Nat→LField) (w:World) (hT:TypesAt w a n T) (hF:FieldsAt w fa nf F) (hcap:nf≤fcap) (hi:i < nf) :
  Calls Tryz.prog 132 #[.slice a n cap,.slice fa nf fcap,.int .i64 (i:Int)] w fun e w'=>e = .returned (.int .i64 (wrongField n T F i))∧Below w.heap.size w w':=by
 have hnf:nf≤9223372036854775807:=hF.1
 obtain ⟨b,o,rfl,hc0,hc1,hc2,hs0,hs2,-⟩:=hF.2 i hi
 have HT:Hid (TypesAt w a n T):=hT
 have HF:Hid (FieldsAt w (some ⟨b,o,none⟩) nf F):=hF
 clear hT hF
 have hi':(i:Int) < (nf:Int):=by omega
 have hi0:(0:Int)≤(i:Int):=by omega
 have hic:(i:Int)≤(fcap:Int):=by omega
 generalize hW:w.alloc (Obj.cells #[Value.string (F i).name,Value.int IntKind.i64 (F i).kind,Value.string (F i).type] 66)=W
 have hB:Below w.heap.size w W:=by rw [← hW]; exact below1 _ _
 have k0:W.cell? ⟨w.heap.size,0,none⟩=some (.string (F i).name):=by rw [← hW,World.cell?_alloc_at _ _ _ _ rfl]; rfl
 have k1:W.cell? ⟨w.heap.size,1,none⟩=some (.int .i64 (F i).kind):=by rw [← hW,World.cell?_alloc_at _ _ _ _ rfl]; rfl
 have k2:W.cell? ⟨w.heap.size,2,none⟩=some (.string (F i).type):=by rw [← hW,World.cell?_alloc_at _ _ _ _ rfl]; rfl
 have r0:=cell_regrown k0
 have r1:=cell_regrown k1
 have r2:=cell_regrown k2
 have cN:∀ d os,Calls Tryz.prog 19 #[.string (F i).name] (grow (redrawn W d) os) fun e w''=>e = .returned (.bool (named (F i).name))∧∃ p:Regrown,w''=grow (redrawn W p.d) p.os:=fun d os=>Calls.regrown_of (named_any _ _ hs0)
 have cF:∀ d os,Calls Tryz.prog 66 #[.slice (some ⟨b,o,none⟩) i fcap,.string (F i).name] (grow (redrawn W d) os) fun e w''=>e = .returned (.int .i64 (fieldIdx i F (F i).name))∧∃ p:Regrown,w''=grow (redrawn W p.d) p.os:=fun d os=>Calls.regrown_of (field_any _ _ _ F _ _ (((HF.out.less (Nat.le_of_lt hi)).kept hB).kept (below_regrown W d os)))
 have cT:∀ d os,Calls Tryz.prog 123 #[.slice a n cap,.string (F i).type] (grow (redrawn W d) os) fun e w''=>e = .returned (.int .i64 (find n T (F i).type))∧Below (grow (redrawn W d) os).heap.size (grow (redrawn W d) os) w'':=fun d os=>find_any _ _ _ T _ _ ((HT.out.kept hB).kept (below_regrown W d os))
 have hend:∀ d os,Below w.heap.size w (grow (redrawn W d) os):=fun d os=>hB.trans ((below_regrown W d os).mono hB.size)
 have hend2:∀ d os w2,Below (grow (redrawn W d) os).heap.size (grow (redrawn W d) os) w2→Below w.heap.size w w2:=fun d os w2 h=>(hend d os).trans (h.mono (hend d os).size)
 clear k0 k1 k2 HT HF hB hs0 hs2
 have HE:Hid (∀ d os,Below w.heap.size w (grow (redrawn W d) os)):=hend
 have HE2:Hid (∀ d os w2,Below (grow (redrawn W d) os).heap.size (grow (redrawn W d) os) w2→Below w.heap.size w w2):=hend2
 clear hend hend2
 cases h1:named (F i).name
 ·have hfin:Hid (wrongField n T F i=6):=by unfold wrongField Hid; simp [h1]
  go_enter Tryz.func132,Tryz.ntmps132
  go_wp2
  clear hW
  refine wp_region_quiet_below (by kernel_rfl) (by kernel_rfl) ?_
  rw [h1] at cN
  repeat (go_big_quiet_step (first | exact cN _ _ | exact cF _ _))
  refine wpQuiet_nil ?_
  intro _ hw'
  obtain ⟨⟨dq,osq⟩,hw''⟩:=hw'
  subst hw''
  go_wp2_with fail
  go_ret
  exact ⟨by rw [hfin.out]; rfl,HE.out _ _⟩
 by_cases h2:0≤fieldIdx i F (F i).name
 ·have hfin:Hid (wrongField n T F i=6):=by unfold wrongField Hid; simp [h1,h2]
  go_enter Tryz.func132,Tryz.ntmps132
  go_wp2
  clear hW
  refine wp_region_quiet_below (by kernel_rfl) (by kernel_rfl) ?_
  rw [h1] at cN
  repeat (go_big_quiet_step (first | exact cN _ _ | exact cF _ _))
  refine wpQuiet_nil ?_
  intro _ hw'
  obtain ⟨⟨dq,osq⟩,hw''⟩:=hw'
  subst hw''
  go_wp2_with fail
  go_ret
  exact ⟨by rw [hfin.out]; rfl,HE.out _ _⟩
 have hfin:Hid (wrongField n T F i=fitOf (F i).kind (F i).type (find n T (F i).type)):=by unfold wrongField Hid; simp [h1,h2]
 go_enter Tryz.func132,Tryz.ntmps132
 go_wp2
 clear hW
 refine wp_region_quiet_below (by kernel_rfl) (by kernel_rfl) ?_
 rw [h1] at cN
 repeat (go_big_quiet_step (first | exact cN _ _ | exact cF _ _))
 refine wpQuiet_nil ?_
 intro _ hw'
 obtain ⟨⟨dq,osq⟩,hw''⟩:=hw'
 subst hw''
 go_wp2_with fail
 ·go_ret
  exact ⟨by rw [hfin.out,fit_7 ‹_› ‹_›]; rfl,HE.out _ _⟩
 ·go_ret
  exact ⟨by rw [hfin.out,fit_0 ‹_› ‹_›]; rfl,HE.out _ _⟩
 ·have hfin2:Hid (wrongField n T F i=if find n T (F i).type < 0 then 5 else 0):=by unfold Hid; rw [hfin.out,fit_find (.inl ‹_›)]
  refine (cT _ _).mono ?_
  rintro e w2 ⟨rfl,hw2⟩
  have hw3:=HE2.out _ _ _ hw2
  clear hw2
  by_cases h5:find n T (F i).type < 0
  ·go_wp2_with fail
   go_ret
   exact ⟨by rw [hfin2.out,if_pos h5]; rfl,hw3⟩
  ·go_wp2_with fail
   go_ret
   exact ⟨by rw [hfin2.out,if_neg (by omega)]; rfl,hw3⟩
 ·have hfin2:Hid (wrongField n T F i=if find n T (F i).type < 0 then 5 else 0):=by unfold Hid; rw [hfin.out,fit_find (.inr ‹_›)]
  refine (cT _ _).mono ?_
  rintro e w2 ⟨rfl,hw2⟩
  have hw3:=HE2.out _ _ _ hw2
  clear hw2
  by_cases h5:find n T (F i).type < 0
  ·go_wp2_with fail
   go_ret
   exact ⟨by rw [hfin2.out,if_pos h5]; rfl,hw3⟩
  ·go_wp2_with fail
   go_ret
   exact ⟨by rw [hfin2.out,if_neg (by omega)]; rfl,hw3⟩
 ·go_ret
  exact ⟨by rw [hfin.out,fit_1 ‹_› ‹_› ‹_›]; rfl,HE.out _ _⟩
end Go.Proofs.YtjjggefmmeminacGreat
namespace Go.Proofs.YtjjggefmmeminacGreat
open Go.RowKit Go.Sort Go.PlainAid
theorem Tryz.e108:∀ args w,(callFunc 108 args).run Tryz.prog w = .ok (.enter 108 args) w:=enters_of Tryz.func108 (by kernel_rfl) rfl
theorem Tryz.e110:∀ args w,(callFunc 110 args).run Tryz.prog w = .ok (.enter 110 args) w:=enters_of Tryz.func110 (by kernel_rfl) rfl
theorem Tryz.e131:∀ args w,(callFunc 131 args).run Tryz.prog w = .ok (.enter 131 args) w:=enters_of Tryz.func131 (by kernel_rfl) rfl
def wrongFields (n:Nat) (T:Nat→LType) (nf:Nat) (F:Nat→LField):Int:=if 10 < nf then 4 else (fault nf (wrongField n T F)).1
def wrongS (n:Nat) (T:Nat→LType):Int × Int :=
 if 8 < n then (4,0) else if (fault n (wrongTypeName T)).1≠0 then fault n (wrongTypeName T) else fault n (fun i=>wrongFields n T (T i).nf (T i).F)
theorem field0_run (x y:Int):∀ w:World,(Instr.field 45 (.agg #[.int .i64 x,.int .i64 y]) 0).run Tryz.prog w = .ok (.int .i64 x) w:=fun _=>by kernel_rfl
set_option maxHeartbeats 400000 in
theorem wrongFields1_any (a fa:Option Addr) (n cap nf fcap i b1 b2:Nat) (T:Nat→LType) (F:Nat→LField) (w:World) (hT:TypesAt w a n T) (hF:FieldsAt w fa nf F) (hcap:nf≤fcap) (hi:i < nf)
  (c1:w.cell? ⟨b1,0,none⟩=some (.slice a n cap)) (c2:w.cell? ⟨b2,0,none⟩=some (.slice fa nf fcap)) :
  Calls Tryz.prog 131 #[.int .i64 (i:Int),.pointer (some ⟨b1,0,none⟩),.pointer (some ⟨b2,0,none⟩)] w fun e w'=>e = .returned (.int .i64 (wrongField n T F i))∧Below w.heap.size w w':=by
 have hc:=wrongField_any a fa n cap nf fcap i T F w hT hF hcap hi
 clear hT hF
 go_enter Tryz.func131,Tryz.ntmps131
 go_wp2_with fail
 refine hc.mono ?_
 rintro e w1 ⟨rfl,hw1⟩
 go_wp2_with fail
 go_ret
 exact ⟨rfl,hw1⟩
set_option maxHeartbeats 400000 in
theorem wrongFields_any (a fa:Option Addr) (n cap nf fcap:Nat) (T:Nat→LType) (F:Nat→LField) (w:World) (hT:TypesAt w a n T) (hF:FieldsAt w fa nf F) (hcap:nf≤fcap) :
  Calls Tryz.prog 111 #[.slice a n cap,.slice fa nf fcap] w fun e w'=>e = .returned (.int .i64 (wrongFields n T nf F))∧Below w.heap.size w w':=by
 have hmf:∀ (fn:Fn) (first cap:Array Value) (w:World),(Instr.makeFunc fn first cap).run Tryz.prog w = .ok (.func fn first cap) w:=fun _ _ _ _=>rfl
 have hnf:nf≤9223372036854775807:=hF.1
 have HT:Hid (TypesAt w a n T):=hT
 have HF:Hid (FieldsAt w fa nf F):=hF
 clear hT hF
 by_cases h:10 < (nf:Int)
 ·have hfin:Hid (wrongFields n T nf F=4):=by unfold wrongFields Hid; rw [if_pos (by omega)]
  go_enter Tryz.func111,Tryz.ntmps111
  go_wp2_with fail
  go_ret
  exact ⟨by rw [hfin.out]; rfl,below2 _ _ _⟩
 ·have hfin:Hid (wrongFields n T nf F=(fault nf (wrongField n T F)).1):=by unfold wrongFields Hid; rw [if_neg (by omega)]
  go_enter Tryz.func111,Tryz.ntmps111
  go_wp2_with fail
  refine (firstFault_any nf hnf 131 _ (wrongField n T F) _ Tryz.e131 ?_).mono ?_
  ·intro i hi w1 hw1
   have hb:=(below2 w (.cells #[.slice a n cap] 36) (.cells #[.slice fa nf fcap] 68)).trans (hw1.mono (below2 w _ _).size)
   refine wrongFields1_any a fa n cap nf fcap i _ _ T F w1 (HT.out.kept hb) (HF.out.kept hb) hcap hi (keptCell hw1 ?_) (keptCell hw1 ?_)
   ·rw [World.cell?_alloc_past _ _ _ (by simp),World.cell?_alloc_at _ _ _ _ rfl]; rfl
   ·rw [World.cell?_alloc_at _ _ _ _ (by simp)]; rfl
  ·rintro e w1 ⟨rfl,hw1⟩
   unfold faultV
   have hfd:=field0_run (fault nf (wrongField n T F)).1 (fault nf (wrongField n T F)).2
   go_wp2_with fail
   go_ret
   exact ⟨by rw [hfin.out]; rfl,(below2 w _ _).trans (hw1.mono (below2 w _ _).size)⟩
set_option maxHeartbeats 400000 in
theorem wrong1_any (a:Option Addr) (n cap i b1:Nat) (T:Nat→LType) (w:World) (hT:TypesAt w a n T) (hcap:n≤cap) (hi:i < n)
  (c1:w.cell? ⟨b1,0,none⟩=some (.slice a n cap)) :
  Calls Tryz.prog 108 #[.int .i64 (i:Int),.pointer (some ⟨b1,0,none⟩)] w fun e w'=>e = .returned (.int .i64 (wrongTypeName T i))∧Below w.heap.size w w':=by
 have hc:=wrongTypeName_any a n cap i T w hT hcap hi
 clear hT
 go_enter Tryz.func108,Tryz.ntmps108
 go_wp2_with fail
 refine hc.mono ?_
 rintro e w1 ⟨rfl,hw1⟩
 go_wp2_with fail
 go_ret
 exact ⟨rfl,hw1⟩
set_option maxHeartbeats 400000 in
theorem wrong2_any (a:Option Addr) (n cap i b1:Nat) (T:Nat→LType) (w:World) (hT:TypesAt w a n T) (hi:i < n)
  (c1:w.cell? ⟨b1,0,none⟩=some (.slice a n cap)) :
  Calls Tryz.prog 110 #[.int .i64 (i:Int),.pointer (some ⟨b1,0,none⟩)] w fun e w'=>e = .returned (.int .i64 (wrongFields n T (T i).nf (T i).F))∧Below w.heap.size w w':=by
 have hn:n≤9223372036854775807:=hT.1
 obtain ⟨b,o,rfl,-,hc1,hcap,-,hF⟩:=hT.2 i hi
 have k0:=cell_regrown c1
 have k1:=cell_regrown hc1
 have cF:∀ d os,Calls Tryz.prog 111 #[.slice (some ⟨b,o,none⟩) n cap,.slice (T i).fa (T i).nf (T i).fcap] (grow (redrawn w d) os) fun e w''=>e = .returned (.int .i64 (wrongFields n T (T i).nf (T i).F))∧∃ p:Regrown,w''=grow (redrawn w p.d) p.os:=fun d os=>Calls.regrown_of (wrongFields_any _ _ _ _ _ _ T (T i).F _ (hT.kept (below_regrown w d os)) (hF.kept (below_regrown w d os)) hcap)
 clear hT hF hc1 hcap
 have hi':(i:Int) < (n:Int):=by omega
 have hi0:(0:Int)≤(i:Int):=by omega
 go_enter Tryz.func110,Tryz.ntmps110
 go_wp2
 refine wp_region_quiet_below (by kernel_rfl) (by kernel_rfl) ?_
 repeat (go_big_quiet_step (first | exact cF _ _))
 refine wpQuiet_nil ?_
 intro _ hw'
 obtain ⟨⟨dq,osq⟩,hw''⟩:=hw'
 subst hw''
 go_wp2
 go_ret
 exact ⟨rfl,below_regrown w dq osq⟩
theorem below3 (w:World) (o o' o'':Obj):Below w.heap.size w (((w.alloc o).alloc o').alloc o''):=(below2 w o o').alloc (by simp; omega) o''
set_option maxHeartbeats 400000 in
theorem wrong_any (a:Option Addr) (n cap:Nat) (T:Nat→LType) (w:World) (hT:TypesAt w a n T) (hcap:n≤cap) :
  Calls Tryz.prog 84 #[.slice a n cap] w fun e w'=>e = .returned (faultV (wrongS n T))∧Below w.heap.size w w':=by
 have hmf:∀ (fn:Fn) (first cap:Array Value) (w:World),(Instr.makeFunc fn first cap).run Tryz.prog w = .ok (.func fn first cap) w:=fun _ _ _ _=>rfl
 have hn:n≤9223372036854775807:=hT.1
 have HT:Hid (TypesAt w a n T):=hT
 clear hT
 by_cases h:8 < (n:Int)
 ·have hfin:Hid (wrongS n T=(4,0)):=by unfold wrongS Hid; rw [if_pos (by omega)]
  go_enter Tryz.func84,Tryz.ntmps84
  go_wp2_with fail
  exact bodyPost_ret (v:=.agg #[.int .i64 4,.int .i64 0]) (by simp [results,Tryz.results84,go_sem]) rfl ⟨by rw [hfin.out]; rfl,below2 _ _ _⟩
 ·have hlt : ¬ 8 < n:=by omega
  have hfin1:Hid ((fault n (wrongTypeName T)).1≠0→wrongS n T=fault n (wrongTypeName T)):=fun h0=>by unfold wrongS; rw [if_neg hlt,if_pos h0]
  have hfin2:Hid ((fault n (wrongTypeName T)).1=0→wrongS n T=fault n (fun i=>wrongFields n T (T i).nf (T i).F)):=fun h0=>by unfold wrongS; rw [if_neg hlt,if_neg (by omega)]
  clear hlt
  go_enter Tryz.func84,Tryz.ntmps84
  go_wp2_with fail
  generalize hW:((w.alloc (Obj.cells #[Value.slice a n cap] 36)).alloc (Obj.cells #[Value.int IntKind.i64 0,Value.int IntKind.i64 0] 45))=W
  have hB:Below w.heap.size w W:=by rw [← hW]; exact below2 _ _ _
  have hz:w.heap.size + 1 < W.heap.size:=by rw [← hW]; simp
  have c0:W.cell? ⟨w.heap.size,0,none⟩=some (.slice a n cap):=by rw [← hW,World.cell?_alloc_past _ _ _ (by simp),World.cell?_alloc_at _ _ _ _ rfl]; rfl
  have r0:W.cell? ⟨w.heap.size + 1,0,none⟩=some (.int .i64 0):=by rw [← hW,World.cell?_alloc_at _ _ _ _ (by simp)]; rfl
  have r1:W.cell? ⟨w.heap.size + 1,1,none⟩=some (.int .i64 0):=by rw [← hW,World.cell?_alloc_at _ _ _ _ (by simp)]; rfl
  have f0:W.frozen? ⟨w.heap.size + 1,0,none⟩=false:=by rw [← hW]; exact World.frozen?_alloc_at _ _ _ _ (by simp)
  have f1:W.frozen? ⟨w.heap.size + 1,1,none⟩=false:=by rw [← hW]; exact World.frozen?_alloc_at _ _ _ _ (by simp)
  clear hW
  refine (firstFault_any n hn 108 _ (wrongTypeName T) _ Tryz.e108 ?_).mono ?_
  ·intro i hi w1 hw1
   exact wrong1_any a n cap i _ T w1 (HT.out.kept (hB.trans (hw1.mono hB.size))) hcap hi (keptCell hw1 c0)
  rintro e w1 ⟨rfl,hw1⟩
  have hB1:Below w.heap.size w w1:=hB.trans (hw1.mono hB.size)
  have hz1:w.heap.size + 1 < w1.heap.size:=Nat.lt_of_lt_of_le hz hw1.size
  have hz0:w.heap.size < w1.heap.size:=by omega
  have d0:=keptCell hw1 c0
  have s0:=keptCell hw1 r0
  have s1:=keptCell hw1 r1
  have g0:=(hw1.frozen (p:=⟨w.heap.size + 1,0,none⟩) hz).trans f0
  have g1:=(hw1.frozen (p:=⟨w.heap.size + 1,1,none⟩) hz).trans f1
  clear hw1 c0 r0 r1 f0 f1 hz hB
  unfold faultV
  by_cases h0:(fault n (wrongTypeName T)).1=0
  ·have hb0:((fault n (wrongTypeName T)).1 != 0)=false:=by simpa using h0
   have hfin:Hid (wrongS n T=fault n (fun i=>wrongFields n T (T i).nf (T i).F)):=hfin2.out h0
   clear h0
   go_wp2_with fail
   generalize hW2:w1.alloc (Obj.cells #[Value.int IntKind.i64 (fault n (wrongTypeName T)).fst,Value.int IntKind.i64 (fault n (wrongTypeName T)).snd] 45)=W2
   have hB2:Below w1.heap.size w1 W2:=by rw [← hW2]; exact below1 _ _
   clear hW2
   have hB3:Below w.heap.size w W2:=hB1.trans (hB2.mono hB1.size)
   have t0:=keptCell hB2 d0
   have u0:=keptCell hB2 s0
   have u1:=keptCell hB2 s1
   have y0:=(hB2.frozen (p:=⟨w.heap.size + 1,0,none⟩) hz1).trans g0
   have y1:=(hB2.frozen (p:=⟨w.heap.size + 1,1,none⟩) hz1).trans g1
   have hz3:w.heap.size + 1 < W2.heap.size:=Nat.lt_of_lt_of_le hz1 hB2.size
   clear d0 s0 s1 g0 g1 hz1 hz0 hB1 hB2
   refine (firstFault_any n hn 110 _ (fun i=>wrongFields n T (T i).nf (T i).F) _ Tryz.e110 ?_).mono ?_
   ·intro i hi w3 hw3
    exact wrong2_any a n cap i _ T w3 (HT.out.kept (hB3.trans (hw3.mono hB3.size))) hi (keptCell hw3 t0)
   rintro e w3 ⟨rfl,hw3⟩
   have v0:=keptCell hw3 u0
   have v1:=keptCell hw3 u1
   have z0:=(hw3.frozen (p:=⟨w.heap.size + 1,0,none⟩) hz3).trans y0
   have z1:=(hw3.frozen (p:=⟨w.heap.size + 1,1,none⟩) hz3).trans y1
   have hB4:Below w.heap.size w w3:=hB3.trans (hw3.mono hB3.size)
   have hz4:w.heap.size + 1 < w3.heap.size:=Nat.lt_of_lt_of_le hz3 hw3.size
   clear hw3 u0 u1 y0 y1 hB3 t0
   generalize fault n (fun i=>wrongFields n T (T i).nf (T i).F)=r at *
   unfold faultV
   go_wp2_with fail
   exact bodyPost_ret (v:=.agg #[.int .i64 r.1,.int .i64 r.2]) (by simp [results,Tryz.results84,go_sem,v0,v1]) rfl ⟨by rw [hfin.out]; rfl,(hB4.setCell (by simp) _).setCell (by simp) _⟩
  ·have hb0:((fault n (wrongTypeName T)).1 != 0)=true:=by simpa using h0
   have hfin:Hid (wrongS n T=fault n (wrongTypeName T)):=hfin1.out h0
   clear h0
   generalize fault n (wrongTypeName T)=r at *
   go_wp2_with fail
   exact bodyPost_ret (v:=.agg #[.int .i64 r.1,.int .i64 r.2]) (by simp [results,Tryz.results84,go_sem,s0,s1,hz1]) rfl ⟨by rw [hfin.out]; rfl,((hB1.setCell (by simp) _).setCell (by simp) _).alloc (by simpa using hB1.size) _⟩
end Go.Proofs.YtjjggefmmeminacGreat
namespace Go.Proofs.YtjjggefmmeminacGreat
open Go.RowKit Go.Sort Go.PlainAid
theorem Tryz.e146:∀ args w,(callFunc 146 args).run Tryz.prog w = .ok (.enter 146 args) w:=enters_of Tryz.func146 (by kernel_rfl) rfl
theorem Tryz.e145:∀ args w,(callFunc 145 args).run Tryz.prog w = .ok (.enter 145 args) w:=enters_of Tryz.func145 (by kernel_rfl) rfl
def sameThing (X:Nat→LThing) (typ key:ByteArray) (i:Nat):Bool:=eqs (X i).type typ && eqs (X i).key key
def hasThing (n:Nat) (X:Nat→LThing) (typ key:ByteArray):Bool:=decide (0≤idx n (sameThing X typ key))
set_option maxHeartbeats 400000 in
theorem hasThing1_any (b o cap n i b1 b2 b3:Nat) (typ key s1 s2:ByteArray) (w:World) (hi:i < n) (c1:w.cell? ⟨b1,0,none⟩=some (.slice (some ⟨b,o,none⟩) n cap)) (c2:w.cell? ⟨b2,0,none⟩=some (.string typ)) (c3:w.cell? ⟨b3,0,none⟩=some (.string key))
  (d1:w.cell? ⟨b,o + i * 3,none⟩=some (.string s1)) (d2:w.cell? ⟨b,o + i * 3 + 1,none⟩=some (.string s2)) :
  Calls Tryz.prog 145 #[.int .i64 (i:Int),.pointer (some ⟨b1,0,none⟩),.pointer (some ⟨b2,0,none⟩),.pointer (some ⟨b3,0,none⟩)] w fun e w'=>e = .returned (.bool (eqs s1 typ && eqs s2 key))∧Below w.heap.size w w':=by
 have hi':(i:Int) < (n:Int):=by omega
 have hi0:(0:Int)≤(i:Int):=by omega
 rw [← eqs_eq,← eqs_eq]
 cases h1:(s1.toList == typ.toList)
 all_goals
  go_enter Tryz.func145,Tryz.ntmps145
  go_wp2
  go_quiet (fail)
  go_wp2
  go_ret
  exact ⟨rfl,below_drewN _ _⟩
set_option maxHeartbeats 400000 in
theorem hasThing_any (a:Option Addr) (n cap:Nat) (X:Nat→LThing) (typ key:ByteArray) (w:World) (hX:ThingsAt w a n X) :
  Calls Tryz.prog 128 #[.slice a n cap,.string typ,.string key] w fun e w'=>e = .returned (.bool (hasThing n X typ key))∧Below w.heap.size w w':=by
 have hmf:∀ (fn:Fn) (first cap:Array Value) (w:World),(Instr.makeFunc fn first cap).run Tryz.prog w = .ok (.func fn first cap) w:=fun _ _ _ _=>rfl
 have HX:Hid (ThingsAt w a n X):=hX
 have hn:n≤9223372036854775807:=hX.1
 clear hX
 unfold hasThing
 go_enter Tryz.func128,Tryz.ntmps128
 go_wp2_with fail
 refine (index_any n hn 145 _ (sameThing X typ key) _ Tryz.e145 ?_).mono ?_
 ·intro i hi w1 hw1
  obtain ⟨b,o,rfl,hc,hk,-⟩:=HX.out.2 i hi
  have hb:=(below3 w (.cells #[.slice (some ⟨b,o,none⟩) n cap] 38) (.cells #[.string typ] 9) (.cells #[.string key] 9)).trans (hw1.mono (below3 w _ _ _).size)
  refine hasThing1_any b o cap n i _ _ _ typ key (X i).type (X i).key w1 hi (keptCell hw1 ?_) (keptCell hw1 ?_) (keptCell hw1 ?_) (keptCell hb hc) (keptCell hb hk)
  ·rw [World.cell?_alloc_past _ _ _ (by simp; omega),World.cell?_alloc_past _ _ _ (by simp),World.cell?_alloc_at _ _ _ _ rfl]; rfl
  ·rw [World.cell?_alloc_past _ _ _ (by simp),World.cell?_alloc_at _ _ _ _ (by simp)]; rfl
  ·rw [World.cell?_alloc_at _ _ _ _ (by simp)]; rfl
 ·rintro e w1 ⟨rfl,hw1⟩
  go_wp2
  go_ret
  exact ⟨rfl,(below3 w _ _ _).trans (hw1.mono (below3 w _ _ _).size)⟩
def valOf (e:Bool) (k:Int) (n t:Nat) (x:Int):Int :=
 if e=false then 6 else if (k=1∧0 < n)∨(k≠1∧t≠0) then 7 else if 20 < n∨(k=2∧1 < n) then 4 else if 40 < t then 3 else if 0≤x then 6 else 0
def wrongVal (f:LField) (v:LVal):Int:=valOf (eqs v.field f.name) f.kind v.nk v.text.size (idx v.nk (fun i => !named (v.K i)))
theorem val_6 {e:Bool} {k:Int} {n t:Nat} {x:Int} (h:(!e)=true):valOf e k n t x=6:=by
 have h':e=false:=by simpa using h
 unfold valOf; rw [if_pos h']
theorem val_7 {e:Bool} {k:Int} {n t:Nat} {x:Int} (h:(!e)=false) (h1:(k=1∧0 < n)∨(k≠1∧t≠0)):valOf e k n t x=7:=by
 have h' : ¬ e=false:=by simpa using h
 unfold valOf; rw [if_neg h',if_pos h1]
theorem val_4 {e:Bool} {k:Int} {n t:Nat} {x:Int} (h:(!e)=false) (h1 : ¬ ((k=1∧0 < n)∨(k≠1∧t≠0))) (h2:20 < n∨(k=2∧1 < n)):valOf e k n t x=4:=by
 have h' : ¬ e=false:=by simpa using h
 unfold valOf; rw [if_neg h',if_neg h1,if_pos h2]
theorem val_3 {e:Bool} {k:Int} {n t:Nat} {x:Int} (h:(!e)=false) (h1 : ¬ ((k=1∧0 < n)∨(k≠1∧t≠0))) (h2 : ¬ (20 < n∨(k=2∧1 < n))) (h3:40 < t):valOf e k n t x=3:=by
 have h' : ¬ e=false:=by simpa using h
 unfold valOf; rw [if_neg h',if_neg h1,if_neg h2,if_pos h3]
theorem val_x {e:Bool} {k:Int} {n t:Nat} {x:Int} (h:(!e)=false) (h1 : ¬ ((k=1∧0 < n)∨(k≠1∧t≠0))) (h2 : ¬ (20 < n∨(k=2∧1 < n))) (h3 : ¬ 40 < t):valOf e k n t x=if 0≤x then 6 else 0:=by
 have h' : ¬ e=false:=by simpa using h
 unfold valOf; rw [if_neg h',if_neg h1,if_neg h2,if_neg h3]
theorem noText {k:Int} {s:ByteArray} (h : ¬ k=1) (h':(!k == 1)=false∨(!s.toList.isEmpty)=false):s.size=0:=by
 rcases h' with h' | h'
 ·exact absurd (by simpa using h') h
 ·exact empty_size.1 (by simpa using h')
theorem someText {k:Int} {s:ByteArray} (h':(!k == 1)=true∧(!s.toList.isEmpty)=true) : ¬ s.size=0:=fun e=>by
 have:=h'.2; rw [empty_size.2 e] at this; simp at this
set_option maxHeartbeats 400000 in
theorem wrongVal1_any (b1 b o cap n i:Nat) (s:ByteArray) (w:World) (hi:i < n) (hs:Small s) (c1:w.cell? ⟨b1,2,none⟩=some (.slice (some ⟨b,o,none⟩) n cap)) (c2:w.cell? ⟨b,o + i,none⟩=some (.string s)) :
  Calls Tryz.prog 146 #[.int .i64 (i:Int),.pointer (some ⟨b1,0,none⟩)] w fun e w'=>e = .returned (.bool (!named s))∧Below w.heap.size w w':=by
 have hi':(i:Int) < (n:Int):=by omega
 have hi0:(0:Int)≤(i:Int):=by omega
 have hc:=named_any s w hs
 go_enter Tryz.func146,Tryz.ntmps146
 go_wp2_with fail
 refine hc.mono ?_
 rintro e w1 ⟨rfl,hw1⟩
 go_wp2_with fail
 go_ret
 exact ⟨rfl,hw1⟩
set_option maxHeartbeats 1000000 in
theorem wrongVal_any (f:LField) (v:LVal) (w:World) (hv:KeysAt w v.ka v.nk v.K) :
  Calls Tryz.prog 130 #[.agg #[.string f.name,.int .i64 f.kind,.string f.type],.agg #[.string v.field,.string v.text,.slice v.ka v.nk v.kcap]] w fun e w'=>e = .returned (.int .i64 (wrongVal f v))∧Below w.heap.size w w':=by
 have hmf:∀ (fn:Fn) (first cap:Array Value) (w:World),(Instr.makeFunc fn first cap).run Tryz.prog w = .ok (.func fn first cap) w:=fun _ _ _ _=>rfl
 have HV:Hid (KeysAt w v.ka v.nk v.K):=hv
 have hn:v.nk≤9223372036854775807:=hv.1
 clear hv
 have hend:Hid (∀ w0 w1:World,(∃ o o',w0=(w.alloc o).alloc o')→Below w0.heap.size w0 w1→Below w.heap.size w w1):=by
  rintro w0 w1 ⟨o,o',rfl⟩ hw1
  exact (below2 w o o').trans (hw1.mono (below2 w o o').size)
 have hcall:Hid (∀ (k:Int),Calls Tryz.prog 32 #[.int .i64 (v.nk:Int),.func (.func 146) #[] #[.pointer (some ⟨w.heap.size + 1,0,none⟩)]] ((w.alloc (.cells #[.string f.name,.int .i64 k,.string f.type] 66)).alloc (.cells #[.string v.field,.string v.text,.slice v.ka v.nk v.kcap] 59)) fun e w'=>e = .returned (.int .i64 (idx v.nk (fun i => !named (v.K i))))∧Below w.heap.size w w'):=by
  intro k
  refine (index_any v.nk hn 146 _ (fun i => !named (v.K i)) _ Tryz.e146 ?_).mono ?_
  ·intro i hi w1 hw1
   obtain ⟨b,o,ha,hc,hs⟩:=HV.out.2 i hi
   refine wrongVal1_any _ b o v.kcap v.nk i (v.K i) w1 hi hs (keptCell hw1 ?_) (keptCell (hend.out _ _ ⟨_,_,rfl⟩ hw1) hc)
   rw [World.cell?_alloc_at _ _ _ _ (by simp),← ha]; rfl
  ·rintro e w1 ⟨rfl,hw1⟩
   exact ⟨rfl,hend.out _ _ ⟨_,_,rfl⟩ hw1⟩
 have hx:Hid (wrongVal f v=valOf (v.field.toList == f.name.toList) f.kind v.nk v.text.size (idx v.nk (fun i => !named (v.K i)))):=by unfold Hid wrongVal; rw [← eqs_eq]
 clear hend HV
 go_enter Tryz.func130,Tryz.ntmps130
 go_wp2_with fail
 ·go_ret
  exact ⟨by rw [hx.out,val_6 ‹_›]; rfl,below2 _ _ _⟩
 ·go_ret
  exact ⟨by rw [hx.out,val_7 ‹_› (.inl ⟨‹_›,‹0 < v.nk›⟩)]; rfl,below2 _ _ _⟩
 ·have hk:f.kind=1 := ‹f.kind=1›
  have h2 : ¬ 0 < v.nk := ‹_›
  have h3:40 < (v.text.size:Int) := ‹_›
  go_ret
  exact ⟨by rw [hx.out,val_3 ‹_› (by omega) (by omega) (by omega)]; rfl,below2 _ _ _⟩
 ·have hk:f.kind=1 := ‹f.kind=1›
  have h2 : ¬ 0 < v.nk := ‹_›
  have h3:(v.text.size:Int)≤40 := ‹_›
  have hx2:Hid (wrongVal f v=if 0≤idx v.nk (fun i => !named (v.K i)) then 6 else 0):=by unfold Hid; rw [hx.out,val_x ‹_› (by omega) (by omega) (by omega)]
  refine (hcall.out _).mono ?_
  rintro e w1 ⟨rfl,hw1⟩
  by_cases h9:0≤idx v.nk (fun i => !named (v.K i))
  ·go_wp2_with fail
   go_ret
   exact ⟨by rw [hx2.out,if_pos h9]; rfl,hw1⟩
  ·go_wp2_with fail
   go_ret
   exact ⟨by rw [hx2.out,if_neg (by omega)]; rfl,hw1⟩
 ·have hk : ¬ f.kind=1 := ‹_›
  go_ret
  exact ⟨by rw [hx.out,val_7 ‹_› (.inr ⟨hk,someText ‹_›⟩)]; rfl,below2 _ _ _⟩
 ·have hk : ¬ f.kind=1 := ‹_›
  have h2:=noText hk ‹_›
  have h3:20 < (v.nk:Int) := ‹_›
  go_ret
  exact ⟨by rw [hx.out,val_4 ‹_› (by omega) (by omega)]; rfl,below2 _ _ _⟩
 ·have hk : ¬ f.kind=1 := ‹_›
  have h2:=noText hk ‹_›
  have hk2:f.kind=2 := ‹_›
  have h3:1 < (v.nk:Int) := ‹_›
  go_ret
  exact ⟨by rw [hx.out,val_4 ‹_› (by omega) (by omega)]; rfl,below2 _ _ _⟩
 ·have hk : ¬ f.kind=1 := ‹_›
  have h2:=noText hk ‹_›
  have h3:40 < (v.text.size:Int) := ‹_›
  omega
 ·have hk : ¬ f.kind=1 := ‹_›
  have h2:=noText hk ‹_›
  have hk2:f.kind=2 := ‹_›
  have h3:(v.nk:Int)≤1 := ‹_›
  have hx2:Hid (wrongVal f v=if 0≤idx v.nk (fun i => !named (v.K i)) then 6 else 0):=by unfold Hid; rw [hx.out,val_x ‹_› (by omega) (by omega) (by omega)]
  refine (hcall.out _).mono ?_
  rintro e w1 ⟨rfl,hw1⟩
  by_cases h9:0≤idx v.nk (fun i => !named (v.K i))
  ·go_wp2_with fail
   go_ret
   exact ⟨by rw [hx2.out,if_pos h9]; rfl,hw1⟩
  ·go_wp2_with fail
   go_ret
   exact ⟨by rw [hx2.out,if_neg (by omega)]; rfl,hw1⟩
 ·have hk : ¬ f.kind=1 := ‹¬ f.kind=1›
  have h2:=noText hk ‹_›
  have h3:40 < (v.text.size:Int) := ‹_›
  omega
 ·have hk : ¬ f.kind=1 := ‹¬ f.kind=1›
  have h2:=noText hk ‹_›
  have hk2 : ¬ f.kind=2 := ‹_›
  have h3:(v.nk:Int)≤20 := ‹_›
  have hx2:Hid (wrongVal f v=if 0≤idx v.nk (fun i => !named (v.K i)) then 6 else 0):=by unfold Hid; rw [hx.out,val_x ‹_› (by omega) (by omega) (by omega)]
  refine (hcall.out _).mono ?_
  rintro e w1 ⟨rfl,hw1⟩
  by_cases h9:0≤idx v.nk (fun i => !named (v.K i))
  ·go_wp2_with fail
   go_ret
   exact ⟨by rw [hx2.out,if_pos h9]; rfl,hw1⟩
  ·go_wp2_with fail
   go_ret
   exact ⟨by rw [hx2.out,if_neg (by omega)]; rfl,hw1⟩
end Go.Proofs.YtjjggefmmeminacGreat
namespace Go.Proofs.YtjjggefmmeminacGreat
open Go.RowKit Go.Sort Go.PlainAid
theorem Tryz.e129:∀ args w,(callFunc 129 args).run Tryz.prog w = .ok (.enter 129 args) w:=enters_of Tryz.func129 (by kernel_rfl) rfl
theorem Tryz.e106:∀ args w,(callFunc 106 args).run Tryz.prog w = .ok (.enter 106 args) w:=enters_of Tryz.func106 (by kernel_rfl) rfl
set_option maxHeartbeats 400000 in
theorem wrongThing1_any (fa:Option Addr) (nf fcap b1 b2 j:Nat) (F:Nat→LField) (x:LThing) (w:World) (hF:FieldsAt w fa nf F) (hV:ValsAt w x.va x.nv x.V) (hj:j < nf) (hjv:j < x.nv)
  (c1:w.cell? ⟨b1,0,none⟩=some (.slice fa nf fcap)) (c2:w.cell? ⟨b2,2,none⟩=some (.slice x.va x.nv x.vcap)) :
  Calls Tryz.prog 129 #[.int .i64 (j:Int),.pointer (some ⟨b1,0,none⟩),.pointer (some ⟨b2,0,none⟩)] w fun e w'=>e = .returned (.int .i64 (wrongVal (F j) (x.V j)))∧Below w.heap.size w w':=by
 have hj':(j:Int) < (nf:Int):=by omega
 have hjv':(j:Int) < (x.nv:Int):=by omega
 have hj0:(0:Int)≤(j:Int):=by omega
 have hnf:nf≤9223372036854775807:=hF.1
 have hnv:x.nv≤9223372036854775807:=hV.1
 obtain ⟨b,o,rfl,f0,f1,f2,-⟩:=hF.2 j hj
 obtain ⟨b',o',hva,v0,v1,v2,-,-,-,hK⟩:=hV.2 j hjv
 rw [hva] at c2
 clear hF hV hva
 have k1:=cell_regrown c1
 have k2:=cell_regrown c2
 have k3:=cell_regrown f0
 have k4:=cell_regrown f1
 have k5:=cell_regrown f2
 have k6:=cell_regrown v0
 have k7:=cell_regrown v1
 have k8:=cell_regrown v2
 have cF:∀ d os,Calls Tryz.prog 130 #[.agg #[.string (F j).name,.int .i64 (F j).kind,.string (F j).type],.agg #[.string (x.V j).field,.string (x.V j).text,.slice (x.V j).ka (x.V j).nk (x.V j).kcap]] (grow (redrawn w d) os) fun e w''=>e = .returned (.int .i64 (wrongVal (F j) (x.V j)))∧∃ p:Regrown,w''=grow (redrawn w p.d) p.os:=fun d os=>Calls.regrown_of (wrongVal_any (F j) (x.V j) _ (hK.kept (below_regrown w d os)))
 clear hK c1 c2 f0 f1 f2 v0 v1 v2
 go_enter Tryz.func129,Tryz.ntmps129
 go_wp2
 refine wp_region_quiet_below (by kernel_rfl) (by kernel_rfl) ?_
 repeat (go_big_quiet_step (first | exact cF _ _))
 refine wpQuiet_nil ?_
 intro _ hw'
 obtain ⟨⟨dq,osq⟩,hw''⟩:=hw'
 subst hw''
 go_wp2
 go_ret
 exact ⟨rfl,below_regrown w dq osq⟩
def wrongThing (n:Nat) (T:Nat→LType) (X:Nat→LThing) (i:Nat):Int :=
 if find n T (X i).type < 0 then 5
 else if !named (X i).key || hasThing i X (X i).type (X i).key then 6
 else if (X i).nv≠(T (find n T (X i).type).toNat).nf then 4
 else (fault (T (find n T (X i).type).toNat).nf (fun j=>wrongVal ((T (find n T (X i).type).toNat).F j) ((X i).V j))).1
def wrongThings (n:Nat) (T:Nat→LType) (m:Nat) (X:Nat→LThing):Int × Int:=if 60 < m then (4,0) else fault m (wrongThing n T X)
set_option maxHeartbeats 1000000 in
theorem wrongThing_any (a xa:Option Addr) (n cap m xcap i:Nat) (T:Nat→LType) (X:Nat→LThing) (w:World) (hT:TypesAt w a n T) (hX:ThingsAt w xa m X) (hxcap:m≤xcap) (hi:i < m) :
  Calls Tryz.prog 107 #[.slice a n cap,.slice xa m xcap,.int .i64 (i:Int)] w fun e w'=>e = .returned (.int .i64 (wrongThing n T X i))∧Below w.heap.size w w':=by
 have hmf:∀ (fn:Fn) (first cap:Array Value) (w:World),(Instr.makeFunc fn first cap).run Tryz.prog w = .ok (.func fn first cap) w:=fun _ _ _ _=>rfl
 have hm:m≤9223372036854775807:=hX.1
 have hn:n≤9223372036854775807:=hT.1
 obtain ⟨b,o,rfl,x0,x1,x2,-,hs0,hs1,hV⟩:=hX.2 i hi
 have HT:Hid (TypesAt w a n T):=hT
 have HX:Hid (ThingsAt w (some ⟨b,o,none⟩) m X):=hX
 have HV:Hid (ValsAt w (X i).va (X i).nv (X i).V):=hV
 clear hT hX hV
 have hi':(i:Int) < (m:Int):=by omega
 have hi0:(0:Int)≤(i:Int):=by omega
 have hic:(i:Int)≤(xcap:Int):=by omega
 generalize hW:w.alloc (Obj.cells #[Value.string (X i).type,Value.string (X i).key,Value.slice (X i).va (X i).nv (X i).vcap] 62)=W
 have hB:Below w.heap.size w W:=by rw [← hW]; exact below1 _ _
 have hz:w.heap.size < W.heap.size:=by rw [← hW]; simp
 have k0:W.cell? ⟨w.heap.size,0,none⟩=some (.string (X i).type):=by rw [← hW,World.cell?_alloc_at _ _ _ _ rfl]; rfl
 have k1:W.cell? ⟨w.heap.size,1,none⟩=some (.string (X i).key):=by rw [← hW,World.cell?_alloc_at _ _ _ _ rfl]; rfl
 have k2:W.cell? ⟨w.heap.size,2,none⟩=some (.slice (X i).va (X i).nv (X i).vcap):=by rw [← hW,World.cell?_alloc_at _ _ _ _ rfl]; rfl
 go_enter Tryz.func107,Tryz.ntmps107
 go_wp2_with fail
 clear hW x0 x1 x2
 refine (find_any a n cap T (X i).type W (HT.out.kept hB)).mono ?_
 rintro e w1 ⟨rfl,hw1⟩
 have hB1:Below w.heap.size w w1:=hB.trans (hw1.mono hB.size)
 have hz1:w.heap.size < w1.heap.size:=Nat.lt_of_lt_of_le hz hw1.size
 have l0:=keptCell hw1 k0
 have l1:=keptCell hw1 k1
 have l2:=keptCell hw1 k2
 clear k0 k1 k2 hB hz hw1
 by_cases h5:find n T (X i).type < 0
 ·have hfin:Hid (wrongThing n T X i=5):=by unfold wrongThing Hid; rw [if_pos h5]
  go_wp2_with fail
  go_ret
  exact ⟨by rw [hfin.out]; rfl,hB1⟩
 obtain ⟨t,ht,hft⟩:∃ t:Nat,t < n∧find n T (X i).type=(t:Int):=by
  rcases idx_cases n (fun j=>eqs (T j).name (X i).type) with ⟨h,_⟩ | ⟨t,ht,h,_⟩
  ·exact absurd (show find n T (X i).type < 0 by unfold find; omega) h5
  ·exact ⟨t,ht,h⟩
 have hfin:Hid (wrongThing n T X i=if !named (X i).key || hasThing i X (X i).type (X i).key then 6 else if (X i).nv≠(T t).nf then 4 else (fault (T t).nf (fun j=>wrongVal ((T t).F j) ((X i).V j))).1):=by
  unfold wrongThing Hid; rw [if_neg h5,hft,Int.toNat_natCast]
 rw [hft]
 clear hft h5
 have ht0 : ¬ (t:Int) < 0:=by omega
 have ht':(t:Int) < (n:Int):=by omega
 go_wp2_with fail
 have r0:=cell_regrown l0
 have r1:=cell_regrown l1
 have cN:∀ d os,Calls Tryz.prog 19 #[.string (X i).key] (grow (redrawn w1 d) os) fun e w''=>e = .returned (.bool (named (X i).key))∧∃ p:Regrown,w''=grow (redrawn w1 p.d) p.os:=fun d os=>Calls.regrown_of (named_any _ _ hs1)
 have cH:∀ d os,Calls Tryz.prog 128 #[.slice (some ⟨b,o,none⟩) i xcap,.string (X i).type,.string (X i).key] (grow (redrawn w1 d) os) fun e w''=>e = .returned (.bool (hasThing i X (X i).type (X i).key))∧∃ p:Regrown,w''=grow (redrawn w1 p.d) p.os:=fun d os=>Calls.regrown_of (hasThing_any _ _ _ X _ _ _ (((HX.out.less (Nat.le_of_lt hi)).kept hB1).kept (below_regrown w1 d os)))
 have hend:Hid (∀ d os,Below w.heap.size w (grow (redrawn w1 d) os)):=fun d os=>hB1.trans ((below_regrown w1 d os).mono hB1.size)
 cases h1:named (X i).key
 ·have hfin1:Hid (wrongThing n T X i=6):=by unfold Hid; rw [hfin.out]; simp [h1]
  rw [h1] at cN
  refine wp_region_quiet_below (by kernel_rfl) (by kernel_rfl) ?_
  repeat (go_big_quiet_step (first | exact cN _ _ | exact cH _ _))
  refine wpQuiet_nil ?_
  intro _ hw'
  obtain ⟨⟨dq,osq⟩,hw''⟩:=hw'
  subst hw''
  go_wp2_with fail
  go_ret
  exact ⟨by rw [hfin1.out]; rfl,hend.out _ _⟩
 cases h2:hasThing i X (X i).type (X i).key
 case true =>
  have hfin1:Hid (wrongThing n T X i=6):=by unfold Hid; rw [hfin.out]; simp [h2]
  rw [h1] at cN
  rw [h2] at cH
  refine wp_region_quiet_below (by kernel_rfl) (by kernel_rfl) ?_
  repeat (go_big_quiet_step (first | exact cN _ _ | exact cH _ _))
  refine wpQuiet_nil ?_
  intro _ hw'
  obtain ⟨⟨dq,osq⟩,hw''⟩:=hw'
  subst hw''
  go_wp2_with fail
  go_ret
  exact ⟨by rw [hfin1.out]; rfl,hend.out _ _⟩
 case false =>
  have hfin1:Hid (wrongThing n T X i=if (X i).nv≠(T t).nf then 4 else (fault (T t).nf (fun j=>wrongVal ((T t).F j) ((X i).V j))).1):=by unfold Hid; rw [hfin.out]; simp [h1,h2]
  rw [h1] at cN
  rw [h2] at cH
  clear h1 h2 hfin
  refine wp_region_quiet_below (by kernel_rfl) (by kernel_rfl) ?_
  repeat (go_big_quiet_step (first | exact cN _ _ | exact cH _ _))
  refine wpQuiet_nil ?_
  intro _ hw'
  obtain ⟨⟨dq,osq⟩,hw''⟩:=hw'
  have hB2:Below w1.heap.size w1 (grow (redrawn w1 dq) osq):=below_regrown w1 dq osq
  rw [← hw''] at hB2
  clear hw'' cN cH r0 r1 hend
  rename_i w2
  have hB3:Below w.heap.size w w2:=hB1.trans (hB2.mono hB1.size)
  have hz2:w.heap.size < w2.heap.size:=Nat.lt_of_lt_of_le hz1 hB2.size
  have m2:=keptCell hB2 l2
  clear l0 l1 l2 hB1 hB2 hz1
  have HT2:Hid (TypesAt w2 a n T):=HT.out.kept hB3
  obtain ⟨b2,o2,ha,-,t1,-,-,hF⟩:=HT2.out.2 t ht
  have HF:Hid (FieldsAt w2 (T t).fa (T t).nf (T t).F):=hF
  have HV2:Hid (ValsAt w2 (X i).va (X i).nv (X i).V):=HV.out.kept hB3
  have hnf:(T t).nf≤9223372036854775807:=hF.1
  clear hF HT2 HT HX HV
  subst ha
  by_cases h4:(X i).nv=(T t).nf
  ·have h4b:(((X i).nv:Int) != ((T t).nf:Int))=false:=by simp [h4]
   have hfin2:Hid (wrongThing n T X i=(fault (T t).nf (fun j=>wrongVal ((T t).F j) ((X i).V j))).1):=by unfold Hid; rw [hfin1.out,if_neg (by omega)]
   have h4h:Hid ((X i).nv=(T t).nf):=h4
   clear h4
   go_wp2_with fail
   refine (firstFault_any (T t).nf hnf 129 _ (fun j=>wrongVal ((T t).F j) ((X i).V j)) _ Tryz.e129 ?_).mono ?_
   ·intro j hj w3 hw3
    have hB4:Below w2.heap.size w2 w3:=(below1 w2 (.cells #[.slice (T t).fa (T t).nf (T t).fcap] 68)).trans (hw3.mono (below1 w2 _).size)
    refine wrongThing1_any (T t).fa (T t).nf (T t).fcap _ _ j (T t).F (X i) w3 (HF.out.kept hB4) (HV2.out.kept hB4) hj (by rw [h4h.out]; exact hj) (keptCell hw3 ?_) (keptCell hB4 m2)
    rw [World.cell?_alloc_at _ _ _ _ rfl]; rfl
   rintro e w3 ⟨rfl,hw3⟩
   have hB4:Below w2.heap.size w2 w3:=(below1 w2 (.cells #[.slice (T t).fa (T t).nf (T t).fcap] 68)).trans (hw3.mono (below1 w2 _).size)
   have hB5:Below w.heap.size w w3:=hB3.trans (hB4.mono hB3.size)
   clear hw3 hB4
   generalize fault (T t).nf (fun j=>wrongVal ((T t).F j) ((X i).V j))=r at *
   unfold faultV
   have hfd:=field0_run r.1 r.2
   go_wp2_with fail
   go_ret
   exact ⟨by rw [hfin2.out]; rfl,hB5⟩
  ·have h4b:(((X i).nv:Int) != ((T t).nf:Int))=true:=by rw [bne_iff_ne]; omega
   have hfin2:Hid (wrongThing n T X i=4):=by unfold Hid; rw [hfin1.out,if_pos h4]
   clear h4
   go_wp2_with fail
   go_ret
   exact ⟨by rw [hfin2.out]; rfl,hB3.trans ((below1 w2 _).mono hB3.size)⟩
set_option maxHeartbeats 400000 in
theorem things1_any (a xa:Option Addr) (n cap m xcap i b1 b2:Nat) (T:Nat→LType) (X:Nat→LThing) (w:World) (hT:TypesAt w a n T) (hX:ThingsAt w xa m X) (hxcap:m≤xcap) (hi:i < m)
  (c1:w.cell? ⟨b1,0,none⟩=some (.slice a n cap)) (c2:w.cell? ⟨b2,0,none⟩=some (.slice xa m xcap)) :
  Calls Tryz.prog 106 #[.int .i64 (i:Int),.pointer (some ⟨b1,0,none⟩),.pointer (some ⟨b2,0,none⟩)] w fun e w'=>e = .returned (.int .i64 (wrongThing n T X i))∧Below w.heap.size w w':=by
 have hc:=wrongThing_any a xa n cap m xcap i T X w hT hX hxcap hi
 clear hT hX
 go_enter Tryz.func106,Tryz.ntmps106
 go_wp2_with fail
 refine hc.mono ?_
 rintro e w1 ⟨rfl,hw1⟩
 go_wp2_with fail
 go_ret
 exact ⟨rfl,hw1⟩
set_option maxHeartbeats 400000 in
theorem things_any (a xa:Option Addr) (n cap m xcap:Nat) (T:Nat→LType) (X:Nat→LThing) (w:World) (hT:TypesAt w a n T) (hX:ThingsAt w xa m X) (hxcap:m≤xcap) :
  Calls Tryz.prog 83 #[.slice a n cap,.slice xa m xcap] w fun e w'=>e = .returned (faultV (wrongThings n T m X))∧Below w.heap.size w w':=by
 have hmf:∀ (fn:Fn) (first cap:Array Value) (w:World),(Instr.makeFunc fn first cap).run Tryz.prog w = .ok (.func fn first cap) w:=fun _ _ _ _=>rfl
 have hm:m≤9223372036854775807:=hX.1
 have HT:Hid (TypesAt w a n T):=hT
 have HX:Hid (ThingsAt w xa m X):=hX
 clear hT hX
 by_cases h:60 < (m:Int)
 ·have hfin:Hid (wrongThings n T m X=(4,0)):=by unfold wrongThings Hid; rw [if_pos (by omega)]
  go_enter Tryz.func83,Tryz.ntmps83
  go_wp2_with fail
  exact bodyPost_ret (v:=.agg #[.int .i64 4,.int .i64 0]) (by simp [results,Tryz.results83,go_sem]) rfl ⟨by rw [hfin.out]; rfl,below3 _ _ _ _⟩
 ·have hfin:Hid (wrongThings n T m X=fault m (wrongThing n T X)):=by unfold wrongThings Hid; rw [if_neg (by omega)]
  go_enter Tryz.func83,Tryz.ntmps83
  go_wp2_with fail
  generalize hW:(((w.alloc (Obj.cells #[Value.slice a n cap] 36)).alloc (Obj.cells #[Value.slice xa m xcap] 38)).alloc (Obj.cells #[Value.int IntKind.i64 0,Value.int IntKind.i64 0] 45))=W
  have hB:Below w.heap.size w W:=by rw [← hW]; exact below3 _ _ _ _
  have hz:w.heap.size + 2 < W.heap.size:=by rw [← hW]; simp
  have c0:W.cell? ⟨w.heap.size,0,none⟩=some (.slice a n cap):=by rw [← hW,World.cell?_alloc_past _ _ _ (by simp; omega),World.cell?_alloc_past _ _ _ (by simp),World.cell?_alloc_at _ _ _ _ rfl]; rfl
  have c1:W.cell? ⟨w.heap.size + 1,0,none⟩=some (.slice xa m xcap):=by rw [← hW,World.cell?_alloc_past _ _ _ (by simp),World.cell?_alloc_at _ _ _ _ (by simp)]; rfl
  have r0:W.cell? ⟨w.heap.size + 2,0,none⟩=some (.int .i64 0):=by rw [← hW,World.cell?_alloc_at _ _ _ _ (by simp)]; rfl
  have r1:W.cell? ⟨w.heap.size + 2,1,none⟩=some (.int .i64 0):=by rw [← hW,World.cell?_alloc_at _ _ _ _ (by simp)]; rfl
  have f0:W.frozen? ⟨w.heap.size + 2,0,none⟩=false:=by rw [← hW]; exact World.frozen?_alloc_at _ _ _ _ (by simp)
  have f1:W.frozen? ⟨w.heap.size + 2,1,none⟩=false:=by rw [← hW]; exact World.frozen?_alloc_at _ _ _ _ (by simp)
  clear hW
  refine (firstFault_any m hm 106 _ (wrongThing n T X) _ Tryz.e106 ?_).mono ?_
  ·intro i hi w1 hw1
   have hB1:=hB.trans (hw1.mono hB.size)
   exact things1_any a xa n cap m xcap i _ _ T X w1 (HT.out.kept hB1) (HX.out.kept hB1) hxcap hi (keptCell hw1 c0) (keptCell hw1 c1)
  rintro e w1 ⟨rfl,hw1⟩
  have s0:=keptCell hw1 r0
  have s1:=keptCell hw1 r1
  have g0:=(hw1.frozen (p:=⟨w.heap.size + 2,0,none⟩) hz).trans f0
  have g1:=(hw1.frozen (p:=⟨w.heap.size + 2,1,none⟩) hz).trans f1
  have hB1:Below w.heap.size w w1:=hB.trans (hw1.mono hB.size)
  have hz1:w.heap.size + 2 < w1.heap.size:=Nat.lt_of_lt_of_le hz hw1.size
  clear hw1 c0 c1 r0 r1 f0 f1 hB hz
  generalize fault m (wrongThing n T X)=r at *
  unfold faultV
  go_wp2_with fail
  exact bodyPost_ret (v:=.agg #[.int .i64 r.1,.int .i64 r.2]) (by simp [results,Tryz.results83,go_sem,s0,s1]) rfl ⟨by rw [hfin.out]; rfl,(hB1.setCell (by simp; omega) _).setCell (by simp; omega) _⟩
end Go.Proofs.YtjjggefmmeminacGreat
