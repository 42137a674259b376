import Derived.Test.YtjjggefmmeminacGreatJMg
namespace Go.Proofs.YtjjggefmmeminacGreat
open Go.RowKit Go.Sort Go.PlainAid
theorem Tryz.e65:∀ args w,(callFunc 65 args).run Tryz.prog w = .ok (.enter 65 args) w:=enters_of Tryz.func65 (by kernel_rfl) rfl
set_option maxRecDepth 100000 in
set_option maxHeartbeats 400000 in
theorem mfind1_any (bn n1 c1 n2 c2 n3 c3:Nat) (a1 a2 a3:Option Addr) (name s:ByteArray) (w:World) (hm:w.cell? ⟨bn,0,none⟩=some (.string name)) :
  Calls Tryz.prog 65 #[.agg #[.string s,.slice a1 n1 c1,.slice a2 n2 c2,.slice a3 n3 c3],.pointer (some ⟨bn,0,none⟩)] w fun e w'=>e = .returned (.bool (eqs s name))∧Below w.heap.size w w':=by
 have hbn:bn < w.heap.size:=block_lt_of_cell hm
 go_enter Tryz.func65,Tryz.ntmps65
 go_wp2
 go_ret
 exact ⟨by rw [← eqs_eq]; rfl,below1 _ _⟩
set_option maxRecDepth 100000 in
set_option maxHeartbeats 800000 in
theorem mindex_any (Z:Nat→Prop) (bn:Nat) (v:Value) (L:List PPart) (rv:Nat→Nat→Value) (name:ByteArray) (w:World) (hP:Parts Z w v L rv) (hm:w.cell? ⟨bn,0,none⟩=some (.string name)) :
  Calls Tryz.prog 64 #[v,.func (.func 65) #[] #[.pointer (some ⟨bn,0,none⟩)]] w fun e w'=>e = .returned (.int .i64 (mfind L name))∧Below w.heap.size w w':=by
 have hn:L.length≤9223372036854775807:=hP.nmax
 obtain ⟨a,cap,rfl,hcap⟩:=hP.slice
 have HP:=Hid.intro hP
 have eK:=Tryz.e65
 clear hP
 go_enter Tryz.func64,Tryz.ntmps64
 go_wp2_with fail
 go_loopw [8] (fun i wr => ∃ k:Nat,k≤L.length∧i = .int .i64 k∧Hid (∀ j,j < k→eqs (nth L j).name name=false)∧Below w.heap.size w wr) (fun i _=>L.length - (intOf i).toNat)
 case atStart=>exact ⟨0,Nat.zero_le _,rfl,(fun j hj=>absurd hj (Nat.not_lt_zero _)),Below.refl _ _⟩
 case round =>
  obtain ⟨k,hk,rfl,hb,hw⟩:=hrel
  by_cases hlt:k < L.length
  ·obtain ⟨g,cap',a1,c1,a2,c2,a3,c3,hv,-,-,-,k0,k1,k2,k3⟩:=(HP.out.kept' hw).aggs hlt
   cases hv
   have hlt':(k:Int) < (L.length:Int):=by omega
   have hk0:(0:Int)≤(k:Int):=by omega
   have hcl:=mfind1_any bn (nth L k).fs.length c1 (nth L k).os.length c2 (nth L k).hs.length c3 a1 a2 a3 name (nth L k).name wr (keptCell hw hm)
   go_wp2_with fail
   refine hcl.mono ?_
   clear hcl
   rintro e w1 ⟨rfl,hw1⟩
   have hw2:Below w.heap.size w w1:=hw.trans (hw1.mono hw.size)
   clear hw1 k0 k1 k2 k3
   cases hpk:eqs (nth L k).name name with
   | true =>
    have hfin:Hid (mfind L name=(k:Int)):=idx_hit hlt hpk hb
    clear hpk
    go_wp2_with fail
    go_ret
    exact ⟨by rw [hfin.out]; rfl,hw2⟩
   | false =>
    have hb2:Hid (∀ j,j < k + 1→eqs (nth L j).name name=false):=fun j hj=>by
     rcases Nat.lt_succ_iff_lt_or_eq.1 hj with h | h
     ·exact hb j h
     ·rw [h]; exact hpk
    clear hpk
    go_wp2_with fail
    go_roundw
    case rel=>exact ⟨k + 1,by omega,by go_num,hb2,hw2⟩
    case measure=>simp [intOf]; omega
  ·have hfin:Hid (mfind L name = -1):=idx_none (fun j hj=>hb j (by omega))
   go_wp2_with fail
   go_ret
   exact ⟨by rw [hfin.out]; rfl,hw⟩
set_option maxRecDepth 100000 in
set_option maxHeartbeats 400000 in
theorem mfind_any (Z:Nat→Prop) (v:Value) (L:List PPart) (rv:Nat→Nat→Value) (name:ByteArray) (w:World) (hP:Parts Z w v L rv) :
  Calls Tryz.prog 42 #[v,.string name] w fun e w'=>e = .returned (.int .i64 (mfind L name))∧Below w.heap.size w w':=by
 have hmf:∀ (fn:Fn) (first cap:Array Value) (w:World),(Instr.makeFunc fn first cap).run Tryz.prog w = .ok (.func fn first cap) w:=fun _ _ _ _=>rfl
 have HP:=Hid.intro hP
 obtain ⟨a,cap,rfl,hcap⟩:=hP.slice
 clear hP
 go_enter Tryz.func42,Tryz.ntmps42
 go_wp2_with fail
 have hB:=below1 w (Obj.cells #[Value.string name] 9)
 refine (mindex_any Z w.heap.size _ L rv name _ (HP.out.kept' hB) ?_).mono ?_
 ·rw [World.cell?_alloc_at _ _ _ _ rfl]; rfl
 ·rintro e w1 ⟨rfl,hw1⟩
  have hB1:=hB.trans (hw1.mono hB.size)
  clear hw1 hB
  go_wp2_with fail
  go_ret
  exact ⟨rfl,hB1⟩
end Go.Proofs.YtjjggefmmeminacGreat
