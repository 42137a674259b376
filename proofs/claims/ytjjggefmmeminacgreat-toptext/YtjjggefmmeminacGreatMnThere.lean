import Derived.Test.YtjjggefmmeminacGreatJFi
import Derived.Test.YtjjggefmmeminacGreatMnOut
import Derived.Test.YtjjggefmmeminacGreatMgFindF
namespace Go.Proofs.YtjjggefmmeminacGreat
open Go.RowKit Go.Sort Go.PlainAid
theorem Tryz.e82:∀ args w,(callFunc 82 args).run Tryz.prog w = .ok (.enter 82 args) w:=enters_of Tryz.func82 (by kernel_rfl) rfl
theorem Tryz.e103:∀ args w,(callFunc 103 args).run Tryz.prog w = .ok (.enter 103 args) w:=enters_of Tryz.func103 (by kernel_rfl) rfl
structure Env (w:World) (pv vv:Value) (n:Nat) (V:Nat→LServ) (L:List PPart):Prop where
 parts:∃ Z rv,Parts Z w pv L rv
 finds:∃ bm bl m la cap,vv=findV bm bl∧FindsM w bm bl m la n cap V∧ServsAt w la n V
theorem Env.kept {w w':World} {pv vv:Value} {n:Nat} {V:Nat→LServ} {L:List PPart} (h:Env w pv vv n V L) (hB:Below w.heap.size w w'):Env w' pv vv n V L :=
 ⟨let ⟨Z,rv,hp⟩:=h.parts; ⟨Z,rv,hp.kept' hB⟩,let ⟨bm,bl,m,la,cap,e,hf,hs⟩:=h.finds; ⟨bm,bl,m,la,cap,e,hf.kept hB,hs.kept hB⟩⟩
theorem Env.vals {w:World} {pv vv:Value} {n:Nat} {V:Nat→LServ} {L:List PPart} (h:Env w pv vv n V L):∃ bm bl,vv=findV bm bl∧∀ w1,Below w.heap.size w w1→∀ (s:Nat) (ty fld key:ByteArray),s < n→Small ty→Small key →
  Calls Tryz.prog 53 #[.agg #[.int .i64 (s:Int),.string ty,.string fld],.string key,.pointer (some ⟨bm,0,none⟩),.pointer (some ⟨bl,0,none⟩)] w1 fun e w'=>e = .returned (.tuple #[valsV (V s) ty key,.bool (hasT (V s) ty key)])∧Below w1.heap.size w1 w':=by
 obtain ⟨bm,bl,m,la,cap,e,hf,hs⟩:=h.finds
 exact ⟨bm,bl,e,fun w1 hw1 s ty fld key h1 h2 h3=>mfinder1_any bm bl m la n cap V s ty fld key w1 (hs.kept hw1) h1 h2 h3 (hf.kept hw1)⟩
set_option maxRecDepth 100000 in
set_option maxHeartbeats 400000 in
theorem there1_any (bw bk s n:Nat) (V:Nat→LServ) (L:List PPart) (pv vv:Value) (o:POwner) (key:ByteArray) (w:World) (hE:Env w pv vv n V L) (hw:w.cell? ⟨bw,1,none⟩=some vv) (hk:w.cell? ⟨bk,0,none⟩=some (.string key)) (hs:o.svc=(s:Int)) (hsn:s < n) (ht:Small o.type) (hks:Small key) :
  Calls Tryz.prog 82 #[.agg #[.int .i64 o.svc,.string o.type,.string o.field],.pointer (some ⟨bw,0,none⟩),.pointer (some ⟨bk,0,none⟩)] w fun e w'=>e = .returned (.bool (hasT (V s) o.type key))∧Below w.heap.size w w':=by
 obtain ⟨bm,bl,e,hf⟩:=hE.vals
 subst e
 rw [hs]
 have hcl:=hf (w.alloc (Obj.cells #[.int .i64 (s:Int),.string o.type,.string o.field] 118)) (below1 _ _) s o.type o.field key hsn ht hks
 unfold findV at hw
 have hbw:bw < w.heap.size:=block_lt_of_cell hw
 have hbk:bk < w.heap.size:=block_lt_of_cell hk
 clear hE hf hs
 go_enter Tryz.func82,Tryz.ntmps82
 go_wp2_with fail
 refine hcl.mono ?_
 clear hcl
 rintro e w1 ⟨rfl,hw1⟩
 have HB:Hid (Below w.heap.size w w1):=(below1 w _).trans (hw1.mono (below1 w _).size)
 clear hw1
 go_wp2_with fail
 go_ret
 exact ⟨rfl,HB.out⟩
def PredO (K:Nat) (caps:Array Value) (w:World) (n:Nat) (O:Nat→POwner) (p:Nat→Bool):Prop :=
 ∀ i:Nat,i < n→∀ w1:World,Below w.heap.size w w1→Calls Tryz.prog K (#[.agg #[.int .i64 (O i).svc,.string (O i).type,.string (O i).field]] ++ caps) w1 fun e w'=>e = .returned (.bool (p i))∧Below w1.heap.size w1 w'
set_option maxRecDepth 100000 in
set_option maxHeartbeats 800000 in
theorem oindex_any (a:Option Addr) (n cap K:Nat) (caps:Array Value) (O:Nat→POwner) (p:Nat→Bool) (w:World) (eK:∀ args w,(callFunc K args).run Tryz.prog w = .ok (.enter K args) w) (hO:OwnersAt w a n O) (hp:PredO K caps w n O p) :
  Calls Tryz.prog 104 #[.slice a n cap,.func (.func K) #[] caps] w fun e w'=>e = .returned (.int .i64 (idx n p))∧Below w.heap.size w w':=by
 have hn:n≤9223372036854775807:=hO.1
 have HO:=Hid.intro hO
 have HP:=Hid.intro hp
 clear hO hp
 go_enter Tryz.func104,Tryz.ntmps104
 go_wp2_with fail
 go_loopw [8] (fun i wr => ∃ k:Nat,k≤n∧i = .int .i64 k∧Hid (∀ j,j < k→p j=false)∧Below w.heap.size w wr) (fun i _=>n - (intOf i).toNat)
 case atStart=>exact ⟨0,Nat.zero_le _,rfl,(fun j hj=>absurd hj (Nat.not_lt_zero _)),Below.refl _ _⟩
 case round =>
  obtain ⟨k,hk,rfl,hb,hw⟩:=hrel
  by_cases hlt:k < n
  ·obtain ⟨g,o,rfl,k0,k1,k2,-⟩:=(HO.out.kept hw).2 k hlt
   have hlt':(k:Int) < (n:Int):=by omega
   have hk0:(0:Int)≤(k:Int):=by omega
   have hcl:=HP.out k hlt wr hw
   go_wp2_with fail
   refine hcl.mono ?_
   clear hcl
   rintro e w1 ⟨rfl,hw1⟩
   have hw2:Below w.heap.size w w1:=hw.trans (hw1.mono hw.size)
   clear hw1 k0 k1 k2
   cases hpk:p k with
   | true =>
    have hfin:Hid (idx n p=(k:Int)):=idx_hit hlt hpk hb
    clear hpk
    go_wp2_with fail
    go_ret
    exact ⟨by rw [hfin.out]; rfl,hw2⟩
   | false =>
    have hb2:Hid (∀ j,j < k + 1→p j=false):=fun j hj=>by
     rcases Nat.lt_succ_iff_lt_or_eq.1 hj with h | h
     ·exact hb j h
     ·rw [h]; exact hpk
    clear hpk
    go_wp2_with fail
    go_roundw
    case rel=>exact ⟨k + 1,by omega,by go_num,hb2,hw2⟩
    case measure=>simp [intOf]; omega
  ·have hfin:Hid (idx n p = -1):=idx_none (fun j hj=>hb j (by omega))
   go_wp2_with fail
   go_ret
   exact ⟨by rw [hfin.out]; rfl,hw⟩
set_option maxRecDepth 100000 in
set_option maxHeartbeats 400000 in
theorem ocontains_any (a:Option Addr) (n cap K:Nat) (caps:Array Value) (O:Nat→POwner) (p:Nat→Bool) (w:World) (eK:∀ args w,(callFunc K args).run Tryz.prog w = .ok (.enter K args) w) (hO:OwnersAt w a n O) (hp:PredO K caps w n O p) :
  Calls Tryz.prog 81 #[.slice a n cap,.func (.func K) #[] caps] w fun e w'=>e = .returned (.bool (decide (0≤idx n p)))∧Below w.heap.size w w':=by
 have hcl:=oindex_any a n cap K caps O p w eK hO hp
 clear hO hp
 generalize idx n p=x at *
 go_enter Tryz.func81,Tryz.ntmps81
 go_wp2_with fail
 refine hcl.mono ?_
 clear hcl
 rintro e w1 ⟨rfl,hw1⟩
 go_wp2_with fail
 go_ret
 exact ⟨rfl,hw1⟩
set_option maxRecDepth 100000 in
set_option maxHeartbeats 400000 in
theorem mthere_any (n:Nat) (V:Nat→LServ) (L:List PPart) (pa:Option Addr) (pn pc:Nat) (vv:Value) (p:PPart) (ha:Option Addr) (hc:Nat) (key:ByteArray) (w:World) (hE:Env w (.slice pa pn pc) vv n V L) (hH:OwnersAt w ha p.hs.length (hsN p)) (hR:PartR n V p) (hks:Small key) :
  Calls Tryz.prog 56 #[.agg #[.slice pa pn pc,vv],.slice ha p.hs.length hc,.string key] w fun e w'=>e = .returned (.bool (thereP V p key))∧Below w.heap.size w w':=by
 have hmf:∀ (fn:Fn) (first cap:Array Value) (w:World),(Instr.makeFunc fn first cap).run Tryz.prog w = .ok (.func fn first cap) w:=fun _ _ _ _=>rfl
 obtain ⟨bm,bl,hvv,-⟩:=hE.vals
 subst hvv
 unfold findV
 generalize hW:(w.alloc (Obj.cells #[.slice pa pn pc,.func (.func 53) #[] #[.pointer (some ⟨bm,0,none⟩),.pointer (some ⟨bl,0,none⟩)]] 98)).alloc (Obj.cells #[.string key] 9)=W
 have hBW:Below w.heap.size w W:=by rw [← hW]; exact below2 _ _ _
 have hc1:W.cell? ⟨w.heap.size,1,none⟩=some (findV bm bl):=by rw [← hW,World.cell?_alloc_past _ _ _ (by simp),World.cell?_alloc_at _ _ _ _ rfl]; rfl
 have hc2:W.cell? ⟨w.heap.size + 1,0,none⟩=some (.string key):=by rw [← hW,World.cell?_alloc_at _ _ _ _ (by simp)]; rfl
 have hcl:=ocontains_any ha p.hs.length hc 82 #[.pointer (some ⟨w.heap.size,0,none⟩),.pointer (some ⟨w.heap.size + 1,0,none⟩)] (hsN p) (fun i=>hasT (V (hsN p i).svc.toNat) (hsN p i).type key) W Tryz.e82 (hH.kept hBW) (fun i hi w1 hw1=>by
  obtain ⟨s,hs,hsn⟩:=hR.homes i hi
  obtain ⟨b,o,-,-,-,-,hg⟩:=hH.2 i hi
  have:=there1_any w.heap.size (w.heap.size + 1) s n V L (.slice pa pn pc) (findV bm bl) (hsN p i) key w1 ((hE.kept hBW).kept hw1) (keptCell hw1 hc1) (keptCell hw1 hc2) hs hsn hg.1 hks
  show Calls Tryz.prog _ _ w1 fun e w'=>e = .returned (.bool (hasT (V (hsN p i).svc.toNat) (hsN p i).type key))∧_
  rw [show V (hsN p i).svc.toNat=V s by rw [hs,Int.toNat_natCast]]
  exact this)
 rw [there_idx] at hcl
 have HB:=Hid.intro hBW
 clear hE hH hR hBW hc1 hc2
 go_enter Tryz.func56,Tryz.ntmps56
 go_wp2_with fail
 refine hcl.mono ?_
 clear hcl
 rintro e w1 ⟨rfl,hw1⟩
 have HB1:Hid (Below w.heap.size w w1):=HB.out.trans (hw1.mono HB.out.size)
 clear hw1
 go_wp2_with fail
 go_ret
 exact ⟨rfl,HB1.out⟩
set_option maxRecDepth 100000 in
set_option maxHeartbeats 400000 in
theorem valOf1_any (bn:Nat) (v:LVal) (name:ByteArray) (w:World) (hm:w.cell? ⟨bn,0,none⟩=some (.string name)) :
  Calls Tryz.prog 103 #[.agg #[.string v.field,.string v.text,.slice v.ka v.nk v.kcap],.pointer (some ⟨bn,0,none⟩)] w fun e w'=>e = .returned (.bool (eqs v.field name))∧Below w.heap.size w w':=by
 have hbn:bn < w.heap.size:=block_lt_of_cell hm
 go_enter Tryz.func103,Tryz.ntmps103
 go_wp2
 go_ret
 exact ⟨by rw [← eqs_eq]; rfl,below1 _ _⟩
set_option maxRecDepth 100000 in
set_option maxHeartbeats 800000 in
theorem vindex_any (a:Option Addr) (n cap bn:Nat) (X:Nat→LVal) (name:ByteArray) (w:World) (hV:ValsAt w a n X) (hm:w.cell? ⟨bn,0,none⟩=some (.string name)) :
  Calls Tryz.prog 102 #[.slice a n cap,.func (.func 103) #[] #[.pointer (some ⟨bn,0,none⟩)]] w fun e w'=>e = .returned (.int .i64 (idx n (fun j=>eqs (X j).field name)))∧Below w.heap.size w w':=by
 have hn:n≤9223372036854775807:=hV.1
 have HV:=Hid.intro hV
 have eK:=Tryz.e103
 clear hV
 go_enter Tryz.func102,Tryz.ntmps102
 go_wp2_with fail
 go_loopw [8] (fun i wr => ∃ k:Nat,k≤n∧i = .int .i64 k∧Hid (∀ j,j < k→eqs (X j).field name=false)∧Below w.heap.size w wr) (fun i _=>n - (intOf i).toNat)
 case atStart=>exact ⟨0,Nat.zero_le _,rfl,(fun j hj=>absurd hj (Nat.not_lt_zero _)),Below.refl _ _⟩
 case round =>
  obtain ⟨k,hk,rfl,hb,hw⟩:=hrel
  by_cases hlt:k < n
  ·obtain ⟨g,o,rfl,k0,k1,k2,-⟩:=(HV.out.kept hw).2 k hlt
   have hlt':(k:Int) < (n:Int):=by omega
   have hk0:(0:Int)≤(k:Int):=by omega
   have hcl:=valOf1_any bn (X k) name wr (keptCell hw hm)
   go_wp2_with fail
   refine hcl.mono ?_
   clear hcl
   rintro e w1 ⟨rfl,hw1⟩
   have hw2:Below w.heap.size w w1:=hw.trans (hw1.mono hw.size)
   clear hw1 k0 k1 k2
   cases hpk:eqs (X k).field name with
   | true =>
    have hfin:Hid (idx n (fun j=>eqs (X j).field name)=(k:Int)):=idx_hit hlt hpk hb
    clear hpk
    go_wp2_with fail
    go_ret
    exact ⟨by rw [hfin.out]; rfl,hw2⟩
   | false =>
    have hb2:Hid (∀ j,j < k + 1→eqs (X j).field name=false):=fun j hj=>by
     rcases Nat.lt_succ_iff_lt_or_eq.1 hj with h | h
     ·exact hb j h
     ·rw [h]; exact hpk
    clear hpk
    go_wp2_with fail
    go_roundw
    case rel=>exact ⟨k + 1,by omega,by go_num,hb2,hw2⟩
    case measure=>simp [intOf]; omega
  ·have hfin:Hid (idx n (fun j=>eqs (X j).field name) = -1):=idx_none (fun j hj=>hb j (by omega))
   go_wp2_with fail
   go_ret
   exact ⟨by rw [hfin.out]; rfl,hw⟩
def valA (v:LVal):Value:=.agg #[.string v.field,.string v.text,.slice v.ka v.nk v.kcap]
set_option maxRecDepth 100000 in
set_option maxHeartbeats 800000 in
theorem valOf_any (a:Option Addr) (n cap m:Nat) (X:Nat→LVal) (name:ByteArray) (w:World) (hV:ValsAt w a n X) (hm:m < n) (hi:idx n (fun j=>eqs (X j).field name)=(m:Int)) :
  Calls Tryz.prog 80 #[.slice a n cap,.string name] w fun e w'=>e = .returned (valA (X m))∧Below w.heap.size w w':=by
 have hmf:∀ (fn:Fn) (first cap:Array Value) (w:World),(Instr.makeFunc fn first cap).run Tryz.prog w = .ok (.func fn first cap) w:=fun _ _ _ _=>rfl
 generalize hW:(w.alloc (Obj.cells #[.string name] 9)).alloc (Obj.cells #[.string ⟨#[]⟩,.string ⟨#[]⟩,.slice none 0 0] 59)=W
 have hBW:Below w.heap.size w W:=by rw [← hW]; exact below2 _ _ _
 have hc1:W.cell? ⟨w.heap.size,0,none⟩=some (.string name):=by rw [← hW,World.cell?_alloc_past _ _ _ (by simp),World.cell?_alloc_at _ _ _ _ rfl]; rfl
 have hb2:W.heap[w.heap.size + 1]? = some (.cells #[.string ⟨#[]⟩,.string ⟨#[]⟩,.slice none 0 0] 59 (0,0)):=by
  rw [← hW]
  exact (show w.heap.size + 1=(w.alloc (Obj.cells #[.string name] 9)).heap.size by simp) ▸ heap_alloc_new _ _
 have hcl:=vindex_any a n cap w.heap.size X name W (hV.kept hBW) hc1
 rw [hi] at hcl
 obtain ⟨b,o,rfl,k0,k1,k2,-⟩:=hV.2 m hm
 have hm1:(m:Int) < (n:Int):=by omega
 have hm0:(0:Int)≤(m:Int):=by omega
 have HB:=Hid.intro hBW
 clear hV hi hc1
 unfold valA
 go_enter Tryz.func80,Tryz.ntmps80
 go_wp2_with fail
 clear hW
 refine hcl.mono ?_
 clear hcl
 rintro e w1 ⟨rfl,hw1⟩
 have hB1:Below w.heap.size w w1:=HB.out.trans (hw1.mono HB.out.size)
 have k0:=keptCell hB1 k0
 have k1:=keptCell hB1 k1
 have k2:=keptCell hB1 k2
 have hb3:=(hw1.block _ (lt_of_block hb2)).trans hb2
 obtain ⟨x0,x1,x2⟩:w1.cell? ⟨w.heap.size + 1,0,none⟩=some (.string ⟨#[]⟩)∧w1.cell? ⟨w.heap.size + 1,1,none⟩=some (.string ⟨#[]⟩)∧w1.cell? ⟨w.heap.size + 1,2,none⟩=some (.slice none 0 0):=by simp [World.cell?,hb3]
 obtain ⟨y0,y1,y2⟩:w1.frozen? ⟨w.heap.size + 1,0,none⟩=false∧w1.frozen? ⟨w.heap.size + 1,1,none⟩=false∧w1.frozen? ⟨w.heap.size + 1,2,none⟩=false:=by simp [World.frozen?,hb3]
 have HB1:=Hid.intro hB1
 clear hw1 hB1 hb2 hb3
 go_wp2_with fail
 exact bodyPost_ret (v:=.agg #[.string (X m).field,.string (X m).text,.slice (X m).ka (X m).nk (X m).kcap]) (by simp [results,Tryz.results80,go_sem,x0,x1,x2]) rfl ⟨rfl,HB1.out.trans ⟨rfl,rfl,rfl,by simp,fun k hk=>by
  rw [Below.heap_setCell _ _ _ _ (by show k≠w.heap.size + 1; omega),Below.heap_setCell _ _ _ _ (by show k≠w.heap.size + 1; omega),Below.heap_setCell _ _ _ _ (by show k≠w.heap.size + 1; omega)]⟩⟩
end Go.Proofs.YtjjggefmmeminacGreat
