import Derived.Test.YtjjggefmmeminacGreatJBase
import Derived.Test.YtjjggefmmeminacGreatChSee
import Derived.Test.YtjjggefmmeminacGreatJWr
namespace Go.Proofs.YtjjggefmmeminacGreat
open Go.RowKit Go.Sort
structure Keep (Z:Nat→Prop) (w w':World):Prop where
 os:w'.os=w.os
 tape:w'.tape=w.tape
 output:w'.output=w.output
 size:w.heap.size≤w'.heap.size
 block:∀ b,Z b→w'.heap[b]? = w.heap[b]?
theorem Keep.refl (Z:Nat→Prop) (w:World):Keep Z w w:=⟨rfl,rfl,rfl,Nat.le_refl _,fun _ _=>rfl⟩
theorem Keep.trans {Z:Nat→Prop} {a b c:World} (h:Keep Z a b) (k:Keep Z b c):Keep Z a c :=
 ⟨k.os.trans h.os,k.tape.trans h.tape,k.output.trans h.output,Nat.le_trans h.size k.size,fun i hi=>(k.block i hi).trans (h.block i hi)⟩
theorem Keep.mono {Z Z':Nat→Prop} {w w':World} (h:Keep Z w w') (hz:∀ b,Z' b→Z b):Keep Z' w w':=⟨h.os,h.tape,h.output,h.size,fun b hb=>h.block b (hz b hb)⟩
theorem Keep.of {Z:Nat→Prop} {w w':World} {B:Nat} (h:Below B w w') (hz:∀ b,Z b→b < B):Keep Z w w':=⟨h.os,h.tape,h.output,h.size,fun b hb=>h.block b (hz b hb)⟩
theorem Keep.below {Z:Nat→Prop} {w w':World} {B:Nat} (h:Keep Z w w') (hz:∀ b,b < B→Z b):Below B w w':=⟨h.os,h.tape,h.output,h.size,fun b hb=>h.block b (hz b hb)⟩
theorem Keep.grown {Z:Nat→Prop} {w w':World} {row:Option Nat} (h:w.grownBy w' row) (hz:∀ b,Z b→b < w.heap.size) (hr:∀ b,row=some b→¬ Z b):Keep Z w w' :=
 ⟨h.os,h.tape,h.output,h.size,fun b hb=>h.block b (hz b hb) (fun e=>hr b e.symm hb)⟩
theorem Keep.set {Z:Nat→Prop} (w:World) (p:Addr) (v:Value) (hp : ¬ Z p.block):Keep Z w (w.setCell p v) :=
 ⟨rfl,rfl,rfl,by simp,fun b hb=>Below.heap_setCell _ _ _ _ (fun e=>hp (by rw [← e]; exact hb))⟩
theorem Keep.cell {Z:Nat→Prop} {w w':World} (h:Keep Z w w') {p:Addr} (hp:Z p.block):w'.cell? p=w.cell? p:=World.cell?_of_block (h.block _ hp)
end Go.Proofs.YtjjggefmmeminacGreat
namespace Go.Proofs.YtjjggefmmeminacGreat
open Go.RowKit Go.Sort Go.PlainAid
structure LServ where
 ta:Option Addr
 nt:Nat
 tcap:Nat
 T:Nat→LType
 ca:Option Addr
 nc:Nat
 ccap:Nat
 C:Nat→PChange
 xa:Option Addr
 nx:Nat
 xcap:Nat
 X:Nat→LThing
structure ServOk (w:World) (s:LServ):Prop where
 types:TypesAt w s.ta s.nt s.T
 changes:ChangesAt w s.ca s.nc s.C
 things:ThingsAt w s.xa s.nx s.X
 tcap:s.nt≤s.tcap
 xcap:s.nx≤s.xcap
theorem ServOk.kept {w w':World} {s:LServ} (h:ServOk w s) (hB:Below w.heap.size w w'):ServOk w' s:=⟨h.types.kept hB,h.changes.kept hB,h.things.kept hB,h.tcap,h.xcap⟩
def seenS (s:LServ):Nat→PSeen:=runS s.nt (initS s.T) s.C s.nc
def seeE (s:LServ):Int × Int:=seeF s.nt s.T s.nc s.C
theorem Seens.keep {w w':World} {base n:Nat} {v:Value} {fv ov:Nat→Value} {S:Nat→PSeen} (h:Seens w base v n fv ov S) (hk:∀ b,base≤b→b < w.heap.size→w'.heap[b]? = w.heap[b]?):Seens w' base v n fv ov S :=
 ⟨h.nmax,h.row.at fun k hb=>hk k (h.row.lt hb).1 (h.row.lt hb).2,fun i hi=>(h.fields i hi).at fun k hb=>hk k ((h.fields i hi).lt hb).1 ((h.fields i hi).lt hb).2,fun i hi=>(h.owns i hi).at fun k hb=>hk k ((h.owns i hi).lt hb).1 ((h.owns i hi).lt hb).2,h.fapart,h.oapart,h.good⟩
def servV (s:LServ):Value:=.agg #[.slice s.ta s.nt s.tcap,.slice s.ca s.nc s.ccap,.slice s.xa s.nx s.xcap]
structure ServAt (w:World) (b o:Nat) (s:LServ):Prop where
 c0:w.cell? ⟨b,o,none⟩=some (.slice s.ta s.nt s.tcap)
 c1:w.cell? ⟨b,o + 1,none⟩=some (.slice s.ca s.nc s.ccap)
 c2:w.cell? ⟨b,o + 2,none⟩=some (.slice s.xa s.nx s.xcap)
 ok:ServOk w s
def ServsAt (w:World) (a:Option Addr) (n:Nat) (V:Nat→LServ):Prop:=n≤maxLen∧∀ i,i < n→∃ b o,a=some ⟨b,o,none⟩∧ServAt w b (o + i * 3) (V i)
theorem ServsAt.kept {w w':World} {a:Option Addr} {n:Nat} {V:Nat→LServ} (h:ServsAt w a n V) (hB:Below w.heap.size w w'):ServsAt w' a n V :=
 ⟨h.1,fun i hi=>let ⟨b,o,e,s⟩:=h.2 i hi; ⟨b,o,e,keptCell hB s.c0,keptCell hB s.c1,keptCell hB s.c2,s.ok.kept hB⟩⟩
def wrongServ (s:LServ):Int:=if (seeE s).1≠0 then (seeE s).1 else (wrongThings s.nt s.T s.nx s.X).1
def wrongF (n:Nat) (V:Nat→LServ):Int × Int:=if 5 < n then (4,0) else fault n (fun i=>wrongServ (V i))
set_option maxRecDepth 100000 in
set_option maxHeartbeats 1000000 in
theorem wrongService_any (s:LServ) (w:World) (hs:ServOk w s):Calls Tryz.prog 58 #[servV s] w fun e w'=>e = .returned (.int .i64 (wrongServ s))∧Below w.heap.size w w':=by
 have hfd:=field0_run
 have HS:=Hid.intro hs
 clear hs
 unfold servV
 generalize hW:w.alloc (Obj.cells #[.slice s.ta s.nt s.tcap,.slice s.ca s.nc s.ccap,.slice s.xa s.nx s.xcap] 40)=W
 have hBW:Below w.heap.size w W:=by rw [← hW]; exact below1 _ _
 have b0:W.cell? ⟨w.heap.size,0,none⟩=some (.slice s.ta s.nt s.tcap):=by rw [← hW,World.cell?_alloc_at _ _ _ _ rfl]; rfl
 have b1:W.cell? ⟨w.heap.size,1,none⟩=some (.slice s.ca s.nc s.ccap):=by rw [← hW,World.cell?_alloc_at _ _ _ _ rfl]; rfl
 have b2:W.cell? ⟨w.heap.size,2,none⟩=some (.slice s.xa s.nx s.xcap):=by rw [← hW,World.cell?_alloc_at _ _ _ _ rfl]; rfl
 have hcl:=see_any s.ta s.ca s.nt s.tcap s.nc s.ccap s.T s.C W (HS.out.types.kept hBW) (HS.out.changes.kept hBW) HS.out.tcap
 have HBW:=Hid.intro hBW
 clear hBW
 go_enter Tryz.func58,Tryz.ntmps58
 go_wp2_with fail
 clear hW
 refine hcl.mono ?_
 clear hcl
 rintro e w1 ⟨⟨u,rfl,hno,hyes⟩,hw1⟩
 have hus:∃ ua un uc,u = .slice ua un uc:=by
  by_cases h:(seeF s.nt s.T s.nc s.C).1=0
  ·obtain ⟨fv,ov,hS⟩:=hyes h
   obtain ⟨ua,uc,e,-⟩:=hS.slice
   exact ⟨_,_,_,e⟩
  ·exact ⟨_,_,_,hno h⟩
 obtain ⟨ua,un,uc,rfl⟩:=hus
 clear hno hyes
 have HD:Hid (wrongServ s=if (seeF s.nt s.T s.nc s.C).1≠0 then (seeF s.nt s.T s.nc s.C).1 else (wrongThings s.nt s.T s.nx s.X).1):=rfl
 generalize seeF s.nt s.T s.nc s.C=r at *
 unfold faultV
 generalize hX:w1.alloc (Obj.cells #[.int .i64 r.1,.int .i64 r.2] 45)=X
 have hBX:Below w1.heap.size w1 X:=by rw [← hX]; exact below1 _ _
 have d0:X.cell? ⟨w1.heap.size,0,none⟩=some (.int .i64 r.1):=by rw [← hX,World.cell?_alloc_at _ _ _ _ rfl]; rfl
 have b0:=keptCell (hw1.trans (hBX.mono hw1.size)) b0
 have b2:=keptCell (hw1.trans (hBX.mono hw1.size)) b2
 have HX:Hid (Below w.heap.size w X):=HBW.out.trans ((hw1.trans (hBX.mono hw1.size)).mono HBW.out.size)
 clear hBX hw1 b1
 by_cases h0:r.1=0
 case neg =>
  have hb:(r.1 != 0)=true:=by simpa using h0
  have HE:Hid (wrongServ s=r.1):=by rw [HD.out,if_pos h0]; rfl
  clear h0
  go_wp2_with fail
  go_ret
  exact ⟨by rw [HE.out]; rfl,HX.out⟩
 have hb:(r.1 != 0)=false:=by simpa using h0
 have HE:Hid (wrongServ s=(wrongThings s.nt s.T s.nx s.X).1):=by rw [HD.out,if_neg (fun h=>h h0)]; rfl
 clear h0
 have hcl:=things_any s.ta s.xa s.nt s.tcap s.nx s.xcap s.T s.X X (HS.out.types.kept HX.out) (HS.out.things.kept HX.out) HS.out.xcap
 go_wp2_with fail
 refine hcl.mono ?_
 clear hcl
 rintro e w2 ⟨rfl,hw2⟩
 have HB2:Hid (Below w.heap.size w w2):=HX.out.trans (hw2.mono HX.out.size)
 clear hw2
 generalize wrongThings s.nt s.T s.nx s.X=y at *
 unfold faultV
 go_wp2_with fail
 go_ret
 exact ⟨by rw [HE.out]; rfl,HB2.out⟩
set_option maxRecDepth 100000 in
set_option maxHeartbeats 1000000 in
theorem inTurn_any (a:Option Addr) (n cap K:Nat) (caps:Array Value) (g:Nat→Int) (w:World) (I:(Nat→Prop)→Nat→World→Prop) (hn:n≤9223372036854775807) (eK:∀ args w,(callFunc K args).run Tryz.prog w = .ok (.enter K args) w)
  (hstep:∀ (Z:Nat→Prop) (i:Nat) (w1:World),(∀ b,Z b→b < w1.heap.size)→i < n→I Z i w1→Calls Tryz.prog K (#[.int .i64 (i:Int)] ++ caps) w1 fun e w'=>e = .returned (.int .i64 (g i))∧(g i=0→I Z (i + 1) w')∧Keep Z w1 w')
  (hbox:∀ (Z:Nat→Prop) (i:Nat) (w1 w2:World),Below w1.heap.size w1 w2→I Z i w1→I (fun b=>Z b∨(w1.heap.size≤b∧b < w2.heap.size)) i w2)
  (Z:Nat→Prop) (hless:∀ (Y:Nat→Prop) (i:Nat) (w1 w2:World) (B:Nat) (u v:Int),(∀ b,Z b→Y b)→¬ Z B→w.heap.size≤B→Boxed w1 w2 B u v→I Y i w1→I Z i w2)
  (hZ:∀ b,Z b→b < w.heap.size) (h0:I Z 0 w) :
  Calls Tryz.prog 37 #[.slice a n cap,.func (.func K) #[] caps] w fun e w'=>e = .returned (faultV (fault n g))∧((fault n g).1=0→I Z n w')∧Keep Z w w':=by
 generalize hW:w.alloc (Obj.cells #[.int .i64 0,.int .i64 0] 45)=W
 have hBW:Below w.heap.size w W:=by rw [← hW]; exact below1 _ _
 have hbx:W.heap[w.heap.size]? = some (.cells #[.int .i64 0,.int .i64 0] 45 (0,0)):=by rw [← hW]; exact heap_alloc_new _ _
 obtain ⟨Y,hYd⟩:∃ Y:Nat→Prop,Y=fun b=>Z b∨(w.heap.size≤b∧b < W.heap.size):=⟨_,rfl⟩
 have HI0:Hid (I Y 0 W):=by rw [hYd]; exact hbox Z 0 w W hBW h0
 have HYZ:Hid (∀ b,Z b→Y b):=fun b hb=>by rw [hYd]; exact .inl hb
 have HYx:Hid (Y w.heap.size):=by rw [hYd]; exact .inr ⟨Nat.le_refl _,lt_of_block hbx⟩
 have HYW:Hid (∀ b,Y b→b < W.heap.size):=fun b hb=>by
  rw [hYd] at hb
  rcases hb with hb | hb
  ·exact Nat.lt_of_lt_of_le (hZ b hb) hBW.size
  ·exact hb.2
 have HKW:Hid (Keep Z w W):=Keep.of hBW hZ
 have HNZ:Hid (¬ Z w.heap.size):=fun h=>by have:=hZ _ h; omega
 have HBX:=Hid.intro hbx
 have HST:=Hid.intro hstep
 have HLE:=Hid.intro hless
 clear hstep hbox hless hBW hbx h0 hYd hZ
 go_enter Tryz.func37,Tryz.ntmps37
 go_wp2_with fail
 clear hW
 go_loopw [9] (fun i wr => ∃ k:Nat,k≤n∧i = .int .i64 k∧Hid (∀ j,j < k→g j=0)∧I Y k wr∧Keep Y W wr) (fun i _=>n - (intOf i).toNat)
 case atStart=>exact ⟨0,Nat.zero_le _,rfl,(fun j hj=>absurd hj (Nat.not_lt_zero _)),HI0.out,Keep.refl _ _⟩
 case round =>
  obtain ⟨k,hk,rfl,hb,hI,hK⟩:=hrel
  have HIK:=Hid.intro hI
  have HK:=Hid.intro hK
  have hbr:=(hK.block _ HYx.out).trans HBX.out
  clear hI hK
  by_cases hlt:k < n
  ·have hcl:=HST.out Y k wr (fun b hb=>Nat.lt_of_lt_of_le (HYW.out b hb) HK.out.size) hlt HIK.out
   go_wp2_with fail
   refine hcl.mono ?_
   clear hcl
   rintro e w1 ⟨rfl,hI1,hK1⟩
   have hb1:=(hK1.block _ HYx.out).trans hbr
   have HI1:=Hid.intro hI1
   have HK1:Hid (Keep Y W w1):=HK.out.trans hK1
   clear hI1 hK1
   by_cases hpk:g k=0
   ·have hb2:Hid (∀ j,j < k + 1→g j=0):=fun j hj=>by
     rcases Nat.lt_succ_iff_lt_or_eq.1 hj with h | h
     ·exact hb j h
     ·rw [h]; exact hpk
    have HI2:=Hid.intro (HI1.out hpk)
    have hpb:(g k != 0)=false:=by simpa using hpk
    clear hpk hb1 hbr
    go_wp2
    go_roundw
    case rel=>exact ⟨k + 1,by omega,by go_num,hb2,HI2.out,HK1.out⟩
    case measure=>simp [intOf]; omega
   ·have hfin:Hid (fault n g=(g k,(k:Int))):=fault_hit hlt hpk hb
    have HPK:=Hid.intro hpk
    have hpb:(g k != 0)=true:=by simpa using hpk
    obtain ⟨d0,d1,z0,z1⟩:=box_cells hb1
    have HKZ:Hid (Keep Z w ((w1.setCell ⟨w.heap.size,0,none⟩ (.int .i64 (g k))).setCell ⟨w.heap.size,1,none⟩ (.int .i64 (k:Int)))):=(HKW.out.trans (HK1.out.mono HYZ.out)).trans ((Keep.set _ _ _ HNZ.out).trans (Keep.set _ _ _ HNZ.out))
    clear hpk hb1 hbr
    go_wp2_with fail
    exact bodyPost_ret (v:=.agg #[.int .i64 (g k),.int .i64 (k:Int)]) (by simp [results,Tryz.results37,go_sem,d0,d1]) rfl ⟨by rw [hfin.out]; rfl,fun h=>absurd (by rw [hfin.out] at h; exact h) HPK.out,HKZ.out⟩
  ·have hkn:k=n:=by omega
   subst hkn
   have hfin:Hid (fault k g=(0,0)):=fault_none hb.out
   obtain ⟨d0,d1,z0,z1⟩:=box_cells hbr
   have HKZ:Hid (Keep Z w ((wr.setCell ⟨w.heap.size,0,none⟩ (.int .i64 0)).setCell ⟨w.heap.size,1,none⟩ (.int .i64 0))):=(HKW.out.trans (HK.out.mono HYZ.out)).trans ((Keep.set _ _ _ HNZ.out).trans (Keep.set _ _ _ HNZ.out))
   have HIN:Hid (I Z k ((wr.setCell ⟨w.heap.size,0,none⟩ (.int .i64 0)).setCell ⟨w.heap.size,1,none⟩ (.int .i64 0))):=HLE.out Y k wr _ w.heap.size 0 0 HYZ.out HNZ.out (Nat.le_refl _) (boxed_set hbr) HIK.out
   clear hbr
   go_wp2_with fail
   exact bodyPost_ret (v:=.agg #[.int .i64 0,.int .i64 0]) (by simp [results,Tryz.results37,go_sem,d0,d1]) rfl ⟨by rw [hfin.out]; rfl,fun _=>HIN.out,HKZ.out⟩
theorem Tryz.e57:∀ args w,(callFunc 57 args).run Tryz.prog w = .ok (.enter 57 args) w:=enters_of Tryz.func57 (by kernel_rfl) rfl
set_option maxRecDepth 100000 in
set_option maxHeartbeats 1000000 in
theorem mwrong1_any (a:Option Addr) (n cap i bl:Nat) (V:Nat→LServ) (w:World) (hS:ServsAt w a n V) (hl:w.cell? ⟨bl,0,none⟩=some (.slice a n cap)) (hi:i < n) :
  Calls Tryz.prog 57 #[.int .i64 (i:Int),.pointer (some ⟨bl,0,none⟩)] w fun e w'=>e = .returned (.int .i64 (wrongServ (V i)))∧Below w.heap.size w w':=by
 obtain ⟨b,o,rfl,hs⟩:=hS.2 i hi
 have c0:=hs.c0
 have c1:=hs.c1
 have c2:=hs.c2
 have hcl:=wrongService_any (V i) w hs.ok
 unfold servV at hcl
 have hi':(i:Int) < (n:Int):=by omega
 have hi0:(0:Int)≤(i:Int):=by omega
 clear hs hS
 go_enter Tryz.func57,Tryz.ntmps57
 go_wp2_with fail
 refine hcl.mono ?_
 clear hcl
 rintro e w1 ⟨rfl,hw1⟩
 clear c0 c1 c2
 go_wp2_with fail
 go_ret
 exact ⟨rfl,hw1⟩
set_option maxRecDepth 100000 in
set_option maxHeartbeats 1000000 in
theorem mwrong_any (a:Option Addr) (n cap:Nat) (V:Nat→LServ) (w:World) (hS:ServsAt w a n V) :
  Calls Tryz.prog 36 #[.slice a n cap] w fun e w'=>e = .returned (faultV (wrongF n V))∧Below w.heap.size w w':=by
 have hmf:∀ (fn:Fn) (first cap:Array Value) (w:World),(Instr.makeFunc fn first cap).run Tryz.prog w = .ok (.func fn first cap) w:=fun _ _ _ _=>rfl
 have hn:n≤9223372036854775807:=hS.1
 have HS:=Hid.intro hS
 clear hS
 generalize hW:(w.alloc (Obj.cells #[.slice a n cap] 22)).alloc (Obj.cells #[.int .i64 0,.int .i64 0] 45)=W
 have hBW:Below w.heap.size w W:=by rw [← hW]; exact below2 _ _ _
 have hbl:W.heap[w.heap.size]? = some (.cells #[.slice a n cap] 22 (0,0)):=by rw [← hW]; exact (Below.heap_alloc _ _ _ (by simp)).trans (heap_alloc_new _ _)
 have hbf:W.heap[w.heap.size + 1]? = some (.cells #[.int .i64 0,.int .i64 0] 45 (0,0)):=by
  rw [← hW,show w.heap.size + 1=(w.alloc (Obj.cells #[.slice a n cap] 22)).heap.size by simp]; exact heap_alloc_new _ _
 have l0:W.cell? ⟨w.heap.size,0,none⟩=some (.slice a n cap):=by simp [World.cell?,hbl]
 have HBW:=Hid.intro hBW
 clear hBW
 by_cases h5:5 < n
 ·have hF:Hid (wrongF n V=(4,0)):=by unfold wrongF; rw [if_pos h5]; rfl
  have h5':(5:Int) < (n:Int):=by omega
  obtain ⟨d0,d1,z0,z1⟩:=box_cells hbf
  have HKZ:Hid (Below w.heap.size w ((W.setCell ⟨w.heap.size + 1,0,none⟩ (.int .i64 4)).setCell ⟨w.heap.size + 1,1,none⟩ (.int .i64 0))):=(HBW.out.setCell (Nat.le_succ _) _).setCell (Nat.le_succ _) _
  go_enter Tryz.func36,Tryz.ntmps36
  go_wp2_with fail
  clear hW
  exact bodyPost_ret (v:=.agg #[.int .i64 4,.int .i64 0]) (by simp [results,Tryz.results36,go_sem,d0,d1]) rfl ⟨by rw [hF.out]; rfl,HKZ.out⟩
 ·have h5' : ¬ (5:Int) < (n:Int):=by omega
  have hF:Hid (wrongF n V=fault n (fun i=>wrongServ (V i))):=by unfold wrongF; rw [if_neg h5]; rfl
  have hcl:=inTurn_any a n cap 57 #[.pointer (some ⟨w.heap.size,0,none⟩)] (fun i=>wrongServ (V i)) W (fun _ _ w1=>Below W.heap.size W w1) hn Tryz.e57
   (fun Z i w1 hZ hi hI=>(mwrong1_any a n cap i w.heap.size V w1 ((HS.out.kept HBW.out).kept hI) (keptCell hI l0) hi).mono fun e w' h=>⟨h.1,fun _=>hI.trans (h.2.mono hI.size),Keep.of h.2 hZ⟩)
   (fun Z i w1 w2 hb hI=>hI.trans (hb.mono hI.size)) (fun b=>b < W.heap.size) (fun Y i w1 w2 B u v hz hnz hB hbx hI=>hbx.below hI hB hI.size) (fun b hb=>hb) (Below.refl _ _)
  have hcl:Calls Tryz.prog 37 #[.slice a n cap,.func (.func 57) #[] #[.pointer (some ⟨w.heap.size,0,none⟩)]] W fun e w'=>e = .returned (faultV (fault n fun i=>wrongServ (V i)))∧Below W.heap.size W w':=hcl.mono fun e w' h=>⟨h.1,h.2.2.below fun _ h=>h⟩
  clear h5
  generalize fault n (fun i=>wrongServ (V i))=r at *
  unfold faultV at hcl
  go_enter Tryz.func36,Tryz.ntmps36
  go_wp2_with fail
  clear hW
  refine hcl.mono ?_
  clear hcl
  rintro e w1 ⟨rfl,hw1⟩
  have hb1:=(hw1.block _ (lt_of_block hbf)).trans hbf
  obtain ⟨d0,d1,z0,z1⟩:=box_cells hb1
  have HKZ:Hid (Below w.heap.size w ((w1.setCell ⟨w.heap.size + 1,0,none⟩ (.int .i64 r.1)).setCell ⟨w.heap.size + 1,1,none⟩ (.int .i64 r.2))):=((HBW.out.trans (hw1.mono HBW.out.size)).setCell (Nat.le_succ _) _).setCell (Nat.le_succ _) _
  clear hw1 hb1 hbf hbl l0
  go_wp2_with fail
  exact bodyPost_ret (v:=.agg #[.int .i64 r.1,.int .i64 r.2]) (by simp [results,Tryz.results36,go_sem,d0,d1]) rfl ⟨by rw [hF.out]; rfl,HKZ.out⟩
end Go.Proofs.YtjjggefmmeminacGreat
