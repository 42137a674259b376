import Derived.Test.YtjjggefmmeminacGreatJGk
import Derived.Test.YtjjggefmmeminacGreatGrAddReg
import Derived.Test.YtjjggefmmeminacGreatGvAnswer
namespace Go.Proofs.YtjjggefmmeminacGreat
open Go.RowKit Go.Sort Go.PlainAid
def Maps2 (b1 b2:Nat) (w w':World):Prop:=KeepX (fun k=>k=b1∨k=b2) w w'
def IsMap (w:World) (b:Nat):Prop := ∃ es c,w.heap[b]? = some (.map es c)
theorem Maps2.cell {b1 b2:Nat} {w w':World} (h:Maps2 b1 b2 w w') (h1:IsMap w b1) (h2:IsMap w b2) {p:Addr} {u:Value} (hp:w.cell? p=some u):w'.cell? p=some u:=by
 refine KeepX.cell h hp fun e=>?_
 rcases e with e | e
 ·obtain ⟨es,c,hm⟩:=h1
  rw [← e] at hm
  unfold World.cell? at hp
  rw [hm] at hp
  cases hp
 ·obtain ⟨es,c,hm⟩:=h2
  rw [← e] at hm
  unfold World.cell? at hp
  rw [hm] at hp
  cases hp
theorem Maps2.block {b1 b2:Nat} {w w':World} (h:Maps2 b1 b2 w w') (h1:IsMap w b1) (h2:IsMap w b2) {k t:Nat} {cs:Array Value} {fz:Nat × Nat} (hk:w.heap[k]? = some (.cells cs t fz)):w'.heap[k]? = w.heap[k]?:=by
 refine Keep.block h k ⟨lt_of_block hk,fun e=>?_⟩
 rcases e with e | e
 ·obtain ⟨es,c,hm⟩:=h1
  rw [← e,hk] at hm; cases hm
 ·obtain ⟨es,c,hm⟩:=h2
  rw [← e,hk] at hm; cases hm
theorem Maps2.row {b1 b2:Nat} {w w':World} (h:Maps2 b1 b2 w w') (h1:IsMap w b1) (h2:IsMap w b2) {base e size n:Nat} {v:Value} {f : Nat→Value} (hR:Row w base e size v n f):Row w' base e size v n f :=
 hR.at fun _ hk=>let ⟨_,ho⟩:=hR.obj hk; h.block h1 h2 ho
theorem Maps2.kept {b1 b2:Nat} {w w1 w2:World} (h:Maps2 b1 b2 w w1) (hB:Below w1.heap.size w1 w2):Maps2 b1 b2 w w2:=KeepX.kept h hB
theorem Maps2.turned {b1 b2 b:Nat} {w w1 w2:World} (h:Maps2 b1 b2 w w1) (ht:w1.mapTurned w2 b) (hb:b=b1∨b=b2):Maps2 b1 b2 w w2:=KeepX.set_turned h ht hb
theorem Maps2.drew {b1 b2:Nat} {w w1:World} (h:Maps2 b1 b2 w w1):Maps2 b1 b2 w w1.drew:=h.kept (Below.refl _ _).drew
theorem alloc3' (w:World) (a b c:Obj):(((w.alloc a).alloc b).alloc c).heap[w.heap.size]? = some a∧(((w.alloc a).alloc b).alloc c).heap[w.heap.size + 1]? = some b∧(((w.alloc a).alloc b).alloc c).heap[w.heap.size + 1 + 1]? = some c:=by
 refine ⟨(Below.heap_alloc _ _ _ (by simp; omega)).trans ((Below.heap_alloc _ _ _ (by simp)).trans (heap_alloc_new _ _)),(Below.heap_alloc _ _ _ (by simp)).trans ?_,?_⟩
 ·have h:=heap_alloc_new (w.alloc a) b
  rw [show (w.alloc a).heap.size=w.heap.size + 1 by simp] at h
  exact h
 ·have h:=heap_alloc_new ((w.alloc a).alloc b) c
  rw [show ((w.alloc a).alloc b).heap.size=w.heap.size + 1 + 1 by simp] at h
  exact h
theorem LMap.turned {N:Nat} {w w':World} {b n bt:Nat} {v:Int→ByteArray→ByteArray→ByteArray→Option LVal} (h:LMap N w b n v) (ht:w.mapTurned w' bt) (hb:b≠bt):LMap N w' b n v:=by
 obtain ⟨es,c,es',c',h1,h2⟩:=ht
 exact h.at (turned_block ⟨es,c,es',c',h1,h2⟩ h.lt hb) fun k cs _ hk ho=>turned_block ⟨es,c,es',c',h1,h2⟩ hk fun e=>by
  subst e
  rw [h1] at ho; cases ho
theorem CMap.turned {w w':World} {b n bt:Nat} {c:ByteArray→Nat} (h:CMap w b n c) (ht:w.mapTurned w' bt) (hb:b≠bt):CMap w' b n c:=h.at (turned_block ht h.lt hb)
theorem valCells {w:World} {B g cap:Nat} {L:List LVal} {kv:Nat→Value} (h:Row w B 59 3 (.slice (some ⟨g,0,none⟩) L.length cap) L.length (valCell L kv)) {j:Nat} (hj:j < L.length):w.cell? ⟨g,j * 3,none⟩=some (.string (nthV L j).field)∧w.cell? ⟨g,j * 3 + 1,none⟩=some (.string (nthV L j).text)∧w.cell? ⟨g,j * 3 + 2,none⟩=some (kv j):=by
 refine ⟨?_,?_,?_⟩
 ·rw [h.cell (by omega)]; unfold valCell cellOf; rw [show (j * 3) / 3=j by omega,if_pos (by omega)]
 ·rw [h.cell (by omega)]; unfold valCell cellOf; rw [show (j * 3 + 1) / 3=j by omega,if_neg (by omega),if_pos (by omega)]
 ·rw [h.cell (by omega)]; unfold valCell cellOf; rw [show (j * 3 + 2) / 3=j by omega,if_neg (by omega),if_neg (by omega)]
theorem take_val {L:List LVal} {j:Nat} (h:j < L.length):L.take (j + 1)=L.take j ++ [nthV L j]:=by
 rw [List.take_succ_eq_append_getElem h]
 simp [nthV,List.getD,h]
theorem gwrap {c:Nat} (h:c < 1000000):IntKind.i64.wrap ((c:Int) + 1)=(c:Int) + 1:=by
 have h1:(0:Int)≤(c:Int) + 1:=by omega
 have h2:(c:Int) + 1 < 9223372036854775808:=by omega
 generalize (c:Int) + 1=x at *
 simp [IntKind.wrap,IntKind.signed,IntKind.bits]
 omega
set_option maxRecDepth 100000 in
set_option maxHeartbeats 4000000 in
theorem add_any (N B base n1 n2:Nat) (la:Option Addr) (ln lc bh bv:Nat) (h:POwner) (ka:Option Addr) (kcap:Nat) (keys:List ByteArray) (fa va:Option Addr) (fc vc:Nat) (q:ByteArray→Bool) (g:ByteArray→List LVal) (Ls:Nat→List LVal) (c:ByteArray→Nat) (v:Int→ByteArray→ByteArray→ByteArray→Option LVal) (w:World)
  (hC:CMap w bh n1 c) (hM:LMap N w bv n2 v) (hne:bh≠bv) (hK:TxtAt w ka keys) (hR:RepliesO w B base (.slice fa keys.length fc) (.slice va keys.length vc) keys.length (fun j=>q (txtN keys j)) Ls) (hLs:∀ j,j < keys.length→q (txtN keys j)=true→Ls j=g (txtN keys j))
  (hNB:N≤B) (hs:(Lit.int .i64 h.svc).wf=true) (ht:Small h.type) (hc:∀ l,l.length≤keys.length→∀ s,addCL q c l s < 1000000) (h1:n1 + keys.length≤1000000000) (h2:n2 + keys.length * 60≤1000000000) (hg:∀ j,j < keys.length→q (txtN keys j)=true→(g (txtN keys j)).length≤60) :
  Calls Tryz.prog 44 #[.agg #[.slice la ln lc,.map (some bh),.map (some bv)],.agg #[.int .i64 h.svc,.string h.type,.string h.field],.slice ka keys.length kcap,.agg #[.slice fa keys.length fc,.slice va keys.length vc]] w fun e w'=>e = .returned (.tuple #[]) ∧
   CMap w' bh (n1 + keys.length) (addCL q c keys)∧LMap N w' bv (n2 + keys.length * 60) (addVL q g h.svc h.type v keys)∧Maps2 bh bv w w':=by
 obtain ⟨hfd,⟨sv,hsv,hvr⟩,hfew⟩:=hR
 have hn:keys.length≤9223372036854775807:=by omega
 generalize hW:((w.alloc (Obj.cells #[.slice la ln lc,.map (some bh),.map (some bv)] 88)).alloc (Obj.cells #[.int .i64 h.svc,.string h.type,.string h.field] 118)).alloc (Obj.cells #[.slice fa keys.length fc,.slice va keys.length vc] 123)=W
 have hBW:Below w.heap.size w W:=by rw [← hW]; exact below3 _ _ _ _
 obtain ⟨hb0,hb1,hb2⟩:W.heap[w.heap.size]? = some (.cells #[.slice la ln lc,.map (some bh),.map (some bv)] 88 (0,0))∧W.heap[w.heap.size + 1]? = some (.cells #[.int .i64 h.svc,.string h.type,.string h.field] 118 (0,0))∧W.heap[w.heap.size + 1 + 1]? = some (.cells #[.slice fa keys.length fc,.slice va keys.length vc] 123 (0,0)):=by
  rw [← hW]; exact alloc3' w _ _ _
 have l1:W.cell? ⟨w.heap.size,1,none⟩=some (.map (some bh)):=by simp [World.cell?,hb0]
 have l2:W.cell? ⟨w.heap.size,2,none⟩=some (.map (some bv)):=by simp [World.cell?,hb0]
 have o0:W.cell? ⟨w.heap.size + 1,0,none⟩=some (.int .i64 h.svc):=by simp [World.cell?,hb1]
 have o1:W.cell? ⟨w.heap.size + 1,1,none⟩=some (.string h.type):=by simp [World.cell?,hb1]
 have r0:W.cell? ⟨w.heap.size + 1 + 1,0,none⟩=some (.slice fa keys.length fc):=by simp [World.cell?,hb2]
 have r1:W.cell? ⟨w.heap.size + 1 + 1,1,none⟩=some (.slice va keys.length vc):=by simp [World.cell?,hb2]
 have HM1:Hid (IsMap W bh):=(hC.kept hBW).obj
 have HM2:Hid (IsMap W bv):=(hM.kept hBW).obj
 have HC:=Hid.intro (hC.kept hBW)
 have HM:=Hid.intro (hM.kept hBW)
 have HK:=Hid.intro (hK.kept hBW)
 have HFD:=Hid.intro (hfd.kept hBW)
 have HSV:=Hid.intro (hsv.kept hBW)
 have HVR:Hid (∀ j,j < keys.length→∃ kv,ValRowsO W B 0 (sv j) (Ls j) kv):=Hid.intro fun j hj=>let ⟨kv,hk⟩:=hvr j hj; ⟨kv,⟨hk.row.kept hBW,fun i hi=>let ⟨a,b,c⟩:=hk.keys i hi; ⟨a,b.kept hBW,c⟩,hk.good⟩⟩
 have HBW:=Hid.intro hBW
 have HLS:=Hid.intro hLs
 have HCB:=Hid.intro hc
 have HG:=Hid.intro hg
 have HTK:Hid (∀ k,k < keys.length→keys.take (k + 1)=keys.take k ++ [txtN keys k]):=Hid.intro fun k hk=>txt_take hk
 have HFW:=Hid.intro hfew
 clear hfd hsv hvr hfew hC hM hK hBW hLs hc hb0 hb1 hb2 hg
 go_enter Tryz.func44,Tryz.ntmps44
 go_wp2_with fail
 clear hW
 obtain ⟨br,hbr⟩:∃ br,br=w.heap.size + 1 + 1:=⟨_,rfl⟩
 obtain ⟨bo,hbo⟩:∃ bo,bo=w.heap.size + 1:=⟨_,rfl⟩
 obtain ⟨bl,hbl⟩:∃ bl,bl=w.heap.size:=⟨_,rfl⟩
 rw [← hbr] at r0 r1
 rw [← hbo] at o0 o1
 rw [← hbl] at l1 l2
 rw [← hbr,← hbo,← hbl]
 clear hbr hbo hbl r0
 go_loopw [16] (fun i wr => ∃ k:Nat,k≤keys.length∧i = .int .i64 k∧Maps2 bh bv W wr∧CMap wr bh (n1 + k) (addCL q c (keys.take k))∧LMap N wr bv (n2 + k * 60) (addVL q g h.svc h.type v (keys.take k))) (fun i _=>keys.length - (intOf i).toNat)
 case atStart=>exact ⟨0,Nat.zero_le _,rfl,KeepX.refl _ _,HC.out,by rw [Nat.zero_mul]; exact HM.out⟩
 case round =>
  obtain ⟨k,hk,rfl,hw,hC,hM⟩:=hrel
  by_cases hlt:k < keys.length
  ·have hlt':(k:Int) < (keys.length:Int):=by omega
   have hk0:(0:Int)≤(k:Int):=by omega
   obtain ⟨ge,fcp,hfe⟩:∃ g cap,Value.slice fa keys.length fc = .slice (some ⟨g,0,none⟩) keys.length cap:=by
    rcases HFD.out.shape with ⟨-,h0⟩ | ⟨g,cap,hv,-,-,-⟩
    ·omega
    ·exact ⟨g,cap,hv⟩
   cases hfe
   have f0:=hw.cell HM1.out HM2.out (HFD.out.cell (j:=k) (by omega))
   obtain ⟨kb,ko,rfl,kc,hsm⟩:=HK.out.2 k hlt
   have kc:=hw.cell HM1.out HM2.out kc
   have HT:=Hid.intro (HTK.out k hlt)
   cases hq:q (txtN keys k) with
   | false =>
    rw [hq] at f0
    have HC1:Hid (CMap wr bh (n1 + (k + 1)) (addCL q c (keys.take (k + 1)))):=Hid.intro (by
     rw [HT.out,addCL_snoc,hq]; exact hC.mono (by omega))
    have HM3:Hid (LMap N wr bv (n2 + (k + 1) * 60) (addVL q g h.svc h.type v (keys.take (k + 1)))):=Hid.intro (by
     rw [HT.out,addVL_snoc,hq]; exact hM.mono (by omega))
    have HW:=Hid.intro hw
    clear hC hM hw kc
    go_wp2_with fail
    go_roundw
    case rel=>exact ⟨k + 1,by omega,by go_num,HW.out,HC1.out,HM3.out⟩
    case measure=>simp [intOf]; omega
   | true =>
    rw [hq] at f0
    have HC1:Hid (addCL q c (keys.take (k + 1))=bump (addCL q c (keys.take k)) (txtN keys k)):=Hid.intro (by rw [HT.out,addCL_snoc,hq]; rfl)
    have HV1:Hid (addVL q g h.svc h.type v (keys.take (k + 1))=putL (addVL q g h.svc h.type v (keys.take k)) h.svc h.type (txtN keys k) (g (txtN keys k))):=Hid.intro (by rw [HT.out,addVL_snoc,hq]; rfl)
    have hcx:addCL q c (keys.take k) (txtN keys k) < 1000000:=HCB.out _ (by rw [List.length_take]; omega) _
    obtain ⟨kv,hvk⟩:=HVR.out k hlt
    have hLk:=HLS.out k hlt hq
    have hgl:=HG.out k hlt hq
    rw [hLk] at hvk
    have ml1:=hw.cell HM1.out HM2.out l1
    have ml2:=hw.cell HM1.out HM2.out l2
    have mo0:=hw.cell HM1.out HM2.out o0
    have mo1:=hw.cell HM1.out HM2.out o1
    have mr1:=hw.cell HM1.out HM2.out r1
    have hlk:=hC.look hsm
    obtain ⟨w',hst,hC',hT'⟩:=(hC.at (w':=wr.drew) rfl).bump (by unfold maxLen; omega) hsm hcx
    go_upto_region 5 with fail
    refine addBump (fun j _ w1=>if j=0 then w1=wr.drew else w1=w') (bl:=bl) (bh:=bh) (kb:=kb) (ko:=ko) (nk:=keys.length) (kcap:=kcap) (k:=k) (c:=addCL q c (keys.take k) (txtN keys k)) (key:=txtN keys k) (by kernel_rfl) rfl rfl rfl hlt' hk0 (gwrap hcx) (fun _=>by rfl) (fun j x w1 hj hp=>?_) (fun x w1 hp=>?_) ?_
    ·have hj0:j=0:=by omega
     subst hj0
     have hp:w1=wr.drew:=hp
     subst hp
     exact ⟨ml1,kc,(hC.at (w':=wr.drew) rfl).look hsm⟩
    ·have hp:w1=wr.drew:=hp
     subst hp
     exact ⟨w',hst,rfl⟩
    intro s w2 hp2
    have hp2:w2=w':=hp2
    subst hp2
    simp only [putAll,Act.put,List.setIfInBounds_toArray,List.set_cons_succ,List.set_cons_zero]
    generalize s 23=t23
    generalize s 24=t24
    generalize s 25=t25
    generalize s 26=t26
    generalize s 27=t27
    generalize s 28=t28
    generalize s 29=t29
    generalize s 30=t30
    have hw2:Maps2 bh bv W w2:=hw.drew.turned hT' (.inl rfl)
    have HM2':Hid (LMap N w2 bv (n2 + k * 60) (addVL q g h.svc h.type v (keys.take k))):=Hid.intro ((hM.at (w':=wr.drew) rfl (fun _ _ _ _ _=>rfl)).turned hT' (Ne.symm hne))
    have HC2:Hid (CMap w2 bh (n1 + (k + 1)) (addCL q c (keys.take (k + 1)))):=Hid.intro (by rw [HC1.out]; exact hC')
    have HKC:Hid (∀ w1,Maps2 bh bv W w1→w1.cell? ⟨kb,ko + k,none⟩=some (.string (txtN keys k))):=Hid.intro fun w1 h1=>by
     obtain ⟨kb',ko',e,kc',-⟩:=HK.out.2 k hlt
     cases e
     exact h1.cell HM1.out HM2.out kc'
    have nr1:=hw2.cell HM1.out HM2.out r1
    obtain ⟨ve,vcp,hve⟩:∃ g cap,Value.slice va keys.length vc = .slice (some ⟨g,0,none⟩) keys.length cap:=by
     rcases HSV.out.shape with ⟨-,h0⟩ | ⟨g,cap,hv,-,-,-⟩
     ·omega
     ·exact ⟨g,cap,hv⟩
    cases hve
    have v0:=hw2.cell HM1.out HM2.out (HSV.out.cell (j:=k) (by omega))
    obtain ⟨xa,xc,hxe,hxc⟩:=hvk.row.slice
    rw [hxe] at v0
    obtain ⟨G,hGd⟩:∃ G,G=g (txtN keys k):=⟨_,rfl⟩
    rw [← hGd] at hvk hgl HV1 v0 hxe hxc
    have hrow:=hvk.row
    rw [hxe] at hrow
    have HROW:=Hid.intro hrow
    have HVK:=Hid.intro hvk
    have hgl':(G.length:Int)≤60:=by omega
    have HW2:=Hid.intro hw2
    clear hw hC hM hw2 hT' hC' hst ml1 ml2 mo0 mo1 mr1 kc hlk hrow hvk hGd hxe hxc f0 HT hq hLk
    go_wp2_with fail
    clear nr1 v0
    go_loopw [37] (fun i wr => ∃ j:Nat,j≤G.length∧i = .int .i64 j∧Maps2 bh bv W wr∧CMap wr bh (n1 + (k + 1)) (addCL q c (keys.take (k + 1)))∧LMap N wr bv (n2 + k * 60 + j) (putL (addVL q g h.svc h.type v (keys.take k)) h.svc h.type (txtN keys k) (G.take j))) (fun i _=>G.length - (intOf i).toNat)
    case atStart=>exact ⟨0,Nat.zero_le _,rfl,HW2.out,HC2.out,HM2'.out⟩
    case round =>
     obtain ⟨j,hj,rfl,hw,hC,hM⟩:=hrel
     by_cases hltj:j < G.length
     ·have hltj':(j:Int) < (G.length:Int):=by omega
      have hj0:(0:Int)≤(j:Int):=by omega
      obtain ⟨ge2,gcp,hge⟩:∃ g cap,Value.slice xa G.length xc = .slice (some ⟨g,0,none⟩) G.length cap:=by
       rcases HROW.out.shape with ⟨-,h0⟩ | ⟨g,cap,hv,-,-,-⟩
       ·omega
       ·exact ⟨g,cap,hv⟩
      cases hge
      obtain ⟨x0,x1,x2⟩:=valCells (hw.row HM1.out HM2.out HROW.out) hltj
      obtain ⟨xk1,xk2,xk3⟩:=HVK.out.keys j hltj
      obtain ⟨sf,st⟩:=HVK.out.good j hltj
      obtain ⟨A,C,hkv,hAC⟩:=xk2.slice
      rw [hkv] at x2 xk2
      have HTJ:Hid (G.take (j + 1)=G.take j ++ [nthV G j]):=Hid.intro (take_val hltj)
      generalize nthV G j=x at *
      have ml2:=hw.cell HM1.out HM2.out l2
      have mo0:=hw.cell HM1.out HM2.out o0
      have mo1:=hw.cell HM1.out HM2.out o1
      have hblt:bl < wr.heap.size:=block_lt_of_cell ml2
      have hbot:bo < wr.heap.size:=block_lt_of_cell mo0
      obtain ⟨Y,hY⟩:∃ Y,Y=(wr.alloc (Obj.cells #[.string x.field,.string x.text,.slice A x.nk C] 59)).alloc (Obj.cells #[.int .i64 h.svc,.string h.type,.string x.field] 118):=⟨_,rfl⟩
      have hBY:Below wr.heap.size wr Y:=by rw [hY]; exact below2 _ _ _
      have y0:Y.cell? ⟨wr.heap.size,0,none⟩=some (.string x.field):=by rw [hY,World.cell?_alloc_past _ _ _ (by simp),World.cell?_alloc_at _ _ _ _ rfl]; rfl
      have y1:Y.cell? ⟨wr.heap.size,1,none⟩=some (.string x.text):=by rw [hY,World.cell?_alloc_past _ _ _ (by simp),World.cell?_alloc_at _ _ _ _ rfl]; rfl
      have y2:Y.cell? ⟨wr.heap.size,2,none⟩=some (.slice A x.nk C):=by rw [hY,World.cell?_alloc_past _ _ _ (by simp),World.cell?_alloc_at _ _ _ _ rfl]; rfl
      have z0:Y.cell? ⟨wr.heap.size + 1,0,none⟩=some (.int .i64 h.svc):=by rw [hY,World.cell?_alloc_at _ _ _ _ (by simp)]; rfl
      have z1:Y.cell? ⟨wr.heap.size + 1,1,none⟩=some (.string h.type):=by rw [hY,World.cell?_alloc_at _ _ _ _ (by simp)]; rfl
      have z2:Y.cell? ⟨wr.heap.size + 1,2,none⟩=some (.string x.field):=by rw [hY,World.cell?_alloc_at _ _ _ _ (by simp)]; rfl
      have hwY:=(hw.kept hBY).drew
      have hval:ValIs N Y.drew (valU x A C) x:=⟨⟨A,C,rfl,(hwY.row HM1.out HM2.out xk2).lower hNB⟩,xk1,xk3⟩
      have hMY:LMap N Y.drew bv (n2 + k * 60 + j) (putL (addVL q g h.svc h.type v (keys.take k)) h.svc h.type (txtN keys k) (G.take j)):=(hM.kept hBY).kept (Below.refl _ _).drew
      obtain ⟨w',hst,hM',hT'⟩:=hMY.store (by unfold maxLen; omega) hs ht sf hsm hval
      have HEND:Hid (Maps2 bh bv W w'∧CMap w' bh (n1 + (k + 1)) (addCL q c (keys.take (k + 1)))∧LMap N w' bv (n2 + k * 60 + (j + 1)) (putL (addVL q g h.svc h.type v (keys.take k)) h.svc h.type (txtN keys k) (G.take (j + 1)))):=⟨hwY.turned hT' (.inr rfl),((hC.kept hBY).at (w':=Y.drew) rfl).turned hT' hne,by rw [HTJ.out,putL_snoc]; exact hM'⟩
      have kcY:=HKC.out _ hwY
      have ml2Y:Y.drew.cell? ⟨bl,2,none⟩=some (.map (some bv)):=keptCell hBY ml2
      unfold valU at hst
      clear hw hC hM hMY hM' hT' hval xk1 xk2 xk3 hkv hBY hwY
      go_upto_region 10 with fail
      rw [← hY]
      refine addPut (fun j _ w1=>if j=0 then w1=Y.drew else w1=w') (bl:=bl) (bv:=bv) (bo:=wr.heap.size + 1) (bx:=wr.heap.size) (kb:=kb) (ko:=ko) (nk:=keys.length) (kcap:=kcap) (k:=k) (xn:=x.nk) (xc:=C) (ka:=A) (sv:=h.svc) (ty:=h.type) (f:=x.field) (tx:=x.text) (key:=txtN keys k) (by kernel_rfl) rfl rfl rfl rfl rfl hlt' hk0 (fun _=>by rfl) (fun j x w1 hj hp=>?_) (fun x w1 hp=>?_) ?_
      ·have hj0:j=0:=by omega
       subst hj0
       have hp:w1=Y.drew:=hp
       subst hp
       exact ⟨ml2Y,z0,z1,z2,kcY,y0,y1,y2⟩
      ·have hp:w1=Y.drew:=hp
       subst hp
       exact ⟨w',hst,rfl⟩
      intro s w2' hp2
      have hp2:w2'=w':=hp2
      subst hp2
      clear hst y0 y1 y2 z0 z1 z2 kcY ml2Y hY x0 x1 x2 ml2 mo0 mo1
      simp only [putAll,Act.put,List.setIfInBounds_toArray,List.set_cons_succ,List.set_cons_zero]
      generalize s 48=t48
      generalize s 49=t49
      generalize s 50=t50
      generalize s 51=t51
      generalize s 52=t52
      generalize s 53=t53
      generalize s 54=t54
      generalize s 55=t55
      generalize s 56=t56
      go_wp2_with fail
      go_roundw
      case rel=>exact ⟨j + 1,by omega,by go_num,HEND.out.1,HEND.out.2.1,HEND.out.2.2⟩
      case measure=>simp [intOf]; omega
     ·have hjn:j=G.length:=by omega
      have HR:Hid (Maps2 bh bv W wr∧CMap wr bh (n1 + (k + 1)) (addCL q c (keys.take (k + 1)))∧LMap N wr bv (n2 + (k + 1) * 60) (addVL q g h.svc h.type v (keys.take (k + 1)))):=by
       rw [HV1.out]
       refine ⟨hw,hC,?_⟩
       rw [hjn,List.take_length] at hM
       exact hM.mono (by omega)
      clear hw hC hM
      go_wp2_with fail
      go_roundw
      case rel=>exact ⟨k + 1,by omega,by go_num,HR.out.1,HR.out.2.1,HR.out.2.2⟩
      case measure=>simp [intOf]; omega
  ·have hkn:k=keys.length:=by omega
   have HR:Hid (CMap wr bh (n1 + keys.length) (addCL q c keys)∧LMap N wr bv (n2 + keys.length * 60) (addVL q g h.svc h.type v keys)∧Maps2 bh bv w wr):=by
    rw [hkn,List.take_length] at hC hM
    refine ⟨hC,hM,?_⟩
    exact KeepX.trans (KeepX.of HBW.out) hw (fun _ _ h=>h)
   clear hw hC hM
   go_wp2_with fail
   exact bodyPost_end (v:=.tuple #[]) (by simp [results,Tryz.results44,go_sem]) rfl ⟨rfl,HR.out⟩
end Go.Proofs.YtjjggefmmeminacGreat
