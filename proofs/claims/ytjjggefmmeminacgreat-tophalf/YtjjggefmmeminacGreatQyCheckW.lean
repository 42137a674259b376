import Derived.Test.YtjjggefmmeminacGreatQyCheck
namespace Go.Proofs.YtjjggefmmeminacGreat
open Go.RowKit Go.Sort Go.PlainAid
def CheckListOk (d:Nat):Prop := ∀ (pa:Option Addr) (pn pcap:Nat) (P:Nat→LPart) (name:ByteArray) (a:Option Addr) (cap:Nat) (L:List (Pick d)) (w:World),PartsAt w pa pn P→PicksAt w d a L→L.length≤cap →
  Calls Tryz.prog 41 #[.slice pa pn pcap,.string name,.slice a L.length cap] w fun e w'=>e = .returned (.int .i64 (cL pn P d name L))∧Below w.heap.size w w'
theorem fieldIdx_lt {n:Nat} {F:Nat→LField} {name:ByteArray} (h : ¬ fieldIdx n F name < 0):∃ k:Nat,fieldIdx n F name=(k:Int)∧k < n:=by
 rcases idx_cases n (fun i=>eqs (F i).name name) with ⟨h1,-⟩ | ⟨k,hk,h1,-⟩
 ·exact absurd (by unfold fieldIdx; rw [h1]; decide) h
 ·exact ⟨k,h1,hk⟩
set_option maxRecDepth 100000 in
set_option maxHeartbeats 2000000 in
theorem checkPick_any (d:Nat) (ih:CheckListOk d) (pa:Option Addr) (pn pcap:Nat) (P:Nat→LPart) (fa:Option Addr) (nf fcap:Nat) (F:Nat→LField) (a:Option Addr) (cap:Nat) (L:List (Pick (d + 1))) (i:Nat) (w:World) (hp:PartsAt w pa pn P) (hF:FieldsAt w fa nf F) (hP:PicksAt w (d + 1) a L) (hcap:L.length≤cap) (hi:i < L.length) :
  Calls Tryz.prog 63 #[.slice pa pn pcap,.slice fa nf fcap,.slice a L.length cap,.int .i64 (i:Int)] w fun e w'=>e = .returned (.int .i64 (cP pn P d nf F ((L.take i).map called) (pickN L i)))∧Below w.heap.size w w':=by
 have hn:L.length≤9223372036854775807:=hP.max
 have hnf:nf≤9223372036854775807:=hF.1
 obtain ⟨b,o,A,C,ha,c0,c1,c2,hC,s0,s1,hs⟩:=hP.2 i hi
 subst ha
 have HE:Hid (cP pn P d nf F ((L.take i).map called) (pickN L i)=if fieldIdx nf F (pfield (pickN L i)) < 0 then 5 else if ((L.take i).map called).any (fun q=>eqs q (called (pickN L i))) then 6 else
   if decide ((F (fieldIdx nf F (pfield (pickN L i))).toNat).kind=1) == !(subs (pickN L i)).isEmpty then 7 else if (subs (pickN L i)).isEmpty then 0 else cL pn P d (F (fieldIdx nf F (pfield (pickN L i))).toNat).type (subs (pickN L i))):=rfl
 have htk:(L.take i).length=i:=by rw [List.length_take]; omega
 have hPT:=hP.less i
 have hi':(i:Int) < (L.length:Int):=by omega
 have hi0:(0:Int)≤(i:Int):=by omega
 have hic:(i:Int)≤(cap:Int):=by omega
 generalize hV:w.alloc (Obj.cells #[.string (nick (pickN L i)),.string (pfield (pickN L i)),.slice A (subs (pickN L i)).length C] 76)=V
 have hBV:Below w.heap.size w V:=by rw [← hV]; exact below1 _ _
 have v0:V.cell? ⟨w.heap.size,0,none⟩=some (.string (nick (pickN L i))):=by rw [← hV,World.cell?_alloc_at _ _ _ _ rfl]; rfl
 have v1:V.cell? ⟨w.heap.size,1,none⟩=some (.string (pfield (pickN L i))):=by rw [← hV,World.cell?_alloc_at _ _ _ _ rfl]; rfl
 have v2:V.cell? ⟨w.heap.size,2,none⟩=some (.slice A (subs (pickN L i)).length C):=by rw [← hV,World.cell?_alloc_at _ _ _ _ rfl]; rfl
 have hcl:=field_any fa nf fcap F (pfield (pickN L i)) V (hF.kept hBV)
 have HBV:=hidI hBV
 have HPT:=hidI hPT
 have Hp:=hidI hp
 have HF:=hidI hF
 have HS:=hidI hs
 clear hP hPT hp hF hs hBV
 generalize pickN L i=p at *
 generalize hah:(L.take i).map called=ah at *
 have HAH:=hidI hah
 clear hah
 go_enter Tryz.func63,Tryz.ntmps63
 go_wp2_with fail
 clear hV c0 c1 c2
 refine hcl.mono ?_
 clear hcl
 rintro e w1 ⟨rfl,hw1⟩
 have k0:=keptCell hw1 v0
 have k1:=keptCell hw1 v1
 have k2:=keptCell hw1 v2
 have HB1:Hid (Below w.heap.size w w1):=HBV.out.trans (hw1.mono HBV.out.size)
 clear hw1 v0 v1 v2 HBV
 by_cases hneg:fieldIdx nf F (pfield p) < 0
 ·have HR:Hid (cP pn P d nf F ah p=5):=by rw [HE.out,if_pos hneg]; rfl
  go_wp2_with fail
  go_ret
  exact ⟨by rw [HR.out]; rfl,HB1.out⟩
 rw [if_neg hneg] at HE
 obtain ⟨x,hx,hxn⟩:=fieldIdx_lt hneg
 rw [hx] at HE ⊢
 rw [Int.toNat_natCast] at HE
 have hx0 : ¬ (x:Int) < 0:=by omega
 clear hneg hx
 have cC:∀ d' os,Calls Tryz.prog 67 #[.agg #[.string (nick p),.string (pfield p),.slice A (subs p).length C]] (grow (redrawn w1 d') os) fun e w''=>e = .returned (.string (called p))∧∃ r:Regrown,w''=grow (redrawn w1 r.d) r.os:=fun d' os=>Calls.regrown_of (qcalled_any _ _ _ _ _ _)
 have cI:∀ d' os,Calls Tryz.prog 92 #[.slice (some ⟨b,o,none⟩) i cap,.string (called p)] (grow (redrawn w1 d') os) fun e w''=>e = .returned (.bool (ah.any (fun q=>eqs q (called p))))∧∃ r:Regrown,w''=grow (redrawn w1 r.d) r.os:=fun d' os=>by
  have h:=isCalled_any d (some ⟨b,o,none⟩) cap (L.take i) (called p) (grow (redrawn w1 d') os) ((HPT.out.kept HB1.out).kept (below_regrown w1 d' os))
  rw [htk,HAH.out] at h
  exact Calls.regrown_of h
 have d0:=cell_regrown k0
 have d1:=cell_regrown k1
 have d2:=cell_regrown k2
 generalize ah.any (fun q=>eqs q (called p))=any at *
 go_wp2_with fail
 refine wp_region_quiet_below (by kernel_rfl) (by kernel_rfl) ?_
 repeat (go_big_quiet_step (first | exact cC _ _ | exact cI _ _))
 refine wpQuiet_nil ?_
 intro _ hw'
 obtain ⟨⟨dq,osq⟩,hw''⟩:=hw'
 subst hw''
 have hB2:=below_regrown w1 dq osq
 have HB2:Hid (Below w.heap.size w (grow (redrawn w1 dq) osq)):=HB1.out.trans (hB2.mono HB1.out.size)
 have k2:=d2 dq osq
 clear hB2 cC cI d0 d1 d2 k0 k1 HB1
 generalize grow (redrawn w1 dq) osq=w2 at *
 cases any with
 | true =>
  have HR:Hid (cP pn P d nf F ah p=6):=by rw [HE.out]; rfl
  go_wp2_with fail
  go_ret
  exact ⟨by rw [HR.out]; rfl,HB2.out⟩
 | false =>
 obtain ⟨fb,fo,hfa,f0,f1,f2,hfs0,hfs2,hfw⟩:=(HF.out.kept HB2.out).2 x hxn
 subst hfa
 have hx':(x:Int) < (nf:Int):=by omega
 have hx00:(0:Int)≤(x:Int):=by omega
 clear hx0
 have HE2:Hid (cP pn P d nf F ah p=if decide ((F x).kind=1) == !(subs p).isEmpty then 7 else if (subs p).isEmpty then 0 else cL pn P d (F x).type (subs p)):=by rw [HE.out]; rfl
 clear HE
 generalize hkd:(F x).kind=kd at *
 generalize hty:(F x).type=ty at *
 by_cases hz:(subs p).length=0
 ·have hemp:(subs p).isEmpty=true:=by rw [List.isEmpty_iff]; exact List.eq_nil_of_length_eq_zero hz
  rw [hemp] at HE2
  have hz' : ¬ 0 < ((subs p).length:Int):=by omega
  have hzd:decide (0 < (subs p).length)=false:=decide_eq_false (by omega)
  have hzn : ¬ 0 < (subs p).length:=by omega
  by_cases hk1:kd=1
  ·have hk1':(kd == 1)=true:=by simpa using hk1
   have HR:Hid (cP pn P d nf F ah p=0):=by rw [HE2.out,hk1]; rfl
   clear hz hk1 hemp
   go_wp2_with fail
   go_quiet (fail)
   go_wp2_with fail
   go_ret
   exact ⟨by rw [HR.out]; rfl,HB2.out.trans ((below_drewN _ _).mono HB2.out.size)⟩
  ·have hk1':(kd == 1)=false:=by simpa using hk1
   have HR:Hid (cP pn P d nf F ah p=7):=by rw [HE2.out,decide_eq_false hk1]; rfl
   clear hz hk1 hemp
   go_wp2_with fail
   go_quiet (fail)
   go_wp2_with fail
   go_ret
   exact ⟨by rw [HR.out]; rfl,HB2.out.trans ((below_drewN _ _).mono HB2.out.size)⟩
 ·have hemp:(subs p).isEmpty=false:=by
   cases h:(subs p).isEmpty with
   | false=>rfl
   | true=>exact absurd (by rw [List.isEmpty_iff.1 h]; rfl) hz
  rw [hemp] at HE2
  have hz':0 < ((subs p).length:Int):=by omega
  have hzd:decide (0 < (subs p).length)=true:=decide_eq_true (by omega)
  have hzn:0 < (subs p).length:=by omega
  by_cases hk1:kd=1
  ·have hk1':(kd == 1)=true:=by simpa using hk1
   have HR:Hid (cP pn P d nf F ah p=7):=by rw [HE2.out,hk1]; rfl
   clear hz hk1 hemp
   go_wp2_with fail
   go_quiet (fail)
   go_wp2_with fail
   go_ret
   exact ⟨by rw [HR.out]; rfl,HB2.out.trans ((below_drewN _ _).mono HB2.out.size)⟩
  ·have hk1':(kd == 1)=false:=by simpa using hk1
   have HR:Hid (cP pn P d nf F ah p=cL pn P d ty (subs p)):=by rw [HE2.out,decide_eq_false hk1]; rfl
   clear hz hk1 hemp HE2
   go_wp2_with fail
   go_quiet (fail)
   go_wp2_with fail
   have hB3:=below_drewN w2 nq
   have k2:=keptCell hB3 k2
   have f2:=keptCell hB3 f2
   have HB3:Hid (Below w.heap.size w (w2.drewN nq)):=HB2.out.trans (hB3.mono HB2.out.size)
   generalize w2.drewN nq=w3 at *
   have d2:=cell_regrown k2
   have g2:=cell_regrown f2
   have cL':∀ d' os,Calls Tryz.prog 41 #[.slice pa pn pcap,.string ty,.slice A (subs p).length C] (grow (redrawn w3 d') os) fun e w''=>e = .returned (.int .i64 (cL pn P d ty (subs p)))∧∃ r:Regrown,w''=grow (redrawn w3 r.d) r.os:=fun d' os=>by
    have hb:=below_regrown w3 d' os
    exact Calls.regrown_of (ih pa pn pcap P ty A C (subs p) _ ((Hp.out.kept HB3.out).kept hb) ((HS.out.kept HB3.out).kept hb) hC)
   clear f0 f1 k2 f2 hB3
   refine wp_region_quiet_below (by kernel_rfl) (by kernel_rfl) ?_
   repeat (go_big_quiet_step (first | exact cL' _ _))
   refine wpQuiet_nil ?_
   intro _ hw'
   obtain ⟨⟨dq,osq⟩,hw''⟩:=hw'
   subst hw''
   have hB4:=below_regrown w3 dq osq
   have HB4:Hid (Below w.heap.size w (grow (redrawn w3 dq) osq)):=HB3.out.trans (hB4.mono HB3.out.size)
   clear hB4
   go_wp2_with fail
   go_ret
   exact ⟨by rw [HR.out]; rfl,HB4.out⟩
set_option maxRecDepth 100000 in
set_option maxHeartbeats 2000000 in
theorem checkList_of (d:Nat) (hp:∀ d',d=d' + 1→CheckListOk d'):CheckListOk d:=by
 intro pa pn pcap P name a cap L w hPA hP hcap
 have hn:L.length≤9223372036854775807:=hP.max
 have hpn:pn≤9223372036854775807:=hPA.1
 have hcl:=partIdx_any pa pn pcap P name w hPA
 have HP:=hidI hP
 have HPA:=hidI hPA
 have HE:Hid (cL pn P d name L=if partIdx pn P name < 0 then 5 else cR pn P d (P (partIdx pn P name).toNat).nf (P (partIdx pn P name).toNat).F [] L):=rfl
 have HX:Hid (¬ partIdx pn P name < 0→∃ k:Nat,partIdx pn P name=(k:Int)∧k < pn):=fun h=>by
  rcases idx_cases pn (fun i=>eqs (P i).name name) with ⟨h1,-⟩ | ⟨k,hk,h1,-⟩
  ·exact absurd (by unfold partIdx; rw [h1]; decide) h
  ·exact ⟨k,h1,hk⟩
 clear hP hPA
 generalize partIdx pn P name=fx at *
 go_enter Tryz.func41,Tryz.ntmps41
 go_wp2_with fail
 refine hcl.mono ?_
 clear hcl
 rintro e w1 ⟨rfl,hw1⟩
 have HB1:=hidI hw1
 clear hw1
 by_cases hneg:fx < 0
 ·have HR:Hid (cL pn P d name L=5):=by rw [HE.out,if_pos hneg]; rfl
  go_wp2_with fail
  go_ret
  exact ⟨by rw [HR.out]; rfl,HB1.out⟩
 obtain ⟨x,rfl,hx⟩:=HX.out (by omega)
 rw [if_neg hneg,Int.toNat_natCast] at HE
 have hx0 : ¬ (x:Int) < 0:=hneg
 have hx':(x:Int) < (pn:Int):=by omega
 have hx00:(0:Int)≤(x:Int):=by omega
 clear hneg HX
 go_wp2_with fail
 go_loopw [17] (fun i wr => ∃ k:Nat,k≤L.length∧i = .int .i64 k∧Hid (∃ l:List ByteArray,(∀ d' (e:d=d' + 1),l=((e ▸ L:List (Pick (d' + 1))).take k).map called)∧cR pn P d (P x).nf (P x).F [] L=cR pn P d (P x).nf (P x).F l (L.drop k))∧Below w.heap.size w wr) (fun i _=>L.length - (intOf i).toNat)
 case atStart=>exact ⟨0,Nat.zero_le _,rfl,⟨[],(fun d' e=>by subst e; rfl),rfl⟩,HB1.out⟩
 case round =>
  obtain ⟨k,hk,rfl,HR,hBr⟩:=hrel
  by_cases hlt:k < L.length
  ·cases d with
   | zero=>exact absurd hlt (by rw [nil0 L]; exact Nat.not_lt_zero _)
   | succ d =>
   obtain ⟨l,hl,HR⟩:=HR
   have hl:=hl d rfl
   have hl:l=(L.take k).map called:=hl
   subst hl
   have HQ:=hidI (hp d rfl)
   obtain ⟨b,o,ha,c0,c1,c2,c3,s0,hF⟩:=(HPA.out.kept hBr).2 x hx
   subst ha
   have hlt':(k:Int) < (L.length:Int):=by omega
   have hk0:(0:Int)≤(k:Int):=by omega
   have hcl:=checkPick_any d HQ.out (some ⟨b,o,none⟩) pn pcap P (P x).fa (P x).nf (P x).fcap (P x).F a cap L k wr (HPA.out.kept hBr) hF (HP.out.kept hBr) hcap hlt
   have HD:Hid (cR pn P (d + 1) (P x).nf (P x).F ((L.take k).map called) (L.drop k)=if cP pn P d (P x).nf (P x).F ((L.take k).map called) (pickN L k)≠0 then cP pn P d (P x).nf (P x).F ((L.take k).map called) (pickN L k) else cR pn P (d + 1) (P x).nf (P x).F ((L.take (k + 1)).map called) (L.drop (k + 1))):=by
    rw [drop_pick hlt,cR_cons,take_pick hlt,List.map_append]; rfl
   have HRR:=hidI HR
   clear HR hF
   generalize cP pn P d (P x).nf (P x).F ((L.take k).map called) (pickN L k)=r at *
   go_wp2_with fail
   refine hcl.mono ?_
   clear hcl
   rintro e w2 ⟨rfl,hw2⟩
   have HB2:Hid (Below w.heap.size w w2):=hBr.trans (hw2.mono hBr.size)
   clear hw2 c0 c1 c2 c3
   by_cases hr:r=0
   ·have hr':(r != 0)=false:=by simpa using hr
    have HR2:Hid (cR pn P (d + 1) (P x).nf (P x).F [] L=cR pn P (d + 1) (P x).nf (P x).F ((L.take (k + 1)).map called) (L.drop (k + 1))):=by rw [HRR.out,HD.out,if_neg (by simp [hr])]; rfl
    clear hr HD HRR
    go_wp2_with fail
    go_roundw
    case rel=>exact ⟨k + 1,by omega,by go_num,⟨(L.take (k + 1)).map called,(fun d' e=>by cases e; rfl),HR2.out⟩,HB2.out⟩
    case measure=>simp [intOf]; omega
   ·have hr':(r != 0)=true:=by simpa using hr
    have HR2:Hid (cL pn P (d + 1) name L=r):=by rw [HE.out,HRR.out,HD.out,if_pos hr]; rfl
    clear hr HD HRR
    go_wp2_with fail
    go_ret
    exact ⟨by rw [HR2.out]; rfl,HB2.out⟩
  ·have hkn:k=L.length:=by omega
   have HR2:Hid (cL pn P d name L=0):=by
    obtain ⟨l,-,HR⟩:=HR
    rw [HE.out,HR,hkn,List.drop_length,cR_nil]; rfl
   clear hkn HR
   go_wp2_with fail
   go_ret
   exact ⟨by rw [HR2.out]; rfl,hBr⟩
theorem checkList_any:∀ d,CheckListOk d
 | 0=>checkList_of 0 (fun _ h=>by omega)
 | d + 1=>checkList_of (d + 1) (fun d' h=>by cases h; exact checkList_any d)
set_option maxRecDepth 100000 in
set_option maxHeartbeats 1000000 in
theorem qcheck_any (pa:Option Addr) (pn pcap:Nat) (P:Nat→LPart) (d:Nat) (type key:ByteArray) (a:Option Addr) (cap:Nat) (L:List (Pick d)) (w:World) (hPA:PartsAt w pa pn P) (hP:PicksAt w d a L) (hcap:L.length≤cap) (hs0:Small type) (hs1:Small key) :
  Calls Tryz.prog 23 #[.slice pa pn pcap,.agg #[.string type,.string key,.slice a L.length cap]] w fun e w'=>e = .returned (.int .i64 (cA pn P d type key L))∧Below w.heap.size w w':=by
 generalize hW:w.alloc (Obj.cells #[.string type,.string key,.slice a L.length cap] 25)=W
 have hBW:Below w.heap.size w W:=by rw [← hW]; exact below1 _ _
 have hbx:W.heap[w.heap.size]? = some (.cells #[.string type,.string key,.slice a L.length cap] 25 (0,0)):=by rw [← hW]; exact heap_alloc_new _ _
 have c0:W.cell? ⟨w.heap.size,0,none⟩=some (.string type):=by simp [World.cell?,hbx]
 have c1:W.cell? ⟨w.heap.size,1,none⟩=some (.string key):=by simp [World.cell?,hbx]
 have c2:W.cell? ⟨w.heap.size,2,none⟩=some (.slice a L.length cap):=by simp [World.cell?,hbx]
 have hcl:=qwrong_any d type key a cap L W (hP.kept hBW) hs0 hs1
 have HP:=hidI hP
 have HPA:=hidI hPA
 have HBW:=hidI hBW
 have HE:Hid (cA pn P d type key L=if wA d type key L≠0 then wA d type key L else cL pn P d type L):=rfl
 clear hP hbx hBW hPA
 generalize wA d type key L=r at *
 go_enter Tryz.func23,Tryz.ntmps23
 go_wp2_with fail
 clear hW
 refine hcl.mono ?_
 clear hcl
 rintro e w1 ⟨rfl,hw1⟩
 have c0:=keptCell hw1 c0
 have c2:=keptCell hw1 c2
 have HB1:Hid (Below w.heap.size w w1):=HBW.out.trans (hw1.mono HBW.out.size)
 clear hw1 HBW c1
 by_cases hr:r=0
 ·have hr':(r != 0)=false:=by simpa using hr
  have HR:Hid (cA pn P d type key L=cL pn P d type L):=by rw [HE.out,if_neg (by simp [hr])]; rfl
  have hcl:=checkList_any d pa pn pcap P type a cap L w1 (HPA.out.kept HB1.out) (HP.out.kept HB1.out) hcap
  clear hr HE
  go_wp2_with fail
  refine hcl.mono ?_
  clear hcl
  rintro e w2 ⟨rfl,hw2⟩
  have HB2:Hid (Below w.heap.size w w2):=HB1.out.trans (hw2.mono HB1.out.size)
  clear hw2
  go_wp2_with fail
  go_ret
  exact ⟨by rw [HR.out]; rfl,HB2.out⟩
 ·have hr':(r != 0)=true:=by simpa using hr
  have HR:Hid (cA pn P d type key L=r):=by rw [HE.out,if_pos hr]; rfl
  clear hr HE
  go_wp2_with fail
  go_ret
  exact ⟨by rw [HR.out]; rfl,HB1.out⟩
end Go.Proofs.YtjjggefmmeminacGreat
