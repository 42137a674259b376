import Derived.Test.YtjjggefmmeminacGreatJSv
import Derived.Deep.RegionLaw
import Derived.Deep.RegionWith
namespace Go.Proofs.YtjjggefmmeminacGreat
open Go.RowKit Go.Sort
theorem Tryz.e144:∀ args w,(callFunc 144 args).run Tryz.prog w = .ok (.enter 144 args) w:=enters_of Tryz.func144 (by kernel_rfl) rfl
theorem TMap.cell {w w':World} {m n:Nat} {f : ByteArray→Option Int} (h:TMap w m n f) (hg:w.grownBy w' (some m)) {p:Addr} {v:Value} (hc:w.cell? p=some v):w'.cell? p=some v:=by
 refine (World.cell?_of_block (w:=w) (hg.block p.block (block_lt_of_cell hc) fun e=>?_)).trans hc
 obtain ⟨D,⟨es,clock,h1,-⟩,-⟩:=h
 cases e
 simp [World.cell?,h1] at hc
theorem KeysAt.grown {w w':World} {m n k:Nat} {f : ByteArray→Option Int} (h:TMap w m k f) (hg:w.grownBy w' (some m)) {a:Option Addr} {K:Nat→ByteArray} (hk:KeysAt w a n K):KeysAt w' a n K :=
 ⟨hk.1,fun i hi=>let ⟨b,o,e,hc,hs⟩:=hk.2 i hi; ⟨b,o,e,h.cell hg hc,hs⟩⟩
theorem grownBy_below {w w':World} {m:Nat} (hg:w.grownBy w' (some m)) {B:Nat} (hm:B≤m) (hB:B≤w.heap.size):Below B w w' :=
 ⟨hg.os,hg.tape,hg.output,hg.size,fun k hk=>hg.block k (by omega) (fun e=>by cases e; omega)⟩
set_option maxRecDepth 100000 in
set_option maxHeartbeats 1000000 in
theorem indexTexts_any (a:Option Addr) (n cap b m:Nat) (K:Nat→ByteArray) (w:World) (hK:KeysAt w a n K) (hA:Asked w b m K 0) :
  Calls Tryz.prog 143 #[.slice a n cap,.func (.func 144) #[] #[.pointer (some ⟨b,0,none⟩)]] w fun e w'=>e = .returned (.int .i64 (idx n (stood K)))∧w.grownBy w' (some m):=by
 have hn:n≤9223372036854775807:=hK.1
 have HK:=Hid.intro hK
 have HA:=Hid.intro hA
 have eK:=Tryz.e144
 clear hK hA
 go_enter Tryz.func143,Tryz.ntmps143
 go_wp2_with fail
 go_loopw [8] (fun i wr => ∃ k:Nat,k≤n∧i = .int .i64 k∧Hid (∀ j,j < k→stood K j=false)∧Asked wr b m K k∧w.grownBy wr (some m)) (fun i _=>n - (intOf i).toNat)
 case atStart=>exact ⟨0,Nat.zero_le _,rfl,(fun j hj=>absurd hj (Nat.not_lt_zero _)),HA.out,⟨rfl,rfl,rfl,Nat.le_refl _,fun _ _ _=>rfl⟩⟩
 case round =>
  obtain ⟨k,hk,rfl,hb,hAk,hg⟩:=hrel
  by_cases hlt:k < n
  ·obtain ⟨b1,o1,rfl,f0,hs⟩:=(HK.out.grown HA.out.map hg).2 k hlt
   have hlt':(k:Int) < (n:Int):=by omega
   have hk0:(0:Int)≤(k:Int):=by omega
   have HG:=Hid.intro hg
   have hcl:=again1_any b m k K wr hs (by unfold maxLen; omega) hAk
   clear hg hAk hs
   go_wp2_with fail
   refine hcl.mono ?_
   clear hcl
   rintro e w1 ⟨rfl,hA1,hg1⟩
   have HA1:=Hid.intro hA1
   have HG1:Hid (w.grownBy w1 (some m)):=grownBy_trans HG.out hg1
   clear hA1 hg1 f0
   cases hpk:stood K k with
   | true =>
    have hfin:Hid (idx n (stood K)=(k:Int)):=idx_hit hlt hpk hb
    clear hpk
    go_wp2_with fail
    go_ret
    exact ⟨by rw [hfin.out]; rfl,HG1.out⟩
   | false =>
    have hb2:Hid (∀ j,j < k + 1→stood K j=false):=fun j hj=>by
     rcases Nat.lt_succ_iff_lt_or_eq.1 hj with h | h
     ·exact hb j h
     ·rw [h]; exact hpk
    clear hpk
    go_wp2_with fail
    go_roundw
    case rel=>exact ⟨k + 1,by omega,by go_num,hb2,HA1.out,HG1.out⟩
    case measure=>simp [intOf]; omega
  ·have hfin:Hid (idx n (stood K) = -1):=idx_none (fun j hj=>hb j (by omega))
   have HG:=Hid.intro hg
   clear hAk hg
   go_wp2_with fail
   go_ret
   exact ⟨by rw [hfin.out]; rfl,HG.out⟩
set_option maxRecDepth 100000 in
theorem containsTexts_any (a:Option Addr) (n cap b m:Nat) (K:Nat→ByteArray) (w:World) (hK:KeysAt w a n K) (hA:Asked w b m K 0) :
  Calls Tryz.prog 125 #[.slice a n cap,.func (.func 144) #[] #[.pointer (some ⟨b,0,none⟩)]] w fun e w'=>e = .returned (.bool (twice n K))∧w.grownBy w' (some m):=by
 have hcl:=indexTexts_any a n cap b m K w hK hA
 clear hK hA
 go_enter Tryz.func125,Tryz.ntmps125
 go_wp2_with fail
 refine hcl.mono ?_
 clear hcl
 rintro e w1 ⟨rfl,hg⟩
 have HG:=Hid.intro hg
 clear hg
 have HT:Hid (twice n K=decide (0≤idx n (stood K))):=rfl
 generalize idx n (stood K)=r at *
 go_wp2_with fail
 go_ret
 exact ⟨by rw [HT.out]; rfl,HG.out⟩
set_option maxRecDepth 100000 in
set_option maxHeartbeats 1000000 in
theorem swrongFields_any (fa ka:Option Addr) (nf fcap n cap:Nat) (G:Nat→LField) (F:Nat→ByteArray) (w:World) (hG:FieldsAt w fa nf G) (hF:KeysAt w ka n F) :
  Calls Tryz.prog 124 #[.slice fa nf fcap,.slice ka n cap] w fun e w'=>e = .returned (.int .i64 (fieldsE nf G n F))∧Below w.heap.size w w':=by
 have hn:n≤9223372036854775807:=hF.1
 have HG:=Hid.intro hG
 have HF:=Hid.intro hF
 have eK:=Tryz.e144
 clear hG hF
 go_enter Tryz.func124,Tryz.ntmps124
 go_wp2_with fail
 refine (again_any F w).mono ?_
 rintro e w0 ⟨b,m,rfl,hb0,hm0,hA0,hB0⟩
 have HA0:=Hid.intro hA0
 have HB0:=Hid.intro hB0
 clear hA0 hB0
 go_wp2_with fail
 go_loopw [11] (fun i wr => ∃ k:Nat,k≤n∧i = .int .i64 k∧Hid (∀ j,j < k→fieldE nf G F j=0)∧Asked wr b m F k∧Below w.heap.size w wr) (fun i _=>n - (intOf i).toNat)
 case atStart=>exact ⟨0,Nat.zero_le _,rfl,(fun j hj=>absurd hj (Nat.not_lt_zero _)),HA0.out,HB0.out⟩
 case round =>
  obtain ⟨k,hk,rfl,hb,hAk,hB⟩:=hrel
  by_cases hlt:k < n
  ·obtain ⟨b1,o1,rfl,f0,hs⟩:=(HF.out.kept hB).2 k hlt
   have hlt':(k:Int) < (n:Int):=by omega
   have hk0:(0:Int)≤(k:Int):=by omega
   have hcl:=field_any fa nf fcap G (F k) wr (HG.out.kept hB)
   have HB:=Hid.intro hB
   have HAk:=Hid.intro hAk
   have HS:=Hid.intro hs
   clear hB hAk hs
   go_wp2_with fail
   refine hcl.mono ?_
   clear hcl
   rintro e w1 ⟨rfl,hw1⟩
   have hcl:=again1_any b m k F w1 HS.out (by unfold maxLen; omega) (HAk.out.kept hw1)
   have HB1:Hid (Below w.heap.size w w1):=HB.out.trans (hw1.mono HB.out.size)
   clear hw1 f0
   by_cases hx:fieldIdx nf G (F k) < 0
   ·have hE:fieldE nf G F k=7:=by unfold fieldE; rw [if_pos hx]
    have hfin:Hid (fieldsE nf G n F=7):=by unfold fieldsE Hid; rw [fault_hit hlt (by rw [hE]; decide) hb,hE]
    clear hcl hE
    go_wp2_with fail
    go_ret
    exact ⟨by rw [hfin.out]; rfl,HB1.out⟩
   ·have hE:Hid (fieldE nf G F k=if stood F k then 6 else 0):=by unfold fieldE Hid; rw [if_neg hx]
    go_wp2_with fail
    refine hcl.mono ?_
    clear hcl hx
    rintro e w2 ⟨rfl,hA2,hg2⟩
    have HA2:=Hid.intro hA2
    have HB2:Hid (Below w.heap.size w w2):=HB1.out.trans (grownBy_below hg2 hm0 HB1.out.size)
    clear hA2 hg2
    cases hpk:stood F k with
    | true =>
     rw [hpk] at hE
     have hfin:Hid (fieldsE nf G n F=6):=by unfold fieldsE Hid; rw [fault_hit hlt (by rw [hE.out]; decide) hb,hE.out]; rfl
     clear hpk hE
     go_wp2_with fail
     go_ret
     exact ⟨by rw [hfin.out]; rfl,HB2.out⟩
    | false =>
     rw [hpk] at hE
     have hb2:Hid (∀ j,j < k + 1→fieldE nf G F j=0):=fun j hj=>by
      rcases Nat.lt_succ_iff_lt_or_eq.1 hj with h | h
      ·exact hb j h
      ·rw [h,hE.out]; rfl
     clear hpk hE
     go_wp2_with fail
     go_roundw
     case rel=>exact ⟨k + 1,by omega,by go_num,hb2,HA2.out,HB2.out⟩
     case measure=>simp [intOf]; omega
  ·have hfin:Hid (fieldsE nf G n F=0):=by unfold fieldsE Hid; rw [fault_none (fun j hj=>hb j (by omega))]
   have HB:=Hid.intro hB
   clear hAk hB
   go_wp2_with fail
   go_ret
   exact ⟨by rw [hfin.out]; rfl,HB.out⟩
set_option maxRecDepth 100000 in
set_option maxHeartbeats 1000000 in
theorem swrong_any (a:Option Addr) (n cap:Nat) (V:Nat→SServ) (q:LReq) (w:World) (hV:SServsAt w a n V) (hq:ReqOk w q) :
  Calls Tryz.prog 94 #[.slice a n cap,reqV q] w fun e w'=>e = .returned (.int .i64 (wrongQ n V q))∧Below w.heap.size w w':=by
 have hn:n≤9223372036854775807:=hV.1
 have eK:=Tryz.e144
 unfold reqV
 generalize hW:w.alloc (Obj.cells #[.int .i64 q.svc,.string q.type,.slice q.ka q.nk q.kcap,.slice q.fa q.nf q.fcap] 35)=W
 have hB:Below w.heap.size w W:=by rw [← hW]; exact below1 _ _
 have k0:W.cell? ⟨w.heap.size,0,none⟩=some (.int .i64 q.svc):=by rw [← hW,World.cell?_alloc_at _ _ _ _ rfl]; rfl
 have k1:W.cell? ⟨w.heap.size,1,none⟩=some (.string q.type):=by rw [← hW,World.cell?_alloc_at _ _ _ _ rfl]; rfl
 have k2:W.cell? ⟨w.heap.size,2,none⟩=some (.slice q.ka q.nk q.kcap):=by rw [← hW,World.cell?_alloc_at _ _ _ _ rfl]; rfl
 have k3:W.cell? ⟨w.heap.size,3,none⟩=some (.slice q.fa q.nf q.fcap):=by rw [← hW,World.cell?_alloc_at _ _ _ _ rfl]; rfl
 have HV:=Hid.intro (hV.kept hB)
 have HQ:=Hid.intro (hq.kept hB)
 have HB:=Hid.intro hB
 clear hV hq hB
 by_cases h1:q.svc < 0
 ·have hfin:Hid (wrongQ n V q=5):=wrongQ_none (.inl h1)
  go_enter Tryz.func94,Tryz.ntmps94
  go_wp2_with fail
  go_ret
  exact ⟨by rw [hfin.out]; rfl,HB.out⟩
 by_cases h2:(n:Int)≤q.svc
 ·have hfin:Hid (wrongQ n V q=5):=wrongQ_none (.inr h2)
  go_enter Tryz.func94,Tryz.ntmps94
  go_wp2_with fail
  go_ret
  exact ⟨by rw [hfin.out]; rfl,HB.out⟩
 obtain ⟨c,hc⟩:∃ c:Nat,q.svc=(c:Int):=⟨q.svc.toNat,by omega⟩
 have hcn:c < n:=by omega
 rw [hc] at k0 h1 h2
 obtain ⟨b,o,rfl,hs⟩:=HV.out.2 c hcn
 have c0:=hs.c0
 have hcl:=find_any (V c).ta (V c).nt (V c).tcap (V c).T q.type W hs.types
 have HT:=Hid.intro hs.types
 have hc':(c:Int) < (n:Int):=by omega
 have hc0:(0:Int)≤(c:Int):=by omega
 have HC:=Hid.intro hc
 clear hs hc HV
 go_enter Tryz.func94,Tryz.ntmps94
 go_wp2_with fail
 clear hW
 refine hcl.mono ?_
 clear hcl
 rintro e w1 ⟨rfl,hw1⟩
 have k2:=keptCell hw1 k2
 have k3:=keptCell hw1 k3
 have HB1:Hid (Below w.heap.size w w1):=HB.out.trans (hw1.mono HB.out.size)
 have HQ1:=Hid.intro (HQ.out.kept hw1)
 have HT1:=Hid.intro (HT.out.kept hw1)
 clear hw1 c0 k0 k1 HQ HT HB
 rcases find_cases (V c).nt (V c).T q.type with hf | ⟨t,ht,hf⟩
 ·have hfin:Hid (wrongQ n V q=1):=wrongQ_kind HC.out hcn hf
  go_wp2_with fail
  go_ret
  exact ⟨by rw [hfin.out]; rfl,HB1.out⟩
 have HFD:=Hid.intro hf
 rw [hf]
 clear hf
 obtain ⟨b1,o1,hta,ty⟩:=HT1.out.2 t ht
 have t1:=ty.2.1
 rw [hta]
 have cF:∀ d os,Calls Tryz.prog 124 #[.slice ((V c).T t).fa ((V c).T t).nf ((V c).T t).fcap,.slice q.fa q.nf q.fcap] (grow (redrawn w1 d) os) fun e w''=>e = .returned (.int .i64 (fieldsE ((V c).T t).nf ((V c).T t).F q.nf q.F))∧∃ p:Regrown,w''=grow (redrawn w1 p.d) p.os:=fun d os=>Calls.regrown_of (swrongFields_any _ _ _ _ _ _ _ _ _ (ty.2.2.2.2.kept (below_regrown w1 d os)) (HQ1.out.fields.kept (below_regrown w1 d os)))
 have r3:=cell_regrown k3
 have r1:=cell_regrown t1
 have HK2:Hid (∀ d os,(grow (redrawn w1 d) os).cell? ⟨w.heap.size,2,none⟩=some (.slice q.ka q.nk q.kcap)):=fun d os=>cell_regrown k2 d os
 have htn:(t:Int) < ((V c).nt:Int):=by omega
 have ht0:(0:Int)≤(t:Int):=by omega
 have ht1 : ¬ (t:Int) < 0:=by omega
 clear ty k2 k3 t1 HT1
 go_wp2_with fail
 refine wp_region_quiet_below (by kernel_rfl) (by kernel_rfl) ?_
 repeat (go_big_quiet_step (first | exact cF _ _))
 refine wpQuiet_nil ?_
 intro _ hw'
 obtain ⟨⟨dq,osq⟩,hw''⟩:=hw'
 subst hw''
 have HB2:Hid (Below w.heap.size w (grow (redrawn w1 dq) osq)):=HB1.out.trans ((below_regrown w1 dq osq).mono HB1.out.size)
 have k2:=HK2.out dq osq
 have HQ2:=Hid.intro (HQ1.out.kept (below_regrown w1 dq osq))
 generalize grow (redrawn w1 dq) osq=w2 at *
 clear cF r3 r1 HK2 HB1 HQ1
 by_cases he:fieldsE ((V c).T t).nf ((V c).T t).F q.nf q.F=0
 case neg =>
  have hfin:Hid (wrongQ n V q=fieldsE ((V c).T t).nf ((V c).T t).F q.nf q.F):=wrongQ_fields HC.out hcn HFD.out he
  generalize fieldsE ((V c).T t).nf ((V c).T t).F q.nf q.F=x at *
  have hb:(x != 0)=true:=by simpa using he
  clear he
  go_wp2_with fail
  go_ret
  exact ⟨by rw [hfin.out]; rfl,HB2.out⟩
 have hfin:Hid (wrongQ n V q=if twice q.nk q.K then 6 else 0):=wrongQ_keys HC.out hcn HFD.out he
 rw [he]
 clear he HFD
 have HKs:Hid (KeysAt w2 q.ka q.nk q.K):=HQ2.out.keys
 clear hta
 go_wp2_with fail
 go_region_law (first
  | (go_simp; go_at_call 126; refine (again_any q.K _).mono ?_; rintro e w5 ⟨bx,mx,rfl,hbx,hmx,hA5,hB5⟩; have HB6:Hid (Below w2.heap.size w2 w5):=(Below.refl w2.heap.size w2).drew.trans hB5; have k5:=keptCell HB6.out k2; have HM5:Hid (w2.heap.size≤mx):=hmx; have HA5:=Hid.intro hA5; clear hB5 hA5 hmx hbx)
  | (go_simp; go_at_call 125; refine (containsTexts_any q.ka q.nk q.kcap bx mx q.K w5 (HKs.out.kept HB6.out) HA5.out).mono ?_; rintro e w6 ⟨rfl,hg6⟩; have HB7:Hid (Below w.heap.size w w6):=HB2.out.trans ((HB6.out.trans (grownBy_below hg6 HM5.out HB6.out.size)).mono HB2.out.size); clear hg6))
 all_goals (
  cases htw:twice q.nk q.K
  ·rw [htw] at hfin
   go_wp2_with fail
   go_ret
   exact ⟨by rw [hfin.out]; rfl,HB7.out⟩
  ·rw [htw] at hfin
   go_wp2_with fail
   go_ret
   exact ⟨by rw [hfin.out]; rfl,HB7.out⟩)
end Go.Proofs.YtjjggefmmeminacGreat
