import Derived.Test.YtjjggefmmeminacGreatJSv
import Derived.Test.YtjjggefmmeminacGreatSvWrong
import Derived.Deep.CutRange
namespace Go.Proofs.YtjjggefmmeminacGreat
open Go.RowKit Go.Sort
def ValsOfO (w:World) (B base:Nat) (vv:Value) (N:Nat) (Ls:Nat→List LVal):Prop := ∃ sv:Nat→Value,Row w B 60 1 vv N sv∧∀ j,j < N→∃ kv,ValRowsO w B base (sv j) (Ls j) kv
structure RepliesO (w:World) (B base:Nat) (fv vv:Value) (N:Nat) (fnd:Nat→Bool) (Ls:Nat→List LVal):Prop where
 found:Row w B 4 1 fv N (fun j=>.bool (fnd j))
 vals:ValsOfO w B base vv N Ls
 few:∀ j,j < N→(Ls j).length≤maxLen
theorem valsOfO_nil (w:World) (B base:Nat) (Ls:Nat→List LVal):ValsOfO w B base (.slice none 0 0) 0 Ls:=⟨fun _=>.slice none 0 0,World.ownsRow_nil _ _ _ _,fun _ hj=>absurd hj (Nat.not_lt_zero _)⟩
theorem repliesO_nil (w:World) (B base:Nat) (fnd:Nat→Bool) (Ls:Nat→List LVal):RepliesO w B base (.slice none 0 0) (.slice none 0 0) 0 fnd Ls :=
 ⟨World.ownsRow_nil _ _ _ _,valsOfO_nil _ _ _ _,fun _ hj=>absurd hj (Nat.not_lt_zero _)⟩
theorem ValsOfO.kept {w w':World} {B base:Nat} {vv:Value} {N:Nat} {Ls:Nat→List LVal} (h:ValsOfO w B base vv N Ls) (hB:Below w.heap.size w w') (hb:base≤w.heap.size):ValsOfO w' B base vv N Ls:=by
 obtain ⟨sv,h1,h2⟩:=h
 exact ⟨sv,h1.kept hB,fun j hj=>let ⟨kv,hk⟩:=h2 j hj; ⟨kv,hk.kept hB hb⟩⟩
theorem ValsOfO.lower {w:World} {B B' base:Nat} {vv:Value} {N:Nat} {Ls:Nat→List LVal} (h:ValsOfO w B base vv N Ls) (hb:B'≤B):ValsOfO w B' base vv N Ls:=by
 obtain ⟨sv,h1,h2⟩:=h
 exact ⟨sv,h1.lower hb,fun j hj=>let ⟨kv,hk⟩:=h2 j hj; ⟨kv,hk.lower hb⟩⟩
def tsF (t:Nat):Bool:=t == 4 || t == 123
theorem tsF_A:∀ t,tsF t=true→tsA t=true:=fun t h=>by
 simp only [tsF,tsA,Bool.or_eq_true] at *
 rcases h with h | h
 ·exact .inl (.inl h)
 ·exact .inr h
theorem ValsOfO.steady {w w':World} {B base:Nat} {vv:Value} {N:Nat} {Ls:Nat→List LVal} (h:ValsOfO w B base vv N Ls) (hS:Steady tsF base w w'):ValsOfO w' B base vv N Ls:=by
 obtain ⟨sv,h1,h2⟩:=h
 exact ⟨sv,h1.steady hS (by decide),fun j hj=>let ⟨kv,hk⟩:=h2 j hj; ⟨kv,hk.steady (hS.mono tsF_A)⟩⟩
theorem ValsOfO.snoc {w w':World} {B base:Nat} {vv vv' v:Value} {N:Nat} {Ls:Nat→List LVal} {sv:Nat→Value} {kv:Nat→Value} (hR:Row w B 60 1 vv N sv) (h:∀ j,j < N→∃ kv,ValRowsO w B base (sv j) (Ls j) kv) (hb:base≤B) (hB:B≤w.heap.size) (hv:ValRowsO w B base v (Ls N) kv)
  (hrow:Row w' B 60 1 vv' (N + 1) (fun j=>if j < N * 1 then sv j else v)) (hg:w.grownBy w' vv.ownBlock):ValsOfO w' B base vv' (N + 1) Ls:=by
 have hS:Steady tsA base w w':=steady_grown (hR.lower hb) (by decide) hg (by omega)
 refine ⟨_,hrow,fun j hj=>?_⟩
 by_cases h1:j < N * 1
 ·obtain ⟨kv',hk⟩:=h j (by omega)
  simp only [if_pos h1]
  exact ⟨kv',hk.steady hS⟩
 ·have h2:j=N:=by omega
  subst h2
  simp only [if_neg h1]
  exact ⟨kv,hv.steady hS⟩
theorem Steady.lower {ts:Nat→Bool} {base base':Nat} {w w':World} (h:Steady ts base w w') (hb:base'≤base):Steady ts base' w w':=⟨h.below.mono hb,h.keep⟩
def tsW (t:Nat):Bool:=t == 60 || t == 123
theorem box_stands {w w':World} {b t B e size n:Nat} {cs:Array Value} {fz:Nat × Nat} {v:Value} {f : Nat→Value} (ho:w.heap[b]? = some (.cells cs t fz)) (hR:Row w B e size v n f) (hne:t≠e) (hg:w.grownBy w' v.ownBlock):w'.heap[b]? = some (.cells cs t fz):=by
 rw [hg.block b (lt_of_block ho) fun h=>?_]
 ·exact ho
 ·obtain ⟨c,h'⟩:=hR.obj h.symm
  rw [ho] at h'
  cases h'
  exact hne rfl
theorem fieldE_zero {nf:Nat} {G:Nat→LField} {F:Nat→ByteArray} {i:Nat} (h:fieldE nf G F i=0):stood F i=false:=by
 unfold fieldE at h
 split at h
 ·cases h
 ·split at h
  ·cases h
  ·rename_i h2; simpa using h2
theorem Tryz.info4:(Tryz.prog.info? 4).map (fun i=>(i.zero,i.size,i.bytes))=some (some (.bool false),1,1):=by kernel_rfl
theorem Tryz.info60:(Tryz.prog.info? 60).map (fun i=>(i.zero,i.size,i.bytes))=some (some (.slice none 0 0),1,24):=by kernel_rfl
theorem ValsAt.noThing (w:World):ValsAt w noThing.va noThing.nv noThing.V:=⟨Nat.zero_le _,fun _ hi=>absurd hi (Nat.not_lt_zero _)⟩
theorem light_noThing:LightX noThing:=⟨by decide,fun _ hk=>absurd hk (Nat.not_lt_zero _)⟩
theorem thingOf_ok {w:World} {s:SServ} (hX:ThingsAt w s.xa s.nx s.X) (hL:LightS s) (typ key:ByteArray):ValsAt w (thingOf s typ key).va (thingOf s typ key).nv (thingOf s typ key).V∧LightX (thingOf s typ key):=by
 rcases idx_cases s.nx (sameThing s.X typ key) with ⟨hi,-⟩ | ⟨k,hk,hi,-⟩
 ·rw [(foundI_none (by rw [hi]; decide)).2]
  exact ⟨ValsAt.noThing w,light_noThing⟩
 ·rw [(foundI_some hi).2]
  obtain ⟨b,o,-,-,-,-,-,-,-,h⟩:=hX.2 k hk
  exact ⟨h,hL k hk⟩
set_option maxRecDepth 100000 in
set_option maxHeartbeats 4000000 in
theorem answerO_any (a:Option Addr) (n cap:Nat) (V:Nat→SServ) (q:LReq) (w:World) (hV:SServsAt w a n V) (hL:∀ i,i < n→LightS (V i)) (hq:ReqOk w q) (hqk:q.nk * 16≤140737488355328) (base:Nat) (hbase:base≤w.heap.size) :
  Calls Tryz.prog 69 #[.slice a n cap,reqV q] w fun e w' => ∃ fv vv,e = .returned (.tuple #[.agg #[fv,vv],.int .i64 (wrongQ n V q)])∧RepliesO w' w.heap.size base fv vv (if wrongQ n V q=0 then q.nk else 0) (fun j=>foundI (V q.svc.toNat) q.type (q.K j)) (fun j=>valsL (thingOf (V q.svc.toNat) q.type (q.K j)) q.nf q.F)∧Below w.heap.size w w':=by
 obtain ⟨iB,bi,bz0,bz1,bz2⟩:=info_parts' Tryz.info4
 obtain ⟨iV,vi,vz0,vz1,vz2⟩:=info_parts' Tryz.info60
 have hn:n≤9223372036854775807:=hV.1
 have eK:=Tryz.e127
 obtain ⟨ka,hka⟩:∃ ka,ka=q.ka:=⟨_,rfl⟩
 have hks:=hq.keys
 rw [← hka] at hks
 have hnk:q.nk≤9223372036854775807:=hks.1
 have hcl0:=fun W (hB:Below w.heap.size w W)=>swrong_any a n cap V q W (hV.kept hB) (hq.kept hB)
 unfold reqV at hcl0
 rw [← hka] at hcl0
 unfold reqV
 rw [← hka]
 clear hka
 generalize hW:(w.alloc (Obj.cells #[.int .i64 q.svc,.string q.type,.slice ka q.nk q.kcap,.slice q.fa q.nf q.fcap] 35)).alloc (Obj.cells #[.slice none 0 0,.slice none 0 0] 123)=W
 have hB:Below w.heap.size w W:=by rw [← hW]; exact below2 _ _ _
 have hWs:W.heap.size=w.heap.size + 1 + 1:=by rw [← hW]; simp
 have k0:W.cell? ⟨w.heap.size,0,none⟩=some (.int .i64 q.svc):=by rw [← hW,World.cell?_alloc_past _ _ _ (by simp),World.cell?_alloc_at _ _ _ _ rfl]; rfl
 have k1:W.cell? ⟨w.heap.size,1,none⟩=some (.string q.type):=by rw [← hW,World.cell?_alloc_past _ _ _ (by simp),World.cell?_alloc_at _ _ _ _ rfl]; rfl
 have k2:W.cell? ⟨w.heap.size,2,none⟩=some (.slice ka q.nk q.kcap):=by rw [← hW,World.cell?_alloc_past _ _ _ (by simp),World.cell?_alloc_at _ _ _ _ rfl]; rfl
 have k3:W.cell? ⟨w.heap.size,3,none⟩=some (.slice q.fa q.nf q.fcap):=by rw [← hW,World.cell?_alloc_past _ _ _ (by simp),World.cell?_alloc_at _ _ _ _ rfl]; rfl
 have hr:W.heap[w.heap.size + 1]? = some (.cells #[.slice none 0 0,.slice none 0 0] 123 (0,0)):=by
  rw [← hW]
  exact (show w.heap.size + 1=(w.alloc (Obj.cells #[.int .i64 q.svc,.string q.type,.slice ka q.nk q.kcap,.slice q.fa q.nf q.fcap] 35)).heap.size by simp) ▸ heap_alloc_new _ _
 have hcl:=hcl0 W hB
 have HKS:=Hid.intro (hks.kept hB)
 clear hcl0 hks
 have HV:=Hid.intro (hV.kept hB)
 have HQ:=Hid.intro (hq.kept hB)
 have HB:=Hid.intro hB
 have HL:=Hid.intro hL
 have HR:=Hid.intro hr
 have HWs:=Hid.intro hWs
 clear hV hq hB hL hr hWs
 go_enter Tryz.func69,Tryz.ntmps69
 go_wp2_with fail
 clear hW
 refine hcl.mono ?_
 clear hcl
 rintro e w1 ⟨rfl,hw1⟩
 have k0:=keptCell hw1 k0
 have k1:=keptCell hw1 k1
 have k2:=keptCell hw1 k2
 have k3:=keptCell hw1 k3
 have HR1:=Hid.intro ((hw1.block _ (lt_of_block HR.out)).trans HR.out)
 have HV1:=Hid.intro (HV.out.kept hw1)
 have HQ1:=Hid.intro (HQ.out.kept hw1)
 have HK1:=Hid.intro (HKS.out.kept hw1)
 have HB1:Hid (Below w.heap.size w w1):=HB.out.trans (hw1.mono HB.out.size)
 have HS1:Hid (w.heap.size + 1 + 1≤w1.heap.size):=by have:=hw1.size; have:=HWs.out; unfold Hid; omega
 clear hw1 HV HQ HB HR HWs HKS
 by_cases hwr:wrongQ n V q=0
 case neg =>
  have hb:(wrongQ n V q != 0)=true:=by simpa using hwr
  have HWR:=Hid.intro hwr
  obtain ⟨d0,d1⟩:w1.cell? ⟨w.heap.size + 1,0,none⟩=some (.slice none 0 0)∧w1.cell? ⟨w.heap.size + 1,1,none⟩=some (.slice none 0 0):=by simp [World.cell?,HR1.out]
  obtain ⟨z0,z1⟩:w1.frozen? ⟨w.heap.size + 1,0,none⟩=false∧w1.frozen? ⟨w.heap.size + 1,1,none⟩=false:=by simp [World.frozen?,HR1.out]
  clear hwr
  have HB3:Hid (Below w.heap.size w ((w1.setCell ⟨w.heap.size + 1,0,none⟩ (Value.slice none 0 0)).setCell ⟨w.heap.size + 1,1,none⟩ (Value.slice none 0 0))):=HB1.out.trans ⟨rfl,rfl,rfl,by simp,fun k hk=>(Below.heap_setCell _ _ _ _ (by show k≠w.heap.size + 1; omega)).trans (Below.heap_setCell _ _ _ _ (by show k≠w.heap.size + 1; omega))⟩
  go_wp2_with fail
  exact bodyPost_ret (v:=.tuple #[.agg #[.slice none 0 0,.slice none 0 0],.int .i64 (wrongQ n V q)]) (by simp [results,Tryz.results69,go_sem,d0,d1]) rfl ⟨_,_,rfl,repliesO_nil _ _ _ _ _,HB3.out⟩
 obtain ⟨c,t,hc,hcn,-,-,hfe,hst⟩:=wrongQ_zero hwr
 have HWR:=Hid.intro hwr
 have HC:=Hid.intro hc
 rw [hwr]
 rw [hc] at k0
 have hc':(c:Int) < (n:Int):=by omega
 have hc0:(0:Int)≤(c:Int):=by omega
 obtain ⟨b,o,ha,hs⟩:=HV1.out.2 c hcn
 subst ha
 have c2:=hs.c2
 have HT:=Hid.intro hs.things
 clear hs hc hwr
 go_upto_region 4 with fail
 go_cut [7] from 20 to 28 (fun f wx => ∃ bm bt m,f=finderV bm bt∧Finds wx bm bt m q.type (V c)∧Below w1.heap.size w1 wx)
 case first =>
  go_region_law (go_simp; go_at_call 95; refine (finder_any (V c) q.type _ (HT.out.kept (Below.refl _ _).drew)).mono ?_; rintro e w2 ⟨bm,bt,m,rfl,hF,hB2⟩; have HF:=Hid.intro hF; have HB2:Hid (Below w1.heap.size w1 w2):=(Below.refl w1.heap.size w1).drew.trans hB2; clear hF hB2)
  all_goals (
   go_wp2_with fail
   go_meet
   exact ⟨bm,bt,m,rfl,HF.out,HB2.out⟩)
 case rest =>
  obtain ⟨bm,bt,m,rfl,hF,hB2⟩:=hcut
  obtain ⟨w2,hren⟩:∃ w2,w2=wc:=⟨_,rfl⟩
  rw [← hren] at hF hB2
  rw [← hren]
  clear hren
  have k2:=keptCell hB2 k2
  have k3:=keptCell hB2 k3
  have HR2:=Hid.intro ((hB2.block _ (lt_of_block HR1.out)).trans HR1.out)
  have HF:=Hid.intro hF
  have HT2:=Hid.intro (HT.out.kept hB2)
  have HK2:=Hid.intro (HK1.out.kept hB2)
  have HFl2:=Hid.intro (HQ1.out.fields.kept hB2)
  have HB2:Hid (Below w.heap.size w w2):=HB1.out.trans (hB2.mono HB1.out.size)
  have hz2:w.heap.size + 1 + 1≤w2.heap.size:=Nat.le_trans HS1.out hB2.size
  have HD:Hid (∀ i,i < q.nf→stood q.F i=false):=fun i hi=>fieldE_zero (hfe i hi)
  have HLS:=Hid.intro (HL.out c hcn)
  have HSV:Hid (q.svc.toNat=c):=by have:=HC.out; unfold Hid; omega
  clear hF hB2 HR1 HT HK1 HQ1 HB1 HS1 hfe hst HL HC c2 k0 k1
  unfold finderV
  generalize hW3:w2.alloc (Obj.cells #[.slice none 0 0,.slice none 0 0] 123)=W3
  have hB3:Below w2.heap.size w2 W3:=by rw [← hW3]; exact below1 _ _
  have hb3:W3.heap[w2.heap.size]? = some (.cells #[.slice none 0 0,.slice none 0 0] 123 (0,0)):=by rw [← hW3]; exact heap_alloc_new _ _
  have j2:=keptCell hB3 k2
  have HB3:=Hid.intro hB3
  have Hb3:=Hid.intro hb3
  clear hB3 hb3 k2
  go_wp2_with fail
  clear hW3 j2
  obtain ⟨br,hbr⟩:∃ br,br=w2.heap.size:=⟨_,rfl⟩
  rw [← hbr] at Hb3 HB3 hz2
  rw [← hbr]
  have HBR:=Hid.intro hbr
  clear hbr
  go_loopw [32] (fun i wr => ∃ k:Nat,k≤q.nk∧i = .int .i64 k∧(∃ fv vv,wr.heap[br]? = some (.cells #[fv,vv] 123 (0,0))∧Row wr br 4 1 fv k (fun j=>.bool (foundI (V c) q.type (q.K j)))∧ValsOfO wr br base vv k (fun j=>valsL (thingOf (V c) q.type (q.K j)) q.nf q.F))∧Below br w2 wr) (fun i _=>q.nk - (intOf i).toNat)
  case atStart=>exact ⟨0,Nat.zero_le _,rfl,⟨_,_,Hb3.out,World.ownsRow_nil _ _ _ _,valsOfO_nil _ _ _ _⟩,HB3.out⟩
  case round =>
   obtain ⟨k,hk,rfl,⟨fv,vv,hbx,hFd,hVl⟩,hw⟩:=hrel
   have hw':Below w2.heap.size w2 wr:=HBR.out ▸ hw
   by_cases hlt:k < q.nk
   ·obtain ⟨b4,o4,hka,f0,hs⟩:=(HK2.out.kept hw').2 k hlt
    subst hka
    have hlt':(k:Int) < (q.nk:Int):=by omega
    have hk0:(0:Int)≤(k:Int):=by omega
    have hcl:=finder1_any bm bt m (V c) q.type (q.K k) wr (HT2.out.kept hw') hs (HF.out.kept hw')
    have HBX:=Hid.intro hbx
    have HFD:=Hid.intro hFd
    have HVL:=Hid.intro hVl
    have HW:=Hid.intro hw'
    clear hbx hFd hVl hw hw' hs
    go_wp2_with fail
    refine hcl.mono ?_
    clear hcl
    rintro e w3 ⟨rfl,hw3⟩
    obtain ⟨x,hx⟩:∃ x,x=thingOf (V c) q.type (q.K k):=⟨_,rfl⟩
    obtain ⟨fd,hfd⟩:∃ fd,fd=foundI (V c) q.type (q.K k):=⟨_,rfl⟩
    have HXE:=Hid.intro hx
    have HFE:=Hid.intro hfd
    rw [← hx,← hfd]
    clear hx hfd f0
    unfold thingV
    generalize hX5:w3.alloc (Obj.cells #[.string x.type,.string x.key,.slice x.va x.nv x.vcap] 62)=X5
    have hB5:Below wr.heap.size wr X5:=hw3.trans (by rw [← hX5]; exact (below1 _ _).mono hw3.size)
    have he5:X5.heap[w3.heap.size]? = some (.cells #[.string x.type,.string x.key,.slice x.va x.nv x.vcap] 62 (0,0)):=by rw [← hX5]; exact heap_alloc_new _ _
    have hbx5:=(hB5.block _ (lt_of_block HBX.out)).trans HBX.out
    have hzr:br≤wr.heap.size:=by have:=HW.out.size; have:=HBR.out; omega
    have hz5:br≤X5.heap.size:=Nat.le_trans hzr hB5.size
    have HW5:Hid (Below w2.heap.size w2 X5):=HW.out.trans (hB5.mono HW.out.size)
    have HFD5:=Hid.intro (HFD.out.kept hB5)
    have HVL5:=Hid.intro (HVL.out.kept hB5 (by omega))
    have r0:X5.cell? ⟨br,0,none⟩=some fv:=by simp [World.cell?,hbx5]
    have HE5:=Hid.intro he5
    have HBX5:=Hid.intro hbx5
    clear hw3 hB5 he5 hbx5 HFD HVL HBX
    have hap:=Row.one #[.bool fd] HFD5.out hz5 120 iB _ 1 Tryz.underlying120 bi bz0 bz1 bz2 rfl (by decide) (fun _=>.bool fd) (fun j hj=>by
     match j,hj with
     | 0,_=>rfl) (fun _ _=>rfl) (by unfold maxLen; omega) (by omega) (m:=X5.heap.size) rfl
    go_wp2_with (at_builtin; refine wpList_append_run _ rfl _ _ 120 rfl _ _ rfl rfl (fun v' w'=>Row w' br 4 1 v' (k + 1) _∧World.grownBy _ w' fv.ownBlock) hap ?_)
    intro fv' w6 hrow6 hg6
    obtain ⟨fa',fc',rfl,-⟩:=hrow6.slice
    have hB6:=below1 X5 (Obj.cells #[.bool fd] 4)
    have hb6:=box_stands ((hB6.block _ (lt_of_block HBX5.out)).trans HBX5.out) (HFD5.out.kept hB6) (by decide) hg6
    obtain ⟨y0,y1⟩:w6.cell? ⟨br,0,none⟩=some fv∧w6.cell? ⟨br,1,none⟩=some vv:=by simp [World.cell?,hb6]
    have v0:w6.frozen? ⟨br,0,none⟩=false:=by simp [World.frozen?,hb6]
    obtain ⟨w7,hw7⟩:∃ w7,w7=w6.setCell ⟨br,0,none⟩ (.slice fa' (k + 1) fc'):=⟨_,rfl⟩
    have hS7:Steady tsF br X5 w7:=by
     rw [hw7]
     exact ((steady_new hB6 hz5).trans (steady_grown (HFD5.out.kept hB6) (by decide) hg6 (by simp; omega))).trans (steady_set hb6 (by decide) (Nat.le_refl _) _)
    have hb7:w7.heap[br]? = some (.cells #[.slice fa' (k + 1) fc',vv] 123 (0,0)):=by
     rw [hw7,heap_setCell_same w6 br 0 _ 123 _ hb6]; rfl
    have hrow7:Row w7 br 4 1 (.slice fa' (k + 1) fc') (k + 1) (fun j=>.bool (foundI (V c) q.type (q.K j))):=by
     rw [hw7]
     refine (hrow6.set_other (p:=⟨br,0,none⟩) (fun e=>?_) _).congr fun j hj=>?_
     ·obtain ⟨cu,ho⟩:=hrow6.obj e
      have:w6.heap[br]? = _:=ho
      rw [hb6] at this
      cases this
     ·have hj':j < k∨j=k:=by omega
      rcases hj' with h1 | h1
      ·simp [h1]
      ·simp [h1,HFE.out]
    have HR7:=Hid.intro hrow7
    have HV7:=Hid.intro (HVL5.out.steady (hS7.lower (by omega)))
    have HW7:Hid (Below br w2 w7):=(HBR.out ▸ HW5.out).trans hS7.below
    have HE7:=Hid.intro (hS7.block HE5.out (by decide))
    have HB7:=Hid.intro hb7
    clear hrow6 hg6 hB6 hap hb6 hrow7 hb7 hX5 r0
    go_upto_region 11 with fail
    rw [← hw7]
    clear hw7 y0 y1 v0 hS7
    obtain ⟨e0,e1,e2⟩:w7.cell? ⟨w3.heap.size,0,none⟩=some (.string x.type)∧w7.cell? ⟨w3.heap.size,1,none⟩=some (.string x.key)∧w7.cell? ⟨w3.heap.size,2,none⟩=some (.slice x.va x.nv x.vcap):=by simp [World.cell?,HE7.out]
    have r1:w7.cell? ⟨br,1,none⟩=some vv:=by simp [World.cell?,HB7.out]
    have hw27:Below w2.heap.size w2 w7:=HBR.out ▸ HW7.out
    have q3:=keptCell hw27 k3
    have hz7:br≤w7.heap.size:=by have:=hw27.size; have:=HBR.out; omega
    obtain ⟨hvx,hlx⟩:=thingOf_ok (HT2.out.kept hw27) HLS.out q.type (q.K k)
    rw [← HXE.out] at hvx hlx
    have hD7:Below w7.heap.size w7 w7.drew:=(Below.refl _ _).drew
    have hcv:=valsO_any x q.fa q.nf q.fcap q.F w7.drew (hvx.kept hD7) hlx ((HFl2.out.kept hw27).kept hD7) HD.out base (by show base≤w7.heap.size; omega)
    unfold thingV at hcv
    have hfew:(valsL x q.nf q.F).length≤maxLen:=Nat.le_trans (valsL_few HD.out) hvx.1
    have hap7:∀ (w8:World) (sv:Nat→Value) (sa:Option Addr) (sc:Nat),Row w8 br 60 1 vv k sv→br≤w8.heap.size→∀ ty,∃ v' w',(Builtin.append_ #[121,121] ty #[vv,.slice (some ⟨w8.heap.size,0,none⟩) 1 1]).run Tryz.prog (w8.alloc (.cells #[.slice sa (valsL x q.nf q.F).length sc] 60)) = .ok v' w'∧Row w' br 60 1 v' (k + 1) (fun j=>if j < k * 1 then sv j else .slice sa (valsL x q.nf q.F).length sc)∧(w8.alloc (.cells #[.slice sa (valsL x q.nf q.F).length sc] 60)).grownBy w' vv.ownBlock:=fun w8 sv sa sc hsv hz8 =>
     Row.one #[.slice sa (valsL x q.nf q.F).length sc] hsv hz8 121 iV _ 24 Tryz.underlying121 vi vz0 vz1 vz2 rfl (by decide) (fun _=>.slice sa (valsL x q.nf q.F).length sc) (fun j hj=>by
      match j,hj with
      | 0,_=>rfl) (fun _ _=>rfl) (by unfold maxLen; omega) (by omega) (m:=w8.heap.size) rfl
    clear hw27 hvx hlx hD7 HE7
    generalize w3.heap.size=b5 at *
    go_region_law (first
     | (go_simp; go_at_call 96; refine hcv.mono ?_; rintro e w8 ⟨v,kv,rfl,hVR,hB8⟩; obtain ⟨sa,sc,rfl,-⟩:=hVR.row.slice; have hB8:Below w7.heap.size w7 w8:=(Below.refl w7.heap.size w7).drew.trans hB8; have hb8:=(hB8.block _ (lt_of_block HB7.out)).trans HB7.out; have r8:w8.cell? ⟨br,1,none⟩=some vv:=keptCell hB8 r1; have HVR:=Hid.intro (hVR.lower (B':=br) hz7); obtain ⟨sv,hsv,hsr⟩:=HV7.out.kept hB8 (Nat.le_trans (by omega) hz7); have HSV8:=Hid.intro hsv; have HSR8:=Hid.intro hsr; have Hb8:=Hid.intro hb8; have HB8:=Hid.intro hB8; have hz8:br≤w8.heap.size:=Nat.le_trans hz7 hB8.size; have hap8:=hap7 w8 sv sa sc hsv hz8; have r9:=keptCell (below1 w8 (Obj.cells #[.slice sa (valsL x q.nf q.F).length sc] 60)) r8; clear hVR hB8 hb8 hsv hsr)
     | (refine step_append_run rfl (.tmp 49) (.tmp 54) 121 rfl vv (.slice (some ⟨w8.heap.size,0,none⟩) 1 1) (by simp [Act.eval]) (by simp [Act.eval]) (fun v' w'=>Row w' br 60 1 v' (k + 1) _∧World.grownBy _ w' vv.ownBlock) hap8 ?_; rintro vv' w9 ⟨hrow9,hg9⟩; obtain ⟨va9,vc9,rfl,-⟩:=hrow9.slice; have hA9:=below1 w8 (Obj.cells #[.slice sa (valsL x q.nf q.F).length sc] 60); have hb9:=box_stands ((hA9.block _ (lt_of_block Hb8.out)).trans Hb8.out) (HSV8.out.kept hA9) (by decide) hg9; obtain ⟨y0,y1⟩:w9.cell? ⟨br,0,none⟩=some (.slice fa' (k + 1) fc')∧w9.cell? ⟨br,1,none⟩=some vv:=(by simp [World.cell?,hb9]); have v1:w9.frozen? ⟨br,1,none⟩=false:=(by simp [World.frozen?,hb9]); have HROW9:=Hid.intro hrow9; have HG9:=Hid.intro hg9; have Hb9:=Hid.intro hb9; clear hrow9 hg9 hA9 hb9))
    all_goals (
     have HEND:Hid ((w9.setCell ⟨br,1,none⟩ (.slice va9 (k + 1) vc9)).heap[br]? = some (.cells #[.slice fa' (k + 1) fc',.slice va9 (k + 1) vc9] 123 (0,0))∧Row (w9.setCell ⟨br,1,none⟩ (.slice va9 (k + 1) vc9)) br 4 1 (.slice fa' (k + 1) fc') (k + 1) (fun j=>.bool (foundI (V c) q.type (q.K j)))∧ValsOfO (w9.setCell ⟨br,1,none⟩ (.slice va9 (k + 1) vc9)) br base (.slice va9 (k + 1) vc9) (k + 1) (fun j=>valsL (thingOf (V c) q.type (q.K j)) q.nf q.F)∧Below br w2 (w9.setCell ⟨br,1,none⟩ (.slice va9 (k + 1) vc9))):=by
      have hA9:=below1 w8 (Obj.cells #[.slice sa (valsL x q.nf q.F).length sc] 60)
      have hS1:Steady tsW br w7 w9:=((steady_new HB8.out hz7).trans (steady_new hA9 hz8)).trans (steady_grown (HSV8.out.kept hA9) (by decide) HG9.out (by simp; omega))
      have hS2:Steady tsW br w9 (w9.setCell ⟨br,1,none⟩ (.slice va9 (k + 1) vc9)):=steady_set Hb9.out (by decide) (Nat.le_refl _) _
      have hS3:Steady tsF br w9 (w9.setCell ⟨br,1,none⟩ (.slice va9 (k + 1) vc9)):=steady_set Hb9.out (by decide) (Nat.le_refl _) _
      refine ⟨?_,HR7.out.steady (hS1.trans hS2) (by decide),?_,HW7.out.trans (hS1.trans hS2).below⟩
      ·rw [heap_setCell_same w9 br 1 _ 123 _ Hb9.out]; rfl
      ·refine ValsOfO.steady ?_ (hS3.lower (by omega))
       refine ValsOfO.snoc (sv:=sv) (kv:=kv) (v:=.slice sa (valsL x q.nf q.F).length sc) (HSV8.out.kept hA9) (fun j hj=>?_) (by omega) (by simp; omega) ?_ HROW9.out HG9.out
       ·obtain ⟨kv',h'⟩:=HSR8.out j hj
        exact ⟨kv',h'.kept hA9 (by omega)⟩
       ·rw [← HXE.out]
        exact HVR.out.kept hA9 (by omega)
     clear hap8
     go_wp2_with fail
     go_roundw
     case rel=>exact ⟨k + 1,by omega,by go_num,⟨_,_,HEND.out.1,HEND.out.2.1,HEND.out.2.2.1⟩,HEND.out.2.2.2⟩
     case measure=>simp [intOf]; omega)
   ·have hkn:k=q.nk:=by omega
    have HW:=Hid.intro hw'
    have HFD:=Hid.intro hFd
    have HVL:=Hid.intro hVl
    have HBX:=Hid.intro hbx
    have HR3:=Hid.intro ((hw'.block _ (lt_of_block HR2.out)).trans HR2.out)
    obtain ⟨d0,d1⟩:wr.cell? ⟨w.heap.size + 1,0,none⟩=some (.slice none 0 0)∧wr.cell? ⟨w.heap.size + 1,1,none⟩=some (.slice none 0 0):=by simp [World.cell?,HR3.out]
    obtain ⟨z0,z1⟩:wr.frozen? ⟨w.heap.size + 1,0,none⟩=false∧wr.frozen? ⟨w.heap.size + 1,1,none⟩=false:=by simp [World.frozen?,HR3.out]
    obtain ⟨r0,r1⟩:wr.cell? ⟨br,0,none⟩=some fv∧wr.cell? ⟨br,1,none⟩=some vv:=by simp [World.cell?,hbx]
    obtain ⟨fa,fc,rfl,-⟩:=hFd.slice
    obtain ⟨va,vc,rfl,-⟩:∃ a cap,vv = .slice a k cap∧k≤cap:=by
     obtain ⟨sv,h1,-⟩:=hVl
     exact h1.slice
    clear hbx hFd hVl hw hw'
    have HEND:Hid (RepliesO ((wr.setCell ⟨w.heap.size + 1,0,none⟩ (.slice fa k fc)).setCell ⟨w.heap.size + 1,1,none⟩ (.slice va k vc)) w.heap.size base (.slice fa k fc) (.slice va k vc) k (fun j=>foundI (V c) q.type (q.K j)) (fun j=>valsL (thingOf (V c) q.type (q.K j)) q.nf q.F)∧Below w.heap.size w ((wr.setCell ⟨w.heap.size + 1,0,none⟩ (.slice fa k fc)).setCell ⟨w.heap.size + 1,1,none⟩ (.slice va k vc))):=by
     have h1:=heap_setCell_same wr (w.heap.size + 1) 0 _ 123 (.slice fa k fc) HR3.out
     have hS:∀ ts:Nat→Bool,ts 123=true→Steady ts w.heap.size wr ((wr.setCell ⟨w.heap.size + 1,0,none⟩ (.slice fa k fc)).setCell ⟨w.heap.size + 1,1,none⟩ (.slice va k vc)):=fun ts hts =>
      (steady_set HR3.out hts (by omega) _).trans (steady_set h1 hts (by omega) _)
     refine ⟨⟨(HFD.out.steady (hS tsW (by decide)) (by decide)).lower (by omega),(HVL.out.steady ((hS tsF (by decide)).lower hbase)).lower (by omega),fun j hj=>?_⟩,(HB2.out.trans (HW.out.mono HB2.out.size)).trans (hS tsF (by decide)).below⟩
     exact Nat.le_trans (valsL_few HD.out) (thingOf_ok (HT2.out) HLS.out q.type (q.K j)).1.1
    rw [hkn] at HEND
    go_wp2_with fail
    rw [HSV.out]
    exact bodyPost_ret (v:=.tuple #[.agg #[.slice fa q.nk fc,.slice va q.nk vc],.int .i64 0]) (by simp [results,Tryz.results69,go_sem,d0,d1]) rfl ⟨_,_,rfl,HEND.out⟩
end Go.Proofs.YtjjggefmmeminacGreat
