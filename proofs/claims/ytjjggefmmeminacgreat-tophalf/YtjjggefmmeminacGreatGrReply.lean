import Derived.Test.YtjjggefmmeminacGreatGrRepReg
import Derived.Test.YtjjggefmmeminacGreatJGk
import Derived.Test.YtjjggefmmeminacGreatGvAnswer
import Derived.Test.YtjjggefmmeminacGreatJGq
namespace Go.Proofs.YtjjggefmmeminacGreat
open Go.RowKit Go.Sort Go.PlainAid
theorem Tryz.info35:(Tryz.prog.info? 35).map (fun i=>(i.zero,i.size,i.bytes))=some (some (.agg #[.int .i64 0,.string ⟨#[]⟩,.slice none 0 0,.slice none 0 0]),4,72):=by kernel_rfl
theorem RepliesO.lower {w:World} {B B' base:Nat} {fv vv:Value} {N:Nat} {fnd:Nat→Bool} {Ls:Nat→List LVal} (h:RepliesO w B base fv vv N fnd Ls) (hb:B'≤B):RepliesO w B' base fv vv N fnd Ls:=⟨h.found.lower hb,h.vals.lower hb,h.few⟩
theorem RepliesO.kept {w w':World} {B:Nat} {fv vv:Value} {N:Nat} {fnd:Nat→Bool} {Ls:Nat→List LVal} (h:RepliesO w B 0 fv vv N fnd Ls) (hB:Below w.heap.size w w'):RepliesO w' B 0 fv vv N fnd Ls:=⟨h.found.kept hB,h.vals.kept hB (Nat.zero_le _),h.few⟩
theorem RepliesO.set {w:World} {B b o:Nat} {fv vv u:Value} {N:Nat} {fnd:Nat→Bool} {Ls:Nat→List LVal} {cs:Array Value} {fz:Nat × Nat} (h:RepliesO w B 0 fv vv N fnd Ls) (hb:w.heap[b]? = some (.cells cs 123 fz)):RepliesO (w.setCell ⟨b,o,none⟩ u) B 0 fv vv N fnd Ls :=
 ⟨h.found.steady (steady_set (ts:=tsW) (base:=0) hb (by decide) (Nat.zero_le _) u) (by decide),h.vals.steady (steady_set (ts:=tsF) (base:=0) hb (by decide) (Nat.zero_le _) u),h.few⟩
theorem RepliesO.slices {w:World} {B base:Nat} {fv vv:Value} {N:Nat} {fnd:Nat→Bool} {Ls:Nat→List LVal} (h:RepliesO w B base fv vv N fnd Ls):∃ fa fc va vc,fv = .slice fa N fc∧vv = .slice va N vc:=by
 obtain ⟨fa,fc,e1,-⟩:=h.found.slice
 obtain ⟨sv,hr,-⟩:=h.vals
 obtain ⟨va,vc,e2,-⟩:=hr.slice
 exact ⟨fa,fc,va,vc,e1,e2⟩
theorem KeepQ.set_new {N0 bg b o:Nat} {w w':World} {u:Value} (h:KeepQ N0 bg w w') (hb:w.heap.size≤b):KeepQ N0 bg w (w'.setCell ⟨b,o,none⟩ u) :=
 ⟨h.os,h.tape,h.output,by simpa using h.size,fun k hk hne hq=>(Below.heap_setCell _ _ _ _ (by show k≠b; omega)).trans (h.block k hk hne hq)⟩
theorem GateAt.set {N0 bg b o t:Nat} {sv pv u:Value} {w:World} {R:List PReq} {cs:Array Value} {fz:Nat × Nat} (h:GateAt N0 bg sv pv w R) (hb:w.heap[b]? = some (.cells cs t fz)) (h1:t≠82) (h2:t≠35) (h3:t≠9):GateAt N0 bg sv pv (w.setCell ⟨b,o,none⟩ u) R :=
 h.at fun k cs' t' _ ho ht=>Below.heap_setCell _ _ _ _ fun e=>by
  have e:k=b:=e
  subst e
  rw [hb] at ho
  cases ho
  rcases ht with e | e | e
  ·exact h1 e
  ·exact h2 e
  ·exact h3 e
def RepP1 (W:World) (keys:List ByteArray) (sv:Int) (ty:ByteArray) (fv:Value) (j:Nat) (x:Nat→Value) (o:Option Nat) (w1:World):Prop:=Below W.heap.size W w1∧(1≤j→(∃ A C,x 0 = .slice A keys.length C)∧TRow w1 W.heap.size (x 0) keys)∧(2≤j→x 1 = .agg #[.int .i64 sv,.string ty,x 0,fv])∧(3≤j→o≠none) ∧
 ∀ b,o=some b→W.heap.size≤b∧w1.heap[b]? = some (.cells (if 3≤j then #[.int .i64 sv,.string ty,x 0,fv] else #[.int .i64 0,.string ⟨#[]⟩,.slice none 0 0,.slice none 0 0]) 35 (0,0))
def RepP2 (w3:World) (bg:Nat) (St:World→Prop) (cs:Array Value) (R2:Value→World→Prop) (j:Nat) (x:Nat→Value) (w1:World):Prop:=(j < 3→St w1)∧(j=0→w1=w3.drew)∧(j=1→w1=w3.drew.alloc (.cells cs 35)∧x 0 = .slice (some ⟨w3.heap.size,0,none⟩) 1 1)∧(j=2→R2 (x 1) w1)∧(j=3→∃ w2,R2 (x 1) w2∧w1=w2.setCell ⟨bg,2,none⟩ (x 1))
def RepP3 (w4:World) (R3:Value→Value→World→Prop) (j:Nat) (x:Nat→Value) (o:Option Nat) (w1:World):Prop:=Below w4.heap.size w4 w1∧(1≤j→∃ fa fn fc va vn vc,R3 (.slice fa fn fc) (.slice va vn vc) w1∧x 0 = .tuple #[.agg #[.slice fa fn fc,.slice va vn vc],.int .i64 0]∧(2≤j→x 1=x 0)∧(3≤j→x 2 = .agg #[.slice fa fn fc,.slice va vn vc])∧(4≤j→∀ b,o=some b→w1.heap[b]? = some (.cells #[.slice fa fn fc,.slice va vn vc] 123 (0,0))))∧(4≤j→o≠none) ∧
 ∀ b,o=some b→w4.heap.size≤b∧(j < 4→w1.heap[b]? = some (.cells #[.slice none 0 0,.slice none 0 0] 123 (0,0)))
set_option maxRecDepth 100000 in
set_option maxHeartbeats 4000000 in
theorem reply_any (N0 bg n cap:Nat) (la:Option Addr) (pa:Option Addr) (pn pc:Nat) (V:Nat→LServ) (h:POwner) (keys fields:List ByteArray) (ka:Option Addr) (kcap:Nat) (fv:Value) (R:List PReq) (w:World)
  (hG:GateAt N0 bg (.slice la n cap) (.slice pa pn pc) w R) (hN:N0≤bg) (hNw:N0≤w.heap.size) (hS:∀ w1,Below N0 w w1→ServsAt w1 la n V) (hL:∀ i,i < n→LightS (svOf (V i))) (hn5:n≤5) (hq:ReqR n V ⟨h.svc,h.type,keys,fields⟩) (hK:TxtAt w ka keys) (hlen:keys.length≤1200) (hF:TRow w N0 fv fields) (hfl:fields.length≤60) (hfs:∀ x,x ∈ fields→Small x) (hR:R.length≤1000000) :
  Calls Tryz.prog 45 #[.pointer (some ⟨bg,0,none⟩),.agg #[.int .i64 h.svc,.string h.type,.string h.field],.slice ka keys.length kcap,fv] w fun e w' => ∃ f1 v1,e = .returned (.agg #[f1,v1])∧RepliesO w' w.heap.size 0 f1 v1 keys.length (fun j=>hasT (V h.svc.toNat) h.type (txtN keys j)) (fun j=>valsL (thingOf (svOf (V h.svc.toNat)) h.type (txtN keys j)) fields.length (txtN fields)) ∧
   GateAt N0 bg (.slice la n cap) (.slice pa pn pc) w' (R ++ [⟨h.svc,h.type,keys,fields⟩])∧KeepQ N0 bg w w':=by
 obtain ⟨iR,ri,rz0,rz1,rz2⟩:=info_parts' Tryz.info35
 obtain ⟨fa,fc,rfl,hfc⟩:=hF.slice
 have hksm:∀ x,x ∈ keys→Small x:=fun x hx=>by
  obtain ⟨i,hi,rfl⟩:=List.getElem_of_mem hx
  obtain ⟨_,_,_,_,s⟩:=hK.2 i hi
  have:txtN keys i=keys[i]:=by simp [txtN,List.getD,hi]
  rw [this] at s; exact s
 generalize hW:(w.alloc (Obj.cells #[.int .i64 h.svc,.string h.type,.string h.field] 118)).alloc (Obj.cells #[.slice none 0 0,.slice none 0 0] 123)=W
 have hBW:Below w.heap.size w W:=by rw [← hW]; exact below2 _ _ _
 have hWs:W.heap.size=w.heap.size + 1 + 1:=by rw [← hW]; simp
 have o0:W.cell? ⟨w.heap.size,0,none⟩=some (.int .i64 h.svc):=by rw [← hW,World.cell?_alloc_past _ _ _ (by simp),World.cell?_alloc_at _ _ _ _ rfl]; rfl
 have o1:W.cell? ⟨w.heap.size,1,none⟩=some (.string h.type):=by rw [← hW,World.cell?_alloc_past _ _ _ (by simp),World.cell?_alloc_at _ _ _ _ rfl]; rfl
 have hres:W.heap[w.heap.size + 1]? = some (.cells #[.slice none 0 0,.slice none 0 0] 123 (0,0)):=by
  rw [← hW]
  have h1:=heap_alloc_new (w.alloc (Obj.cells #[.int .i64 h.svc,.string h.type,.string h.field] 118)) (Obj.cells #[.slice none 0 0,.slice none 0 0] 123)
  rw [show (w.alloc (Obj.cells #[.int .i64 h.svc,.string h.type,.string h.field] 118)).heap.size=w.heap.size + 1 by simp] at h1
  exact h1
 have HK:=Hid.intro (hK.kept hBW)
 have HF:=Hid.intro (hF.kept hBW)
 have HGt:=Hid.intro (hG.kept hBW)
 have HSv:=Hid.intro hS
 have HBW:=Hid.intro hBW
 have HRes:=Hid.intro hres
 have HQ:=Hid.intro hq
 have HL:=Hid.intro hL
 have HFS:=Hid.intro hfs
 have HKSM:=Hid.intro hksm
 have hk0:keys≠[]:=hq.some
 clear hK hF hG hS hBW hres hq hL hfs hksm
 go_enter Tryz.func45,Tryz.ntmps45
 go_upto_region 1 with fail
 clear hW
 refine repNew (RepP1 W keys h.svc h.type (.slice fa fields.length fc)) (bo:=w.heap.size) (kn:=keys.length) (kc:=kcap) (fn:=fields.length) (fc:=fc) (ka:=ka) (fa:=fa) (sv:=h.svc) (ty:=h.type) (by kernel_rfl) rfl rfl rfl ?_ ?_ ?_ ?_ ?_ ?_ ?_ ?_ ?_
 ·rintro x o w1 ⟨-,h1,-⟩
  obtain ⟨⟨A,C,e⟩,-⟩:=h1 (by omega)
  exact ⟨A,_,C,e⟩
 ·rintro x o w1 ⟨-,h1,h2,-⟩
  obtain ⟨⟨A,C,e⟩,-⟩:=h1 (by omega)
  exact ⟨A,_,C,e,h2 (by omega)⟩
 ·intro x
  exact ⟨(Below.refl _ _).drew,fun h=>absurd h (by omega),fun h=>absurd h (by omega),fun h=>absurd h (by omega),fun b hb=>by cases hb⟩
 ·rintro j x o w1 - ⟨hB,-⟩
  exact ⟨keptCell hB o0,keptCell hB o1⟩
 ·rintro x o w1 ⟨hB,-,-,-,hb⟩
  refine (clone_any ka kcap keys w1 (HK.out.kept hB) hk0 (by omega)).mono ?_
  rintro e w2 ⟨⟨v,rfl,hT⟩,hB2⟩
  refine ⟨v,rfl,fun x' e1 e2=>⟨hB.trans (hB2.mono hB.size),fun _=>?_,fun h=>absurd h (by omega),fun h=>absurd h (by omega),fun b hb'=>?_⟩⟩
  ·rw [e1]
   obtain ⟨A,C,e,-⟩:=hT.slice
   exact ⟨⟨A,C,e⟩,hT.base hB.size⟩
  ·obtain ⟨q1,q2⟩:=hb b hb'
   exact ⟨q1,(hB2.block _ (lt_of_block q2)).trans q2⟩
 ·rintro x o w1 ⟨hB,h1,-,-,hb⟩ x' e1 e2
  have e0:x' 0=x 0:=e2 0 (by decide)
  refine ⟨hB,fun _=>by rw [e0]; exact h1 (by omega),fun _=>by rw [e1,e0],fun h=>absurd h (by omega),fun b hb'=>?_⟩
  exact hb b hb'
 ·rintro x b w1 ⟨hB,h1,h2,-,hb⟩
  obtain ⟨q1,q2⟩:=hb b rfl
  rw [if_neg (by omega)] at q2
  refine ⟨q2,hB.trans ⟨rfl,rfl,rfl,by simp,fun k hk=>?_⟩,fun _=>?_,fun _=>h2 (by omega),(fun _ h=>by cases h),fun b' hb'=>?_⟩
  ·rw [Below.heap_setCell _ _ _ _ (by show k≠b; omega),Below.heap_setCell _ _ _ _ (by show k≠b; omega),Below.heap_setCell _ _ _ _ (by show k≠b; omega),Below.heap_setCell _ _ _ _ (by show k≠b; omega)]
  ·obtain ⟨ex,hT⟩:=h1 (by omega)
   refine ⟨ex,Row.at hT fun k hk=>?_⟩
   have hne:k≠b:=fun e=>by
    subst e
    obtain ⟨cs,ho⟩:=Row.obj hT hk
    rw [q2] at ho
    cases ho
   rw [Below.heap_setCell _ _ _ _ hne,Below.heap_setCell _ _ _ _ hne,Below.heap_setCell _ _ _ _ hne,Below.heap_setCell _ _ _ _ hne]
  ·cases hb'
   refine ⟨q1,?_⟩
   have g0:=heap_setCell_same _ b 0 _ 35 (.int .i64 h.svc) q2
   have g1:=heap_setCell_same _ b 1 _ 35 (.string h.type) g0
   have g2:=heap_setCell_same _ b 2 _ 35 (x 0) g1
   have g3:=heap_setCell_same _ b 3 _ 35 (.slice fa fields.length fc) g2
   rw [g3,if_pos (by omega)]
   rfl
 ·rintro j x w1 ⟨hB,h1,h2,h3,-⟩
  refine ⟨hB.trans ((below1 w1 _).mono hB.size),fun hj=>⟨(h1 hj).1,(h1 hj).2.kept (below1 w1 _)⟩,h2,fun hj=>absurd rfl (h3 hj),fun b hb=>?_⟩
  cases hb
  rw [if_neg (fun hj=>absurd rfl (h3 hj))]
  exact ⟨hB.size,heap_alloc_new _ _⟩
 intro s bq w3 hs9 hp
 obtain ⟨hB3,hp1,-,-,hp4⟩:=hp
 obtain ⟨⟨A,C,hx0⟩,hT3⟩:=hp1 (by omega)
 obtain ⟨hbq,hq3⟩:=hp4 bq rfl
 rw [if_pos (by omega)] at hq3
 replace hx0:s 17 = .slice A keys.length C:=hx0
 replace hT3:TRow w3 W.heap.size (s 17) keys:=hT3
 replace hq3:w3.heap[bq]? = some (.cells #[.int .i64 h.svc,.string h.type,s 17,.slice fa fields.length fc] 35 (0,0)):=hq3
 rw [hx0] at hT3 hq3
 simp only [putAll,Act.put,List.setIfInBounds_toArray,List.set_cons_succ,List.set_cons_zero,hs9]
 clear hs9 hp1 hp4
 generalize s 12=t12
 generalize s 13=t13
 generalize s 14=t14
 generalize s 15=t15
 generalize s 16=t16
 generalize s 17=t17 at *
 generalize s 18=t18
 generalize s 19=t19
 clear hx0 o0 o1
 obtain ⟨rv,kv,fv',hgW,hrW⟩:=HGt.out
 have hrb:∀ k,rv.ownBlock=some k→k < W.heap.size:=fun k hk=>(hrW.row.lt hk).2
 have hbgW:bg < W.heap.size:=lt_of_block hgW
 have hg3:=(hB3.block _ hbgW).trans hgW
 have hr3:=hrW.kept hB3
 obtain ⟨ra,rc,rfl,hrc⟩:=hr3.slice
 have hF3:=HF.out.kept hB3
 have hNW:N0≤W.heap.size:=by omega
 obtain ⟨cs,hcs⟩:∃ cs:Array Value,cs = #[.int .i64 h.svc,.string h.type,.slice A keys.length C,.slice fa fields.length fc]:=⟨_,rfl⟩
 have hcs1:cs.toList=reqL ⟨h.svc,h.type,keys,fields⟩ (.slice A keys.length C) (.slice fa fields.length fc):=by rw [hcs]; rfl
 have hBa:Below w3.heap.size w3 (w3.drew.alloc (.cells cs 35)):=(Below.refl w3.heap.size w3).drew.trans (below1 w3.drew _)
 have happ:=fun ty=>run_append_any (P:=Tryz.prog) (w3.drew.alloc (.cells cs 35)) N0 28 ty 35 iR _ 4 72 Tryz.underlying28 ri rz0 rz1 rz2 rfl (by decide) (.slice ra R.length rc) R.length _ (hr3.kept hBa).row (some ⟨w3.heap.size,0,none⟩) 1 1 cs.toList (by rw [hcs]; rfl) (alloc_news w3.drew cs _) (fun h=>by cases h) (by rw [hcs1]; intro u hu; simp [reqL] at hu; rcases hu with rfl | rfl | rfl | rfl <;> rfl) (by unfold maxLen; omega) (by omega) (by have:=hBa.size; have:=hB3.size; omega)
 have hneg:(Value.slice ra R.length rc).ownBlock≠some bg:=fun e=>by
  obtain ⟨c9,ho⟩:=hr3.row.obj e
  rw [hg3] at ho; cases ho
 have hneq:(Value.slice ra R.length rc).ownBlock≠some bq:=fun e=>by
  have:=hrb bq e; omega
 obtain ⟨qc0,qc1,qc2,qc3⟩:w3.cell? ⟨bq,0,none⟩=some (.int .i64 h.svc)∧w3.cell? ⟨bq,1,none⟩=some (.string h.type)∧w3.cell? ⟨bq,2,none⟩=some (.slice A keys.length C)∧w3.cell? ⟨bq,3,none⟩=some (.slice fa fields.length fc):=by simp [World.cell?,hq3]
 have hgc:w3.cell? ⟨bg,2,none⟩=some (.slice ra R.length rc):=by simp [World.cell?,hg3]
 have hStA:∀ w1:World,w1.heap[bg]? = w3.heap[bg]?→w1.heap[bq]? = w3.heap[bq]?→w1.cell? ⟨bg,2,none⟩=some (.slice ra R.length rc)∧w1.cell? ⟨bq,0,none⟩=some (.int .i64 h.svc)∧w1.cell? ⟨bq,1,none⟩=some (.string h.type)∧w1.cell? ⟨bq,2,none⟩=some (.slice A keys.length C)∧w1.cell? ⟨bq,3,none⟩=some (.slice fa fields.length fc):=fun w1 e1 e2 =>
  ⟨(World.cell?_of_block e1).trans hgc,(World.cell?_of_block e2).trans qc0,(World.cell?_of_block e2).trans qc1,(World.cell?_of_block e2).trans qc2,(World.cell?_of_block e2).trans qc3⟩
 have hbq3:bq < w3.heap.size:=lt_of_block hq3
 have hbg3:bg < w3.heap.size:=lt_of_block hg3
 go_upto_region 2 with fail
 refine repApp (RepP2 w3 bg (fun w1=>w1.heap[bg]? = w3.heap[bg]?∧w1.heap[bq]? = w3.heap[bq]?) cs (fun x w2=>w2.ownsRow N0 35 4 x (R.length + 1) ((List.range (R.length * 4)).map (reqCell R kv fv') ++ cs.toList)∧(w3.drew.alloc (.cells cs 35)).grownBy w2 (Value.slice ra R.length rc).ownBlock)) (bg:=bg) (bq:=bq) (kn:=keys.length) (kc:=C) (fn:=fields.length) (fc:=fc) (rn:=R.length) (rc:=rc) (ka:=A) (fa:=fa) (ra:=ra) (sv:=h.svc) (ty:=h.type) (by kernel_rfl) rfl rfl ?_ ?_ ?_ ?_ ?_ ?_
 ·intro x
  exact ⟨fun _=>⟨rfl,rfl⟩,fun _=>rfl,fun h=>absurd h (by omega),fun h=>absurd h (by omega),fun h=>absurd h (by omega)⟩
 ·rintro j x w1 hj ⟨h1,-⟩
  exact hStA w1 (h1 hj).1 (h1 hj).2
 ·rintro x w1 ⟨h1,h2,-⟩ x' e1 e2
  have hw1:=h2 rfl
  subst hw1
  rw [← hcs]
  exact ⟨fun _=>⟨hBa.block _ hbg3,hBa.block _ hbq3⟩,fun h=>absurd h (by omega),fun _=>⟨rfl,e1⟩,fun h=>absurd h (by omega),fun h=>absurd h (by omega)⟩
 ·rintro x w1 ⟨h1,-,h3,-⟩ ty
  obtain ⟨hw1,hx⟩:=h3 rfl
  subst hw1
  obtain ⟨v',w2,hr,hown,hgr,hvb⟩:=happ ty
  rw [hx]
  refine ⟨v',w2,hr,fun x' e1 e2=>⟨fun _=>⟨?_,?_⟩,fun h=>absurd h (by omega),fun h=>absurd h (by omega),fun _=>?_,fun h=>absurd h (by omega)⟩⟩
  ·rw [hgr.block bg (Nat.lt_of_lt_of_le hbg3 hBa.size) (Ne.symm hneg),hBa.block _ hbg3]
  ·rw [hgr.block bq (Nat.lt_of_lt_of_le hbq3 hBa.size) (Ne.symm hneq),hBa.block _ hbq3]
  ·rw [e1]; exact ⟨hown,hgr⟩
 ·rintro x w1 ⟨h1,-,-,h4,-⟩
  obtain ⟨hown,hgr⟩:=h4 rfl
  obtain ⟨va,vc,e⟩:=owned_slice hown
  have hgb:w1.heap[bg]? = some (.cells #[.slice la n cap,.slice pa pn pc,.slice ra R.length rc] 82 (0,0)):=(h1 (by omega)).1.trans hg3
  refine ⟨va,_,vc,.slice ra R.length rc,e,by simp [World.cell?,hgb],by simp [World.frozen?,hgb],fun h=>absurd h (by omega),fun h=>absurd h (by omega),fun h=>absurd h (by omega),fun h=>absurd h (by omega),fun _=>⟨w1,⟨hown,hgr⟩,rfl⟩⟩
 intro s w4 hp
 obtain ⟨-,-,-,-,hp⟩:=hp
 obtain ⟨w2,⟨hown,hgr⟩,hw4⟩:=hp rfl
 have hown:w2.ownsRow N0 35 4 (s 27) (R.length + 1) ((List.range (R.length * 4)).map (reqCell R kv fv') ++ cs.toList):=hown
 have hw4:w4=w2.setCell ⟨bg,2,none⟩ (s 27):=hw4
 obtain ⟨va,vc,hv27⟩:=owned_slice hown
 rw [hcs1] at hown
 have hgb2:w2.heap[bg]? = some (.cells #[.slice la n cap,.slice pa pn pc,.slice ra R.length rc] 82 (0,0)):=by
  rw [hgr.block bg (Nat.lt_of_lt_of_le hbg3 hBa.size) (Ne.symm hneg),hBa.block _ hbg3]; exact hg3
 have hrr2:=(hr3.kept hBa).app (r:=⟨h.svc,h.type,keys,fields⟩) (k1:=.slice A keys.length C) (f1:=.slice fa fields.length fc) ⟨by unfold maxLen; show keys.length≤_; omega,(hT3.kept hBa).base hNW,fun j hj=>HKSM.out _ (txtN_mem hj)⟩ ⟨by unfold maxLen; show fields.length≤_; omega,hF3.kept hBa,fun j hj=>HFS.out _ (txtN_mem hj)⟩ hown hgr
 have hset:∀ k,k≠bg→w4.heap[k]? = w2.heap[k]?:=fun k hk=>by rw [hw4]; exact Below.heap_setCell _ _ _ _ hk
 have hall:∀ k,k < w3.heap.size→k≠bg→(Value.slice ra R.length rc).ownBlock≠some k→w4.heap[k]? = w3.heap[k]?:=fun k hk h1 h2=>by
  rw [hset k h1,hgr.block k (Nat.lt_of_lt_of_le hk hBa.size) (Ne.symm h2),hBa.block k hk]
 have hG4:GateAt N0 bg (.slice la n cap) (.slice pa pn pc) w4 (R ++ [⟨h.svc,h.type,keys,fields⟩]):=by
  refine ⟨s 27,_,_,?_,hrr2.at (fun k hk=>hset k fun e=>?_) fun k cs' _ hk ho=>hset k fun e=>?_⟩
  ·rw [hw4]
   exact heap_setCell_same _ bg 2 _ 82 (s 27) hgb2
  ·subst e
   obtain ⟨c9,ho⟩:=hrr2.row.obj hk
   rw [hgb2] at ho; cases ho
  ·subst e
   rw [hgb2] at ho; cases ho
 have hsz4:w3.heap.size≤w4.heap.size:=by
  rw [hw4]
  have:=hgr.size
  have:=hBa.size
  simp
  omega
 have hKQ:KeepQ N0 bg w w4:=by
  refine ⟨?_,?_,?_,?_,fun k hk hne hq=>?_⟩
  ·rw [hw4]; exact hgr.os.trans (hBa.os.trans (hB3.os.trans HBW.out.os))
  ·rw [hw4]; exact hgr.tape.trans (hBa.tape.trans (hB3.tape.trans HBW.out.tape))
  ·rw [hw4]; exact hgr.output.trans (hBa.output.trans (hB3.output.trans HBW.out.output))
  ·have:=hB3.size; omega
  ·have hkW:k < W.heap.size:=by omega
   rw [hall k (Nat.lt_of_lt_of_le hkW hB3.size) hne (fun e=>?_),hB3.block k hkW,HBW.out.block k hk]
   rcases hq with hq | hq
   ·have:=(hrW.row.lt e).1; omega
   ·obtain ⟨c9,ho⟩:=hrW.row.obj e
    exact hq ⟨c9,(0,0),by rw [← HBW.out.block k hk]; exact ho⟩
 have hq4:w4.heap[bq]? = some (.cells #[.int .i64 h.svc,.string h.type,.slice A keys.length C,.slice fa fields.length fc] 35 (0,0)):=(hall bq hbq3 (by omega) hneq).trans hq3
 have hres4:w4.heap[w.heap.size + 1]? = some (.cells #[.slice none 0 0,.slice none 0 0] 123 (0,0)):=by
  have hlt:=lt_of_block HRes.out
  rw [hall (w.heap.size + 1) (Nat.lt_of_lt_of_le hlt hB3.size) (fun e=>?_) (fun e=>?_),hB3.block _ hlt]
  ·exact HRes.out
  ·rw [e] at HRes
   have:=HRes.out
   rw [hgW] at this; cases this
  ·obtain ⟨c9,ho⟩:=hrW.row.obj e
   have:=HRes.out
   rw [this] at ho; cases ho
 have hstr:∀ (k:Nat) (cs:Array Value),w3.heap[k]? = some (.cells cs 9 (0,0))→w4.heap[k]? = w3.heap[k]?:=fun k cs' ho=>hall k (lt_of_block ho) (fun e=>by subst e; rw [hg3] at ho; cases ho) (fun e=>by
  obtain ⟨c9,ho'⟩:=hr3.row.obj e
  rw [ho] at ho'; cases ho')
 have hT4:TRow w4 W.heap.size (.slice A keys.length C) keys:=Row.at hT3 fun k hk=>let ⟨_,ho⟩:=Row.obj hT3 hk; hstr k _ ho
 have hF4:TRow w4 N0 (.slice fa fields.length fc) fields:=Row.at hF3 fun k hk=>let ⟨_,ho⟩:=Row.obj hF3 hk; hstr k _ ho
 obtain ⟨a9,c9,e9,hAC,htk⟩:=hT4.at (by unfold maxLen; omega) HKSM.out
 cases e9
 obtain ⟨a9,c9,e9,hfaC,htf⟩:=hF4.at (by unfold maxLen; omega) HFS.out
 cases e9
 have hS4:=fun w1 (hB:Below w4.heap.size w4 w1)=>HSv.out w1 ((hKQ.below hN hNw).trans (hB.mono (by have:=hB3.size; omega)))
 have hQ4:=HQ.out.ok (hS4 w4 (Below.refl _ _)) hn5 htk htf hAC hfaC
 have hwz:=right_req HQ.out A C fa fc
 have hgs:w4.cell? ⟨bg,0,none⟩=some (.slice la n cap):=by
  have:w4.heap[bg]? = some (.cells #[.slice la n cap,.slice pa pn pc,s 27] 82 (0,0)):=by
   rw [hw4]; exact heap_setCell_same _ bg 2 _ 82 (s 27) hgb2
  simp [World.cell?,this]
 obtain ⟨qc0,qc1,qc2,qc3⟩:w4.cell? ⟨bq,0,none⟩=some (.int .i64 h.svc)∧w4.cell? ⟨bq,1,none⟩=some (.string h.type)∧w4.cell? ⟨bq,2,none⟩=some (.slice A keys.length C)∧w4.cell? ⟨bq,3,none⟩=some (.slice fa fields.length fc):=by simp [World.cell?,hq4]
 have HG4:=Hid.intro hG4
 have HKQ:=Hid.intro hKQ
 have HR4:=Hid.intro hres4
 have HS4:=Hid.intro hS4
 have HQ4:=Hid.intro hQ4
 have hw4s:w.heap.size + 1 < w4.heap.size:=lt_of_block hres4
 have HWZ:=Hid.intro hwz
 clear hG4 hKQ hres4 hS4 hQ4 hstr hall hset hrr2 hgb2 hT4 hF4 hT3 hF3 hq3 hq4 hg3 hr3 hgW hrW hrb happ hgr hown hStA htk htf hgc hneg hneq hB3 hBa hcs1 hwz
 simp only [putAll,Act.put,List.setIfInBounds_toArray,List.set_cons_succ,List.set_cons_zero]
 generalize s 20=t20
 generalize s 21=t21
 generalize s 22=t22
 generalize s 23=t23
 generalize s 24=t24
 generalize s 25=t25
 generalize s 26=t26
 generalize s 27=t27 at *
 generalize s 28=t28
 generalize s 29=t29
 clear hw4 hv27
 go_upto_region 3 with fail
 refine repAsk (RepP3 w4 (fun f v w1=>RepliesO w1 w4.heap.size 0 f v keys.length (fun j=>hasT (V h.svc.toNat) h.type (txtN keys j)) (fun j=>valsL (thingOf (svOf (V h.svc.toNat)) h.type (txtN keys j)) fields.length (txtN fields)))) (bg:=bg) (bq:=bq) (kn:=keys.length) (kc:=C) (fn:=fields.length) (fc:=fc) (n:=n) (cap:=cap) (ka:=A) (fa:=fa) (la:=la) (sv:=h.svc) (ty:=h.type) (by kernel_rfl) rfl rfl ?_ ?_ ?_ ?_ ?_ ?_ ?_ ?_ ?_ ?_
 ·rintro j x o w1 hj ⟨-,h1,-⟩
  obtain ⟨f1,f2,f3,f4,f5,f6,-,e1,e2,-⟩:=h1 (by omega)
  exact ⟨_,(e2 hj).trans e1⟩
 ·rintro x o w1 ⟨-,h1,-⟩
  obtain ⟨f1,f2,f3,f4,f5,f6,-,-,-,e3,-⟩:=h1 (by omega)
  exact ⟨_,_,_,_,_,_,e3 (by omega)⟩
 ·intro x
  exact ⟨(Below.refl _ _).drew,fun h=>absurd h (by omega),fun h=>absurd h (by omega),fun b hb=>by cases hb⟩
 ·rintro j x o w1 - ⟨hB,-⟩
  exact ⟨keptCell hB hgs,keptCell hB qc0,keptCell hB qc1,keptCell hB qc2,keptCell hB qc3⟩
 ·rintro x o w1 ⟨hB,-,-,hb⟩
  refine (answerO_any la n cap (fun i=>svOf (V i)) (lreq ⟨h.svc,h.type,keys,fields⟩ A C fa fc) w1 (HS4.out w1 hB).sv HL.out (HQ4.out.kept hB) (by show keys.length * 16≤_; omega) 0 (Nat.zero_le _)).mono ?_
  rintro e w2' ⟨f1,v1,rfl,hRep,hB2⟩
  rw [HWZ.out] at hRep ⊢
  replace hRep:RepliesO w2' w1.heap.size 0 f1 v1 keys.length (fun j=>hasT (V h.svc.toNat) h.type (txtN keys j)) (fun j=>valsL (thingOf (svOf (V h.svc.toNat)) h.type (txtN keys j)) fields.length (txtN fields)):=hRep
  obtain ⟨a1,c1,a2,c2,rfl,rfl⟩:=hRep.slices
  refine ⟨_,rfl,fun x' e1 e2=>⟨hB.trans (hB2.mono hB.size),fun _=>⟨a1,_,c1,a2,_,c2,hRep.lower hB.size,e1,fun h=>absurd h (by omega),fun h=>absurd h (by omega),fun h=>absurd h (by omega)⟩,fun h=>absurd h (by omega),fun b hb'=>?_⟩⟩
  obtain ⟨q1,q2⟩:=hb b hb'
  exact ⟨q1,fun _=>(hB2.block _ (lt_of_block (q2 (by omega)))).trans (q2 (by omega))⟩
 ·rintro x o w1 ⟨hB,h1,-,hb⟩ x' e1 e2
  obtain ⟨f1,f2,f3,f4,f5,f6,r1,r2,-⟩:=h1 (by omega)
  have e0:x' 0=x 0:=e2 0 (by decide)
  exact ⟨hB,fun _=>⟨f1,f2,f3,f4,f5,f6,r1,e0.trans r2,fun _=>e1.trans e0.symm,fun h=>absurd h (by omega),fun h=>absurd h (by omega)⟩,fun h=>absurd h (by omega),fun b hb'=>⟨(hb b hb').1,fun _=>(hb b hb').2 (by omega)⟩⟩
 ·rintro x o w1 ⟨hB,h1,-,hb⟩
  obtain ⟨f1,f2,f3,f4,f5,f6,r1,r2,r3,-⟩:=h1 (by omega)
  refine ⟨f1,f2,f3,f4,f5,f6,(r3 (by omega)).trans r2,fun x' e1 e2=>?_⟩
  have e0:x' 0=x 0:=e2 0 (by decide)
  have e9:x' 1=x 1:=e2 1 (by decide)
  exact ⟨hB,fun _=>⟨f1,f2,f3,f4,f5,f6,r1,e0.trans r2,fun _=>by rw [e9,e0]; exact r3 (by omega),fun _=>e1,fun h=>absurd h (by omega)⟩,fun h=>absurd h (by omega),fun b hb'=>⟨(hb b hb').1,fun _=>(hb b hb').2 (by omega)⟩⟩
 ·rintro x b w1 ⟨hB,h1,-,hb⟩
  obtain ⟨f1,f2,f3,f4,f5,f6,r1,r2,r3,r4,-⟩:=h1 (by omega)
  obtain ⟨q1,q2⟩:=hb b rfl
  have q2:=q2 (by omega)
  have e2:=r4 (by omega)
  rw [e2]
  have g0:=heap_setCell_same _ b 0 _ 123 (.slice f1 f2 f3) q2
  have g1:=heap_setCell_same _ b 1 _ 123 (.slice f4 f5 f6) g0
  refine ⟨q2,hB.trans ⟨rfl,rfl,rfl,by simp,fun k hk=>?_⟩,fun _=>⟨f1,f2,f3,f4,f5,f6,(r1.set q2).set g0,r2,fun _=>r3 (by omega),fun _=>e2,fun _ b' hb'=>?_⟩,(fun _ h=>by cases h),fun b' hb'=>⟨?_,fun h=>absurd h (by omega)⟩⟩
  ·show ((w1.setCell _ _).setCell _ _).heap[k]? = _
   rw [Below.heap_setCell _ _ _ _ (by show k≠b; omega),Below.heap_setCell _ _ _ _ (by show k≠b; omega)]
  ·cases hb'
   exact g1
  ·cases hb'; exact q1
 ·rintro j x w1 ⟨hB,h1,h2,hb⟩
  have hb1:=below1 w1 (Obj.cells #[.slice none 0 0,.slice none 0 0] 123)
  refine ⟨hB.trans (hb1.mono hB.size),fun hj=>?_,fun hj=>absurd rfl (h2 hj),fun b hb'=>?_⟩
  ·obtain ⟨f1,f2,f3,f4,f5,f6,r1,r2,r3,r4,-⟩:=h1 hj
   exact ⟨f1,f2,f3,f4,f5,f6,r1.kept hb1,r2,r3,r4,fun hj=>absurd rfl (h2 hj)⟩
  ·cases hb'
   exact ⟨hB.size,fun _=>heap_alloc_new _ _⟩
 intro s b w5 hs10 hp
 obtain ⟨hB5,hp1,-,hp3⟩:=hp
 obtain ⟨f1,f2,f3,f4,f5,f6,hRep,-,-,-,hbx⟩:=hp1 (by omega)
 have hbx:=hbx (by omega) b rfl
 have hb4:=(hp3 b rfl).1
 have hr5:=(hB5.block _ (lt_of_block HR4.out)).trans HR4.out
 have g0:=heap_setCell_same _ (w.heap.size + 1) 0 _ 123 (.slice f1 f2 f3) hr5
 have g1:=heap_setCell_same _ (w.heap.size + 1) 1 _ 123 (.slice f4 f5 f6) g0
 have HEND:Hid (RepliesO ((w5.setCell ⟨w.heap.size + 1,0,none⟩ (.slice f1 f2 f3)).setCell ⟨w.heap.size + 1,1,none⟩ (.slice f4 f5 f6)) w.heap.size 0 (.slice f1 f2 f3) (.slice f4 f5 f6) keys.length (fun j=>hasT (V h.svc.toNat) h.type (txtN keys j)) (fun j=>valsL (thingOf (svOf (V h.svc.toNat)) h.type (txtN keys j)) fields.length (txtN fields))∧GateAt N0 bg (.slice la n cap) (.slice pa pn pc) ((w5.setCell ⟨w.heap.size + 1,0,none⟩ (.slice f1 f2 f3)).setCell ⟨w.heap.size + 1,1,none⟩ (.slice f4 f5 f6)) (R ++ [⟨h.svc,h.type,keys,fields⟩])∧KeepQ N0 bg w ((w5.setCell ⟨w.heap.size + 1,0,none⟩ (.slice f1 f2 f3)).setCell ⟨w.heap.size + 1,1,none⟩ (.slice f4 f5 f6))):=by
  exact ⟨((hRep.set hr5).set g0).lower (by omega),((HG4.out.kept hB5).set hr5 (by decide) (by decide) (by decide)).set g0 (by decide) (by decide) (by decide),((HKQ.out.trans (KeepQ.of hB5)).set_new (by omega)).set_new (by omega)⟩
 obtain ⟨d0,d1⟩:w5.cell? ⟨b,0,none⟩=some (.slice f1 f2 f3)∧w5.cell? ⟨b,1,none⟩=some (.slice f4 f5 f6):=by simp [World.cell?,hbx]
 obtain ⟨x0,x1⟩:w5.cell? ⟨w.heap.size + 1,0,none⟩=some (.slice none 0 0)∧w5.cell? ⟨w.heap.size + 1,1,none⟩=some (.slice none 0 0):=by simp [World.cell?,hr5]
 obtain ⟨y0,y1⟩:w5.frozen? ⟨w.heap.size + 1,0,none⟩=false∧w5.frozen? ⟨w.heap.size + 1,1,none⟩=false:=by simp [World.frozen?,hr5]
 clear hRep hbx hr5 g0 g1 hB5 hp1 hp3 HG4 HKQ HR4 HS4 HQ4 qc0 qc1 qc2 qc3 hgs
 simp only [putAll,Act.put,List.setIfInBounds_toArray,List.set_cons_succ,List.set_cons_zero,hs10]
 generalize s 31=t31
 generalize s 32=t32
 generalize s 33=t33
 generalize s 34=t34
 generalize s 35=t35
 generalize s 36=t36
 generalize s 30=t30
 generalize s 37=t37
 generalize s 38=t38
 generalize s 11=t11
 clear hs10
 go_wp2_with fail
 exact bodyPost_ret (v:=.agg #[.slice f1 f2 f3,.slice f4 f5 f6]) (by simp [results,Tryz.results45,go_sem,x0,x1]) rfl ⟨_,_,rfl,HEND.out⟩
end Go.Proofs.YtjjggefmmeminacGreat
