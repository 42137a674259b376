import Derived.Test.YtjjggefmmeminacGreatGrAskReg
import Derived.Test.YtjjggefmmeminacGreatGrAdd
import Derived.Test.YtjjggefmmeminacGreatGrReply
import Derived.Test.YtjjggefmmeminacGreatGrNew
import Derived.Test.YtjjggefmmeminacGreatJGt
namespace Go.Proofs.YtjjggefmmeminacGreat
open Go.RowKit Go.Sort Go.PlainAid
structure KQ (N0:Nat) (X:Nat→Prop) (w w':World):Prop where
 os:w'.os=w.os
 tape:w'.tape=w.tape
 output:w'.output=w.output
 size:w.heap.size≤w'.heap.size
 block:∀ k,k < w.heap.size→¬ X k→(k < N0∨¬ isReq w k)→w'.heap[k]? = w.heap[k]?
theorem KQ.of {N0:Nat} {X:Nat→Prop} {w w':World} (h:Below w.heap.size w w'):KQ N0 X w w':=⟨h.os,h.tape,h.output,h.size,fun k hk _ _=>h.block k hk⟩
theorem KQ.refl (N0:Nat) (X:Nat→Prop) (w:World):KQ N0 X w w:=KQ.of (Below.refl _ _)
theorem KQ.ofQ {N0 bg:Nat} {X:Nat→Prop} {w w':World} (h:KeepQ N0 bg w w') (hX:X bg):KQ N0 X w w':=⟨h.os,h.tape,h.output,h.size,fun k hk hx hq=>h.block k hk (fun e=>hx (by rw [e]; exact hX)) hq⟩
theorem KQ.trans {N0:Nat} {X:Nat→Prop} {w w1 w2:World} (h:KQ N0 X w w1) (h':KQ N0 X w1 w2):KQ N0 X w w2 :=
 ⟨h'.os.trans h.os,h'.tape.trans h.tape,h'.output.trans h.output,Nat.le_trans h.size h'.size,fun k hk hne hq=>by
  have e:=h.block k hk hne hq
  rw [h'.block k (Nat.lt_of_lt_of_le hk h.size) hne (hq.imp id fun hn=>by unfold isReq at hn ⊢; rw [e]; exact hn),e]⟩
theorem KQ.maps {N0 b1 b2:Nat} {X:Nat→Prop} {w w':World} (h:Maps2 b1 b2 w w') (h1:X b1) (h2:X b2):KQ N0 X w w':=⟨h.os,h.tape,h.output,h.size,fun k hk hx _=>Keep.block h k ⟨hk,fun e=>by
  rcases e with e | e
  ·rw [e] at hx; exact hx h1
  ·rw [e] at hx; exact hx h2⟩⟩
theorem KQ.cells {N0:Nat} {X:Nat→Prop} {w w':World} (h:KQ N0 X w w') {k t:Nat} {cs:Array Value} {fz:Nat × Nat} (ho:w.heap[k]? = some (.cells cs t fz)) (ht:t≠35) (hk : ¬ X k):w'.heap[k]? = w.heap[k]? :=
 h.block k (lt_of_block ho) hk (.inr fun ⟨cs',fz',e⟩=>by rw [ho] at e; cases e; exact ht rfl)
theorem KQ.map {N0:Nat} {X:Nat→Prop} {w w':World} (h:KQ N0 X w w') {k:Nat} {es:Array MapEntry} {c:Nat} (ho:w.heap[k]? = some (.map es c)) (hk : ¬ X k):w'.heap[k]? = w.heap[k]? :=
 h.block k (lt_of_block ho) hk (.inr fun ⟨cs',fz',e⟩=>by rw [ho] at e; cases e)
theorem KQ.row {N0:Nat} {X:Nat→Prop} {w w':World} (h:KQ N0 X w w') {base e size n:Nat} {v:Value} {f : Nat→Value} (hR:Row w base e size v n f) (he:e≠35) (hx:∀ k,v.ownBlock=some k→¬ X k):Row w' base e size v n f :=
 hR.at fun k hk=>let ⟨_,ho⟩:=hR.obj hk; h.cells ho he (hx k hk)
theorem KQ.below {N0:Nat} {X:Nat→Prop} {w w':World} (h:KQ N0 X w w') (hX:∀ k,X k→N0≤k) (hN:N0≤w.heap.size):Below N0 w w':=⟨h.os,h.tape,h.output,h.size,fun k hk=>h.block k (by omega) (fun hx=>by have:=hX k hx; omega) (.inl hk)⟩
theorem KQ.lmap {N0 N b n:Nat} {X:Nat→Prop} {w w':World} {v:Int→ByteArray→ByteArray→ByteArray→Option LVal} (h:KQ N0 X w w') (hM:LMap N w b n v) (hb : ¬ X b) (hX:∀ k cs,X k→w.heap[k]? = some (.cells cs 9 (0,0))→False):LMap N w' b n v :=
 hM.at (let ⟨_,_,ho⟩:=hM.obj; h.map ho hb) fun k cs _ _ ho=>h.cells ho (by decide) fun hx=>hX k cs hx ho
theorem KQ.cmap {N0 b n:Nat} {X:Nat→Prop} {w w':World} {c:ByteArray→Nat} (h:KQ N0 X w w') (hM:CMap w b n c) (hb : ¬ X b):CMap w' b n c:=hM.at (let ⟨_,_,ho⟩:=hM.obj; h.map ho hb)
theorem GateAt.maps {N0 bg b1 b2:Nat} {sv pv:Value} {w w':World} {R:List PReq} (h:GateAt N0 bg sv pv w R) (hm:Maps2 b1 b2 w w') (h1:IsMap w b1) (h2:IsMap w b2):GateAt N0 bg sv pv w' R :=
 h.at fun _ _ _ _ ho _=>hm.block h1 h2 ho
theorem gvals_uniq {x:LThing} {f : ByteArray} {j:Nat} (h:∀ i,i < x.nv→(eqs (x.V i).field f=true ↔ i=j)):∀ k,k≤x.nv→valsTo x f k=if j < k then [x.V j] else []
 | 0,_=>by simp [valsTo]
 | k + 1,hk=>by
  have ih:=gvals_uniq h k (by omega)
  by_cases e:k=j
  ·subst e
   rw [valsTo_hit ((h k (by omega)).2 rfl),ih,if_neg (by omega),if_pos (by omega)]; rfl
  ·have hm:eqs (x.V k).field f=false:=by
    cases e':eqs (x.V k).field f
    ·rfl
    ·exact absurd ((h k (by omega)).1 e') e
   rw [valsTo_miss hm,ih]
   by_cases e2:j < k
   ·rw [if_pos e2,if_pos (by omega)]
   ·rw [if_neg e2,if_neg (by omega)]
theorem vals_of {n d:Nat} {V:Nat→LServ} {p:PPart} (hG:GPart n V p) {ps:List (Pick (d + 1))} (hf:AskF p ps) {h:POwner} {key:ByteArray} (hk:hasT (V h.svc.toNat) h.type key=true) :
  valsL (thingOf (svOf (V h.svc.toNat)) h.type key) (fieldsFor p h ps).length (txtN (fieldsFor p h ps))=valsH V p ps h key:=by
 have ht:thingOf (svOf (V h.svc.toNat)) h.type key=thingT (V h.svc.toNat) h.type key:=by
  unfold thingOf thingT
  have:0≤idx (V h.svc.toNat).nx (sameThing (V h.svc.toNat).X h.type key):=of_decide_eq_true hk
  show (if idx (V h.svc.toNat).nx (sameThing (V h.svc.toNat).X h.type key) < 0 then _ else _)=_
  rw [if_neg (by omega)]; rfl
 rw [ht]
 unfold valsH
 have each:∀ f,f ∈ fieldsFor p h ps→valsOf1 (thingT (V h.svc.toNat) h.type key) f = [valT (thingT (V h.svc.toNat) h.type key) f]:=fun f hm=>by
  obtain ⟨m,h1,h2,-,h4,-⟩:=val_field hG hf hm hk
  rw [h2,← valsTo_all,gvals_uniq h4 _ (Nat.le_refl _),if_pos h1]
 generalize fieldsFor p h ps=l at *
 generalize thingT (V h.svc.toNat) h.type key=x at *
 clear ht hk
 have key:∀ m,m≤l.length→valsL x m (txtN l)=(l.take m).map (valT x):=by
  intro m
  induction m with
  | zero=>intro _; rfl
  | succ m ih =>
   intro hm
   rw [valsL_succ,ih (by omega),txt_take (by omega),List.map_append,each _ (txtN_mem (by omega))]
   rfl
 rw [key l.length (Nat.le_refl _),List.take_length]
def HomeP (X1:World) (fs:List ByteArray) (R2:Value→Value→World→Prop) (R3:World→Prop) (St:World→Prop) (j:Nat) (x:Nat→Value) (w1:World):Prop:=(j < 3→St w1)∧(j=0→Below X1.heap.size X1 w1)∧(j=1→Below X1.heap.size X1 w1∧TRow w1 X1.heap.size (x 0) fs)∧(j=2→∃ f1 v1,x 1 = .agg #[f1,v1]∧R2 f1 v1 w1)∧(j=3→R3 w1)
set_option maxRecDepth 100000 in
set_option maxHeartbeats 2000000 in
theorem home_step {Q:Exit→Act→World→Prop} {a0:Act} {X1:World} {N0 N bg n cap d bl bo bh bv n1 n2 cc kcap base:Nat} {la pa ca ka:Option Addr} {pn pc:Nat} {V:Nat→LServ} {p:PPart} {ps:List (Pick (d + 1))} {h:POwner} {keys:List ByteArray} {R:List PReq} {pv:Nat→Value} {nx:Nat→LV} {c:ByteArray→Nat} {v:Int→ByteArray→ByteArray→ByteArray→Option LVal}
  (hsz : [38,39,40,41,42,43,44,45,46,47,48].all (fun d=>decide (d < a0.tmps.size))=true) (s0:slots a0 0 = .pointer (some ⟨bg,0,none⟩)) (s10:slots a0 10 = .pointer (some ⟨bl,0,none⟩)) (s12:slots a0 12 = .pointer (some ⟨bo,0,none⟩)) (s2:slots a0 2 = .slice ka keys.length kcap)
  (hNg:N0≤bg) (hNX:N≤X1.heap.size) (hGt:GateAt N0 bg (.slice la n cap) (.slice pa pn pc) X1 R) (hS:∀ w1,Below N0 X1 w1→ServsAt w1 la n V) (hL:∀ i,i < n→LightS (svOf (V i))) (hGP:GPart n V p) (hAF:AskF p ps) (hps:ps.length≤60) (hh:h ∈ p.hs)
  (hR:Row X1 base 127 11 (.slice ca ps.length cc) ps.length (chCell p ps pv nx)) (hpv:∀ i,i < ps.length→∃ a n c,pv i = .slice a n c) (hsm:∀ i,i < ps.length→Small (oOf p (pfield (pickN ps i))).field)
  (hC:CMap X1 bh n1 c) (hM:LMap N X1 bv n2 v) (hne:bh≠bv) (hgb:bg≠bh∧bg≠bv) (hK:TRow X1 0 (.slice ka keys.length kcap) keys) (hKs:∀ x,x ∈ keys→Small x) (hKd:keys.Nodup) (hK0:keys≠[]) (hKl:keys.length≤1200)
  (hbl:X1.heap[bl]? = some (.cells #[.slice ca ps.length cc,.map (some bh),.map (some bv)] 88 (0,0))) (hbo:X1.heap[bo]? = some (.cells #[.int .i64 h.svc,.string h.type,.string h.field] 118 (0,0)))
  (hc:∀ s,c s≤10) (h1:n1≤10000) (h2:n2≤1000000) (hRl:R.length≤1000000)
  (hQ:∀ s w',CMap w' bh (n1 + keys.length) (addCL (hasT (V h.svc.toNat) h.type) c keys)→LMap N w' bv (n2 + keys.length * 60) (addVL (hasT (V h.svc.toNat) h.type) (valsH V p ps h) h.svc h.type v keys)→GateAt N0 bg (.slice la n cap) (.slice pa pn pc) w' (R ++ [homeAsk p keys ps h])→KQ N0 (fun k=>k=bg∨k=bh∨k=bv) X1 w'→Q .normal (putAll a0 s [38,39,40,41,42,43,44,45,46,47,48]) w') :
  (Code.region 6 askHomeOps.toArray true).wp Tryz.prog Q a0 X1:=by
 have hbl0:=lt_of_block hbl
 have hbg0:bg < X1.heap.size:=by
  obtain ⟨rv,kv,fv,hb,-⟩:=hGt
  exact lt_of_block hb
 have hngl:bl≠bg:=fun e=>by
  obtain ⟨rv,kv,fv,hb,-⟩:=hGt
  rw [← e,hbl] at hb; cases hb
 have hngo:bo≠bg:=fun e=>by
  obtain ⟨rv,kv,fv,hb,-⟩:=hGt
  rw [← e,hbo] at hb; cases hb
 have hReq:ReqR n V ⟨h.svc,h.type,keys,fieldsFor p h ps⟩:=hGP.req hKd hK0 hAF h hh
 obtain ⟨cN,t,esv,hcn,ht,hfi,-,-⟩:=hReq.ex
 have esv:h.svc=(cN:Int):=esv
 have hwf:(Lit.int .i64 h.svc).wf=true:=by rw [esv]; exact small_wf (by have:=hGP.n5; omega)
 have htxt:∀ {w1:World},TRow w1 0 (.slice ka keys.length kcap) keys→TxtAt w1 ka keys:=fun hT=>by
  obtain ⟨a9,c9,e9,-,ht⟩:=hT.at (by unfold maxLen; omega) hKs
  cases e9
  exact ht
 have hty:Small h.type:=by
  obtain ⟨b9,o9,-,hs9⟩:=(hS X1 (Below.refl _ _)).2 cN hcn
  obtain ⟨b8,o8,-,hty9⟩:=hs9.ok.types.2 t ht
  have e1:idx (V cN).nt (fun i=>eqs ((V cN).T i).name h.type)=(t:Int):=hfi
  have e2:=(idx_in (p:=fun i=>eqs ((V cN).T i).name h.type) (n:=(V cN).nt) (by rw [e1]; omega)).2
  rw [e1,Int.toNat_natCast,eqs_iff] at e2
  rw [← e2]; exact hty9.2.2.2.1
 have hfl:(fieldsFor p h ps).length≤60:=Nat.le_trans (fieldsFor_len _ _ _) hps
 have hfsm:∀ x,x ∈ fieldsFor p h ps→Small x:=fun x hx=>by
  obtain ⟨q,hq,-,-,rfl⟩:=field_of hx
  obtain ⟨j,hj,rfl⟩:=List.getElem_of_mem hq
  have:=hsm j hj
  rw [pickN_get hj] at this
  exact this
 have hStK:∀ w1,KeepQ N0 bg X1 w1→w1.heap[bl]? = X1.heap[bl]?∧w1.heap[bo]? = X1.heap[bo]?:=fun w1 hk=>⟨hk.cells hbl (by decide) hngl,hk.cells hbo (by decide) hngo⟩
 refine askHome (HomeP X1 (fieldsFor p h ps) (fun f1 v1 w1=>RepliesO w1 X1.heap.size 0 f1 v1 keys.length (fun j=>hasT (V h.svc.toNat) h.type (txtN keys j)) (fun j=>valsL (thingOf (svOf (V h.svc.toNat)) h.type (txtN keys j)) (fieldsFor p h ps).length (txtN (fieldsFor p h ps)))∧GateAt N0 bg (.slice la n cap) (.slice pa pn pc) w1 (R ++ [homeAsk p keys ps h])∧KeepQ N0 bg X1 w1)
  (fun w'=>CMap w' bh (n1 + keys.length) (addCL (hasT (V h.svc.toNat) h.type) c keys)∧LMap N w' bv (n2 + keys.length * 60) (addVL (hasT (V h.svc.toNat) h.type) (valsH V p ps h) h.svc h.type v keys)∧GateAt N0 bg (.slice la n cap) (.slice pa pn pc) w' (R ++ [homeAsk p keys ps h])∧KQ N0 (fun k=>k=bg∨k=bh∨k=bv) X1 w') (fun w1=>w1.heap[bl]? = X1.heap[bl]?∧w1.heap[bo]? = X1.heap[bo]?))
  (bg:=bg) (bl:=bl) (bo:=bo) (cn:=ps.length) (cc:=cc) (bh:=bh) (bv:=bv) (kn:=keys.length) (kc:=kcap) (ca:=ca) (ka:=ka) (h:=h) hsz s0 s10 s12 s2 ?_ ?_ ?_ ?_ ?_ ?_
 ·intro x
  exact ⟨fun _=>⟨rfl,rfl⟩,fun _=>(Below.refl _ _).drew,fun h=>absurd h (by omega),fun h=>absurd h (by omega),fun h=>absurd h (by omega)⟩
 ·rintro j x w1 hj ⟨h9,-⟩
  obtain ⟨e1,e2⟩:=h9 hj
  have e1:=e1.trans hbl
  have e2:=e2.trans hbo
  simp [World.cell?,e1,e2]
 ·rintro x w1 ⟨-,h9,-⟩
  have hB:=h9 rfl
  refine (fieldsOf_any d base p ps ca cc (some bh) (some bv) pv nx h w1 (hR.kept hB) hpv hsm hps).mono ?_
  rintro e w2 ⟨⟨u,rfl,hT⟩,hB2⟩
  refine ⟨u,rfl,fun x' e1 e2=>⟨fun _=>hStK w2 (KeepQ.of (hB.trans (hB2.mono hB.size))),fun h=>absurd h (by omega),fun _=>⟨hB.trans (hB2.mono hB.size),?_⟩,fun h=>absurd h (by omega),fun h=>absurd h (by omega)⟩⟩
  rw [e1]
  exact hT.base hB.size
 ·rintro x w1 ⟨-,-,h9,-⟩
  obtain ⟨hB,hT⟩:=h9 rfl
  have hNw:N0≤w1.heap.size:=by have:=hB.size; omega
  refine (reply_any N0 bg n cap la pa pn pc V h keys (fieldsFor p h ps) ka kcap (x 0) R w1 (hGt.kept hB) hNg hNw (fun w9 h9=>hS w9 ((hB.mono (by omega)).trans h9)) hL hGP.n5 hReq (htxt (hK.kept hB)) hKl (hT.base (by omega)) hfl hfsm hRl).mono ?_
  rintro e w2 ⟨f1,v1,rfl,hRep,hG2,hK2⟩
  have hKX:KeepQ N0 bg X1 w2:=(KeepQ.of hB).trans hK2
  refine ⟨_,rfl,fun x' e1 e2=>⟨fun _=>hStK w2 hKX,fun h=>absurd h (by omega),fun h=>absurd h (by omega),fun _=>⟨f1,v1,e1,hRep.lower hB.size,hG2,hKX⟩,fun h=>absurd h (by omega)⟩⟩
 ·rintro x w1 ⟨-,-,-,h9,-⟩
  obtain ⟨f1,v1,ex,hRep,hG2,hKX⟩:=h9 rfl
  obtain ⟨fa1,fc1,va1,vc1,rfl,rfl⟩:=hRep.slices
  rw [ex]
  have hC1:CMap w1 bh n1 c:=hC.at (let ⟨_,_,ho⟩:=hC.obj; hKX.map ho (Ne.symm hgb.1))
  have hM1:LMap N w1 bv n2 v:=hM.at (let ⟨_,_,ho⟩:=hM.obj; hKX.map ho (Ne.symm hgb.2)) fun k cs _ _ ho=>hKX.cells ho (by decide) fun e=>by
   obtain ⟨rv,kv,fv,hb,-⟩:=hGt
   rw [← e,ho] at hb; cases hb
  have hK1:TRow w1 0 (.slice ka keys.length kcap) keys:=Row.at hK fun k hk=>let ⟨_,ho⟩:=Row.obj hK hk; hKX.cells ho (by decide) fun e=>by
   obtain ⟨rv,kv,fv,hb,-⟩:=hGt
   rw [← e,ho] at hb; cases hb
  refine (add_any N X1.heap.size 0 n1 n2 ca ps.length cc bh bv h ka kcap keys fa1 va1 fc1 vc1 (hasT (V h.svc.toNat) h.type) (valsH V p ps h) (fun j=>valsL (thingOf (svOf (V h.svc.toNat)) h.type (txtN keys j)) (fieldsFor p h ps).length (txtN (fieldsFor p h ps))) c v w1 hC1 hM1 hne (htxt hK1) hRep (fun j _ hq=>vals_of hGP hAF hq) hNX hwf hty (fun l hl s=>?_) (by omega) (by omega) (fun j _ _=>by unfold valsH; rw [List.length_map]; exact hfl)).mono ?_
  ·have key:∀ (l:List ByteArray) (c:ByteArray→Nat) (b:Nat),(∀ s,c s≤b)→∀ s,addCL (hasT (V h.svc.toNat) h.type) c l s≤b + l.length:=by
    intro l
    induction l with
    | nil=>intro c b hb s; exact hb s
    | cons y l ih =>
     intro c b hb s
     have h9:=ih (if hasT (V h.svc.toNat) h.type y=true then bump c y else c) (b + 1) (fun s=>by
      split
      ·unfold bump
       split
       ·have:=hb y; omega
       ·have:=hb s; omega
      ·have:=hb s; omega) s
     have e0:addCL (hasT (V h.svc.toNat) h.type) c (y :: l)=addCL (hasT (V h.svc.toNat) h.type) (if hasT (V h.svc.toNat) h.type y=true then bump c y else c) l:=rfl
     rw [e0,List.length_cons]
     omega
   have:=key l c 10 hc s
   omega
  rintro e w2 ⟨rfl,hC2,hM2,hm2⟩
  exact ⟨_,rfl,fun x' e1 e2=>⟨fun h=>absurd h (by omega),fun h=>absurd h (by omega),fun h=>absurd h (by omega),fun h=>absurd h (by omega),fun _=>⟨hC2,hM2,hG2.maps hm2 hC1.obj hM1.obj,(KQ.ofQ hKX (.inl rfl)).trans (KQ.maps hm2 (.inr (.inl rfl)) (.inr (.inr rfl)))⟩⟩⟩
 ·rintro s w' ⟨-,-,-,-,hp⟩
  obtain ⟨q1,q2,q3,q4⟩:=hp rfl
  exact hQ s w' q1 q2 q3 q4
def NextP (w5:World) (A1:World→LV→World→Prop) (St:World→Prop) (Sx:World→LV→World) (j:Nat) (x:Nat→Value) (w1:World):Prop:=(j < 2→St w1)∧(j=0→Below w5.heap.size w5 w1)∧(j=1→∃ l w0,Below w5.heap.size w5 w0∧x 0 = .agg #[.slice l.a l.n l.c,.map l.h,.map l.v]∧A1 w0 l w1)∧(j=2→∃ l w0 w2,Below w5.heap.size w5 w0∧A1 w0 l w2∧w1=Sx w2 l)
def putLV (cb o:Nat) (w:World) (l:LV):World:=((w.setCell ⟨cb,o + 8,none⟩ (.slice l.a l.n l.c)).setCell ⟨cb,o + 9,none⟩ (.map l.h)).setCell ⟨cb,o + 10,none⟩ (.map l.v)
set_option maxRecDepth 100000 in
set_option maxHeartbeats 2000000 in
theorem next_step {Q:Exit→Act→World→Prop} {a0:Act} {w5:World} {N0 bg d bl bc cb cn cc kn kc sn sc k base:Nat} {ka sa:Option Addr} {ty:ByteArray} {p:PPart} {ps:List (Pick (d + 1))} {pv:Nat→Value} {nx:Nat→LV} {A1:World→LV→World→Prop} {lh lv:Option Nat} {c0 c2 c3 c5 c6 c7 c8 c9 c10:Value}
  (hsz : [70,71,72,73,74,75,76,77,78,79,80,81,82].all (fun d=>decide (d < a0.tmps.size))=true) (s0:slots a0 0 = .pointer (some ⟨bg,0,none⟩)) (s10:slots a0 10 = .pointer (some ⟨bl,0,none⟩)) (s14:slots a0 14 = .pointer (some ⟨bc,0,none⟩)) (s13:slots a0 13 = .int .i64 (k:Int)) (s15:slots a0 15 = .slice ka kn kc) (hk:k < cn)
  (hR:Row w5 base 127 11 (.slice (some ⟨cb,0,none⟩) cn cc) cn (chCell p ps pv nx)) (hbl:w5.heap[bl]? = some (.cells #[.slice (some ⟨cb,0,none⟩) cn cc,.map lh,.map lv] 88 (0,0))) (hbc:w5.heap[bc]? = some (.cells #[c0,.slice sa sn sc,c2,c3,.string ty,c5,c6,c7,c8,c9,c10] 127 (0,0)))
  (hg:∃ cs,w5.heap[bg]? = some (.cells cs 82 (0,0)))
  (hask:∀ w1,Below w5.heap.size w5 w1→Calls Tryz.prog 24 #[.pointer (some ⟨bg,0,none⟩),.string ty,.slice ka kn kc,.slice sa sn sc] w1 fun e w' => ∃ l:LV,e = .returned (.agg #[.slice l.a l.n l.c,.map l.h,.map l.v])∧A1 w1 l w') (hA1:∀ w1 l w2,A1 w1 l w2→KeepQ N0 bg w1 w2)
  (hQ:∀ s l w1 w2,Below w5.heap.size w5 w1→A1 w1 l w2→Q .normal (putAll a0 s [70,71,72,73,74,75,76,77,78,79,80,81,82]) (putLV cb (k * 11) w2 l)) :
  (Code.region 14 askNextOps.toArray true).wp Tryz.prog Q a0 w5:=by
 obtain ⟨gcs,hg⟩:=hg
 have n1:bl≠bg:=fun e=>by rw [← e,hbl] at hg; cases hg
 have n2:bc≠bg:=fun e=>by rw [← e,hbc] at hg; cases hg
 have n3:cb≠bg:=fun e=>by
  obtain ⟨c9,ho⟩:=hR.obj (k:=cb) rfl
  rw [e,hg] at ho; cases ho
 have hStK:∀ w1,KeepQ N0 bg w5 w1→w1.heap[bl]? = w5.heap[bl]?∧w1.heap[bc]? = w5.heap[bc]?:=fun w1 hk=>⟨hk.cells hbl (by decide) n1,hk.cells hbc (by decide) n2⟩
 refine askNext (NextP w5 A1 (fun w1=>w1.heap[bl]? = w5.heap[bl]?∧w1.heap[bc]? = w5.heap[bc]?) (putLV cb (k * 11))) (bg:=bg) (bl:=bl) (bc:=bc) (cb:=cb) (cn:=cn) (cc:=cc) (kn:=kn) (kc:=kc) (sn:=sn) (sc:=sc) (k:=k) (ka:=ka) (sa:=sa) (ty:=ty) hsz s0 s10 s14 s13 s15 (by omega) (by omega) ?_ ?_ ?_ ?_ ?_
 ·intro x
  exact ⟨fun _=>⟨rfl,rfl⟩,fun _=>(Below.refl _ _).drew,fun h=>absurd h (by omega),fun h=>absurd h (by omega)⟩
 ·rintro j x w1 hj ⟨h9,-⟩
  obtain ⟨e1,e2⟩:=h9 hj
  have e1:=e1.trans hbl
  have e2:=e2.trans hbc
  simp [World.cell?,e1,e2]
 ·rintro x w1 ⟨-,h9,-⟩
  have hB:=h9 rfl
  refine (hask w1 hB).mono ?_
  rintro e w2 ⟨l,rfl,hA⟩
  exact ⟨_,rfl,fun x' e1 e2=>⟨fun _=>hStK w2 ((KeepQ.of hB).trans (hA1 _ _ _ hA)),fun h=>absurd h (by omega),fun _=>⟨l,w1,hB,e1,hA⟩,fun h=>absurd h (by omega)⟩⟩
 ·rintro x w1 ⟨-,-,h9,-⟩
  obtain ⟨l,w0,hB,ex,hA⟩:=h9 rfl
  have hKX:KeepQ N0 bg w5 w1:=(KeepQ.of hB).trans (hA1 _ _ _ hA)
  have hR1:Row w1 base 127 11 (.slice (some ⟨cb,0,none⟩) cn cc) cn (chCell p ps pv nx):=hR.at fun q hq=>by
   obtain ⟨c9,ho⟩:=hR.obj hq
   refine hKX.cells ho (by decide) fun e=>?_
   rw [e,hg] at ho; cases ho
  obtain ⟨-,-,-,-,-,-,-,-,d8,d9,d10⟩:=chCells hR1 hk
  exact ⟨l,_,_,_,ex,d8,d9,d10,hR1.free _,hR1.free _,hR1.free _,fun h=>absurd h (by omega),fun h=>absurd h (by omega),fun h=>absurd h (by omega),fun _=>⟨l,w0,w1,hB,hA,rfl⟩⟩
 ·rintro s w' ⟨-,-,-,hp⟩
  obtain ⟨l,w0,w2,hB,hA,rfl⟩:=hp rfl
  exact hQ s l w0 w2 hB hA
end Go.Proofs.YtjjggefmmeminacGreat
