import Derived.Test.YtjjggefmmeminacGreatJGp
import Derived.Test.YtjjggefmmeminacGreatMnGot
import Derived.Test.YtjjggefmmeminacGreatJMt
import Derived.Test.YtjjggefmmeminacGreatMnOut
namespace Go.Proofs.YtjjggefmmeminacGreat
open Go.RowKit Go.Sort Go.PlainAid
def txtN (l:List ByteArray) (i:Nat):ByteArray:=l.getD i ⟨#[]⟩
def TxtAt (w:World) (a:Option Addr) (l:List ByteArray):Prop:=KeysAt w a l.length (txtN l)
theorem TxtAt.kept {w w':World} {a:Option Addr} {l:List ByteArray} (h:TxtAt w a l) (hB:Below w.heap.size w w'):TxtAt w' a l:=KeysAt.kept hB h
theorem TxtAt.nil {w:World} {a:Option Addr} : TxtAt w a []:=⟨Nat.zero_le _,fun _ hi=>absurd hi (Nat.not_lt_zero _)⟩
theorem TxtAt.free {X:Nat→Prop} {w:World} {a:Option Addr} {l:List ByteArray} (h:TxtAt w a l) (hx:∀ ad,a=some ad→¬ X ad.block):Free X w (fun w=>TxtAt w a l):=fun w' hw'=>⟨h.1,fun i hi=>by
 obtain ⟨b,o,e,c,s⟩:=h.2 i hi
 have hb:b < w.heap.size:=block_lt_of_cell c
 exact ⟨b,o,e,by rw [World.cell?_of_block (hw' b hb (hx _ e))]; exact c,s⟩⟩
def dReq:PReq:=⟨0,⟨#[]⟩,[],[]⟩
def reqN (L:List PReq) (i:Nat):PReq:=L.getD i dReq
theorem reqN_app (L M:List PReq) (i:Nat):reqN (L ++ M) i=if i < L.length then reqN L i else reqN M (i - L.length):=by
 unfold reqN
 rw [List.getD_eq_getElem?_getD,List.getD_eq_getElem?_getD,List.getD_eq_getElem?_getD,List.getElem?_append]
 split <;> rfl
def ReqsAt (w:World) (a:Option Addr) (L:List PReq):Prop:=L.length≤maxLen∧∀ i,i < L.length→∃ b o A C A2 C2,a=some ⟨b,o,none⟩∧w.cell? ⟨b,o + i * 4,none⟩=some (.int .i64 (reqN L i).svc)∧w.cell? ⟨b,o + i * 4 + 1,none⟩=some (.string (reqN L i).type)∧w.cell? ⟨b,o + i * 4 + 2,none⟩=some (.slice A (reqN L i).keys.length C)∧w.cell? ⟨b,o + i * 4 + 3,none⟩=some (.slice A2 (reqN L i).fields.length C2) ∧
 (reqN L i).keys.length≤C∧(reqN L i).fields.length≤C2∧TxtAt w A (reqN L i).keys∧TxtAt w A2 (reqN L i).fields
theorem ReqsAt.kept {w w':World} {a:Option Addr} {L:List PReq} (h:ReqsAt w a L) (hB:Below w.heap.size w w'):ReqsAt w' a L :=
 ⟨h.1,fun i hi=>let ⟨b,o,A,C,A2,C2,e,c0,c1,c2,c3,l1,l2,h1,h2⟩:=h.2 i hi; ⟨b,o,A,C,A2,C2,e,keptCell hB c0,keptCell hB c1,keptCell hB c2,keptCell hB c3,l1,l2,h1.kept hB,h2.kept hB⟩⟩
theorem ReqsAt.none {w:World} {a:Option Addr} : ReqsAt w a []:=⟨Nat.zero_le _,fun _ hi=>absurd hi (Nat.not_lt_zero _)⟩
def reqCell (L:List PReq) (kv fv:Nat→Value) (j:Nat):Value:=if j % 4=0 then .int .i64 (reqN L (j / 4)).svc else if j % 4=1 then .string (reqN L (j / 4)).type else if j % 4=2 then kv (j / 4) else fv (j / 4)
def reqL (r:PReq) (v u:Value):List Value:=[.int .i64 r.svc,.string r.type,v,u]
theorem reqCells_join (L M:List PReq) (kv fv kv' fv':Nat→Value):(List.range ((L.length + M.length) * 4)).map (reqCell (L ++ M) (fun i=>if i < L.length then kv i else kv' (i - L.length)) (fun i=>if i < L.length then fv i else fv' (i - L.length)))=(List.range (L.length * 4)).map (reqCell L kv fv) ++ (List.range (M.length * 4)).map (reqCell M kv' fv'):=by
 rw [Nat.add_mul,List.range_add,List.map_append,List.map_map]
 congr 1
 ·refine List.map_congr_left fun j hj=>?_
  have hj':j < L.length * 4:=by simpa using hj
  have e:reqN (L ++ M) (j / 4)=reqN L (j / 4):=by rw [reqN_app,if_pos (by omega)]
  unfold reqCell
  rw [e]
  simp only [show j / 4 < L.length by omega,if_true]
 ·refine List.map_congr_left fun j hj=>?_
  have hj':j < M.length * 4:=by simpa using hj
  show reqCell (L ++ M) _ _ (L.length * 4 + j)=_
  have e:reqN (L ++ M) (L.length + j / 4)=reqN M (j / 4):=by rw [reqN_app,if_neg (by omega),show L.length + j / 4 - L.length=j / 4 by omega]
  unfold reqCell
  rw [show (L.length * 4 + j) / 4=L.length + j / 4 by omega,show (L.length * 4 + j) % 4=j % 4 by omega,e]
  simp only [show ¬ L.length + j / 4 < L.length by omega,if_false,show L.length + j / 4 - L.length=j / 4 by omega]
structure ReqV (X:Nat→Prop) (w:World) (r:PReq) (A:Option Addr) (C:Nat) (A2:Option Addr) (C2:Nat):Prop where
 c:r.keys.length≤C
 c2:r.fields.length≤C2
 keys:Free X w (fun w=>TxtAt w A r.keys)
 fields:Free X w (fun w=>TxtAt w A2 r.fields)
theorem ReqV.step {X Y:Nat→Prop} {w w':World} {r:PReq} {A:Option Addr} {C:Nat} {A2:Option Addr} {C2:Nat} (h:ReqV X w r A C A2 C2) (hs:w.heap.size≤w'.heap.size) (hk:∀ k,k < w.heap.size→¬ X k→w'.heap[k]? = w.heap[k]?) (hY:∀ k,k < w.heap.size→Y k→X k):ReqV Y w' r A C A2 C2 :=
 ⟨h.c,h.c2,h.keys.step hs hk hY,h.fields.step hs hk hY⟩
theorem ReqV.kept {X:Nat→Prop} {w w':World} {r:PReq} {A:Option Addr} {C:Nat} {A2:Option Addr} {C2:Nat} (h:ReqV X w r A C A2 C2) (hB:Below w.heap.size w w'):ReqV X w' r A C A2 C2:=h.step hB.size (fun k hk _=>hB.block k hk) (fun _ _ hx=>hx)
structure QRow (N0:Nat) (X:Nat→Prop) (w:World) (v:Value) (L:List PReq) (kv fv:Nat→Value):Prop where
 row:Row w N0 35 4 v L.length (reqCell L kv fv)
 sub:∀ i,i < L.length→∃ A C A2 C2,kv i = .slice A (reqN L i).keys.length C∧fv i = .slice A2 (reqN L i).fields.length C2∧ReqV (fun q=>X q∨v.ownBlock=some q) w (reqN L i) A C A2 C2
theorem QRow.nil (N0:Nat) (X:Nat→Prop) (w:World) (kv fv:Nat→Value):QRow N0 X w (.slice none 0 0) [] kv fv:=⟨⟨rfl,.inl ⟨rfl,rfl⟩⟩,fun _ hi=>absurd hi (Nat.not_lt_zero _)⟩
theorem QRow.kept {N0:Nat} {X:Nat→Prop} {w w':World} {v:Value} {L:List PReq} {kv fv:Nat→Value} (h:QRow N0 X w v L kv fv) (hB:Below w.heap.size w w'):QRow N0 X w' v L kv fv :=
 ⟨h.row.kept hB,fun i hi=>let ⟨A,C,A2,C2,e1,e2,hf⟩:=h.sub i hi; ⟨A,C,A2,C2,e1,e2,hf.kept hB⟩⟩
theorem QRow.slice {N0:Nat} {X:Nat→Prop} {w:World} {v:Value} {L:List PReq} {kv fv:Nat→Value} (h:QRow N0 X w v L kv fv):∃ a cap,v = .slice a L.length cap∧L.length≤cap:=h.row.slice
theorem QRow.app {N0:Nat} {X:Nat→Prop} {w w':World} {v v':Value} {L:List PReq} {kv fv:Nat→Value} {r:PReq} {A:Option Addr} {C:Nat} {A2:Option Addr} {C2:Nat} (h:QRow N0 X w v L kv fv) (hf:ReqV (fun q=>X q∨v.ownBlock=some q) w r A C A2 C2)
  (hown:w'.ownsRow N0 35 4 v' (L.length + 1) ((List.range (L.length * 4)).map (reqCell L kv fv) ++ reqL r (.slice A r.keys.length C) (.slice A2 r.fields.length C2))) (hg:w.grownBy w' v.ownBlock) (hv':v'.ownBlock=v.ownBlock∨v'.ownBlock=some w.heap.size) :
  ∃ kv' fv',QRow N0 X w' v' (L ++ [r]) kv' fv':=by
 have hl:(L ++ [r]).length=L.length + 1:=by simp
 have hY:∀ k,k < w.heap.size→X k∨v'.ownBlock=some k→X k∨v.ownBlock=some k:=fun k hk hx=>by
  rcases hx with hx | hx
  ·exact .inl hx
  ·rcases hv' with e | e
   ·exact .inr (by rw [← e]; exact hx)
   ·rw [e] at hx; cases hx; omega
 have ec:=reqCells_join L [r] kv fv (fun _=>.slice A r.keys.length C) (fun _=>.slice A2 r.fields.length C2)
 have e1:(List.range ([r].length * 4)).map (reqCell [r] (fun _=>.slice A r.keys.length C) (fun _=>.slice A2 r.fields.length C2))=reqL r (.slice A r.keys.length C) (.slice A2 r.fields.length C2):=by
  show (List.range 4).map _=_
  rw [show List.range 4 = [0,1,2,3] from by decide]
  simp [reqCell,reqL,reqN]
 rw [e1] at ec
 refine ⟨fun i=>if i < L.length then kv i else .slice A r.keys.length C,fun i=>if i < L.length then fv i else .slice A2 r.fields.length C2,?_,fun i hi=>?_⟩
 ·unfold Row; rw [hl]; exact ec ▸ hown
 ·rw [hl] at hi
  rw [reqN_app]
  by_cases h':i < L.length
  ·rw [if_pos h',if_pos h',if_pos h']
   obtain ⟨A1,C1,A3,C3,e1,e2,hf1⟩:=h.sub i h'
   exact ⟨A1,C1,A3,C3,e1,e2,hf1.step hg.size (fun k hk hx=>hg.block k hk (fun e=>hx (.inr e.symm))) hY⟩
  ·rw [if_neg h',if_neg h',if_neg h',show i - L.length=0 by omega]
   exact ⟨A,C,A2,C2,rfl,rfl,hf.step hg.size (fun k hk hx=>hg.block k hk (fun e=>hx (.inr e.symm))) hY⟩
theorem QRow.out {N0:Nat} {X:Nat→Prop} {w:World} {v:Value} {L:List PReq} {kv fv:Nat→Value} (h:QRow N0 X w v L kv fv) (hm:L.length≤maxLen):∃ a cap,v = .slice a L.length cap∧L.length≤cap∧ReqsAt w a L:=by
 rcases h.row.shape with ⟨e,h0⟩ | ⟨g,cap,e,hg,hc,-⟩
 ·have:L = []:=List.eq_nil_of_length_eq_zero h0
  subst this
  exact ⟨none,0,e,Nat.le_refl _,ReqsAt.none⟩
 ·subst e
  refine ⟨_,cap,rfl,hc,hm,fun i hi=>?_⟩
  obtain ⟨A,C,A2,C2,e1,e2,hf⟩:=h.sub i hi
  have c0:=h.row.cell (j:=i * 4) (by omega)
  have c1:=h.row.cell (j:=i * 4 + 1) (by omega)
  have c2:=h.row.cell (j:=i * 4 + 2) (by omega)
  have c3:=h.row.cell (j:=i * 4 + 3) (by omega)
  unfold reqCell at c0 c1 c2 c3
  rw [if_pos (by omega),show i * 4 / 4=i by omega] at c0
  rw [if_neg (by omega),if_pos (by omega),show (i * 4 + 1) / 4=i by omega] at c1
  rw [if_neg (by omega),if_neg (by omega),if_pos (by omega),show (i * 4 + 2) / 4=i by omega,e1] at c2
  rw [if_neg (by omega),if_neg (by omega),if_neg (by omega),show (i * 4 + 3) / 4=i by omega,e2] at c3
  exact ⟨g,0,A,C,A2,C2,rfl,by rw [Nat.zero_add]; exact c0,by rw [Nat.zero_add]; exact c1,by rw [Nat.zero_add]; exact c2,by rw [Nat.zero_add]; exact c3,hf.c,hf.c2,hf.keys.at,hf.fields.at⟩
end Go.Proofs.YtjjggefmmeminacGreat
namespace Go.Proofs.YtjjggefmmeminacGreat
open Go.RowKit Go.Sort Go.PlainAid
def svOf (s:LServ):SServ:=⟨s.ta,s.nt,s.tcap,s.T,s.ca,s.nc,s.ccap,s.xa,s.nx,s.xcap,s.X⟩
theorem ServsAt.sv {w:World} {a:Option Addr} {n:Nat} {V:Nat→LServ} (h:ServsAt w a n V):SServsAt w a n (fun i=>svOf (V i)) :=
 ⟨h.1,fun i hi=>let ⟨b,o,e,s⟩:=h.2 i hi; ⟨b,o,e,s.c0,s.c1,s.c2,s.ok.types,s.ok.things,s.ok.tcap,s.ok.xcap⟩⟩
theorem txt_apart {l:List ByteArray} (h:l.Nodup) {i:Nat} (hi:i < l.length):stood (txtN l) i=false:=by
 rw [stood_false]
 intro j hj e
 have hget:∀ k (hk:k < l.length),txtN l k=l[k]:=fun k hk=>by simp [txtN,List.getD,hk]
 rw [hget j (by omega),hget i hi] at e
 exact (List.pairwise_iff_getElem.1 h) j i (by omega) hi hj e
def lreq (r:PReq) (A:Option Addr) (C:Nat) (A2:Option Addr) (C2:Nat):LReq:=⟨r.svc,r.type,A,r.keys.length,C,txtN r.keys,A2,r.fields.length,C2,txtN r.fields⟩
theorem right_req {n:Nat} {V:Nat→LServ} {r:PReq} (h:ReqR n V r) (A:Option Addr) (C:Nat) (A2:Option Addr) (C2:Nat):wrongQ n (fun i=>svOf (V i)) (lreq r A C A2 C2)=0:=by
 obtain ⟨c,t,e1,hc,ht,hf,-,hfl⟩:=h.ex
 have he:fieldsE ((V c).T t).nf ((V c).T t).F r.fields.length (txtN r.fields)=0:=fault_zero.2 fun i hi=>by
  unfold fieldE
  have hm:txtN r.fields i ∈ r.fields:=by
   have:txtN r.fields i=r.fields[i]:=by simp [txtN,List.getD,hi]
   rw [this]; exact List.getElem_mem hi
  rw [if_neg (hfl _ hm).1,txt_apart h.fields hi]
  rfl
 have e:=wrongQ_keys (n:=n) (V:=fun i=>svOf (V i)) (q:=lreq r A C A2 C2) (c:=c) (t:=t) e1 hc hf he
 have h2:twice (lreq r A C A2 C2).nk (lreq r A C A2 C2).K=false:=twice_false.2 fun i hi=>txt_apart h.keys hi
 rw [h2] at e
 exact e
theorem small_wf {c:Nat} (h:c < 5):(Lit.int .i64 (c:Int)).wf=true:=by
 have:c=0∨c=1∨c=2∨c=3∨c=4:=by omega
 rcases this with rfl | rfl | rfl | rfl | rfl <;> decide
theorem ReqR.ok {w:World} {a:Option Addr} {n:Nat} {V:Nat→LServ} {r:PReq} {A:Option Addr} {C:Nat} {A2:Option Addr} {C2:Nat} (h:ReqR n V r) (hS:ServsAt w a n V) (hn:n≤5) (t1:TxtAt w A r.keys) (t2:TxtAt w A2 r.fields) (l1:r.keys.length≤C) (l2:r.fields.length≤C2):ReqOk w (lreq r A C A2 C2):=by
 obtain ⟨c,t,e1,hc,ht,hf,-,-⟩:=h.ex
 refine ⟨t1,t2,?_,l1,l2,?_⟩
 ·show (Lit.int .i64 r.svc).wf=true
  rw [e1]; exact small_wf (by omega)
 ·obtain ⟨b,o,-,hs⟩:=hS.2 c hc
  obtain ⟨b2,o2,-,hty⟩:=hs.ok.types.2 t ht
  have h1:idx (V c).nt (fun i=>eqs ((V c).T i).name r.type)=(t:Int):=hf
  have h2:=(idx_in (p:=fun i=>eqs ((V c).T i).name r.type) (n:=(V c).nt) (by rw [h1]; omega)).2
  rw [h1,Int.toNat_natCast,eqs_iff] at h2
  show Small r.type
  rw [← h2]; exact hty.2.2.2.1
theorem light_right {n:Nat} {V:Nat→LServ} (h0:(allF n V).1=0):∀ i,i < n→LightS (svOf (V i)):=fun i hi j hj=>by
 obtain ⟨-,hokA⟩:=wrongF_ok (allF_wrong h0)
 obtain ⟨-,hok,-,-⟩:=part_right h0
 obtain ⟨-,⟨t,ht⟩,-⟩:=thing_right (hokA i hi).2 (i:=j) hj
 have hR0:=seeF_right (hok i hi)
 have hnf:=(hR0.fld t ht.lt).few
 have hnf':((V i).T t).nf≤10:=hnf
 show ((V i).X j).nv * 56≤_∧∀ k,k < ((V i).X j).nv→(((V i).X j).V k).nk * 16≤_
 refine ⟨by rw [ht.nv]; omega,fun k hk=>?_⟩
 have:=(ht.vals k (by rw [← ht.nv]; exact hk)).few
 omega
end Go.Proofs.YtjjggefmmeminacGreat
namespace Go.Proofs.YtjjggefmmeminacGreat
open Go.RowKit Go.Sort Go.PlainAid
def RunEnd (d:Nat) (M:List (Got d)) (R:List PReq) (x:Int) (e:Ending) (w':World):Prop := ∃ va vc qa qc,e = .returned (.tuple #[.slice va M.length vc,.slice qa R.length qc,.int .i64 x])∧M.length≤vc∧R.length≤qc∧GotsAt w' d va M∧ReqsAt w' qa R
def RunOk (K:Nat):Prop := ∀ (la:Option Addr) (n cap:Nat) (V:Nat→LServ) (d:Nat) (type key:ByteArray) (a:Option Addr) (acap:Nat) (ps:List (Pick d)) (w:World),ServsAt w la n V→PicksAt w d a ps→ps.length≤acap→Small type→Small key →
 Calls Tryz.prog K #[.slice la n cap,.agg #[.string type,.string key,.slice a ps.length acap]] w fun e w'=>RunEnd d (meanG n V d type key ps) (reqs n V d type key ps) (meanE n V d type key ps) e w'∧Below w.heap.size w w'
end Go.Proofs.YtjjggefmmeminacGreat
