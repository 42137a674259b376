import Derived.Test.YtjjggefmmeminacGreatJMg
import Derived.Test.YtjjggefmmeminacGreatJQy
import Derived.Test.YtjjggefmmeminacGreatJMn
import Derived.Test.YtjjggefmmeminacGreatJBase
import Derived.Test.YtjjggefmmeminacGreatMnGot
namespace Go.Proofs.YtjjggefmmeminacGreat
open Go.RowKit Go.Sort Go.PlainAid
def OwnersAt (w:World) (a:Option Addr) (n:Nat) (O:Nat→POwner):Prop:=n≤maxLen∧∀ i,i < n→∃ b o,a=some ⟨b,o,none⟩∧w.cell? ⟨b,o + i * 3,none⟩=some (.int .i64 (O i).svc)∧w.cell? ⟨b,o + i * 3 + 1,none⟩=some (.string (O i).type)∧w.cell? ⟨b,o + i * 3 + 2,none⟩=some (.string (O i).field)∧GoodO (O i)
theorem OwnersAt.kept {w w':World} {a:Option Addr} {n:Nat} {O:Nat→POwner} (h:OwnersAt w a n O) (hB:Below w.heap.size w w'):OwnersAt w' a n O :=
 ⟨h.1,fun i hi=>let ⟨b,o,e,c0,c1,c2,g⟩:=h.2 i hi; ⟨b,o,e,keptCell hB c0,keptCell hB c1,keptCell hB c2,g⟩⟩
theorem Row.ownersAt {w:World} {base e n:Nat} {v:Value} {O:Nat→POwner} (h:Row w base e 3 v n (ownerCell O)) (hn:n≤maxLen) (hg:∀ j,j < n→GoodO (O j)):∃ a cap,v = .slice a n cap∧n≤cap∧OwnersAt w a n O:=by
 rcases h.shape with ⟨rfl,rfl⟩ | ⟨g,cap,rfl,-,hc,-⟩
 ·exact ⟨none,0,rfl,Nat.le_refl _,Nat.zero_le _,fun i hi=>absurd hi (Nat.not_lt_zero _)⟩
 ·refine ⟨_,cap,rfl,hc,hn,fun i hi=>⟨g,0,rfl,?_,?_,?_,hg i hi⟩⟩
  ·rw [Nat.zero_add,h.cell (j:=i * 3) (by omega)]; unfold ownerCell; rw [if_pos (by omega),show i * 3 / 3=i by omega]
  ·rw [Nat.zero_add,h.cell (j:=i * 3 + 1) (by omega)]; unfold ownerCell; rw [if_neg (by omega),if_pos (by omega),show (i * 3 + 1) / 3=i by omega]
  ·rw [Nat.zero_add,h.cell (j:=i * 3 + 2) (by omega)]; unfold ownerCell; rw [if_neg (by omega),if_neg (by omega),show (i * 3 + 2) / 3=i by omega]
structure PtAt (w:World) (b o:Nat) (p:PPart) (fa oa ha:Option Addr) (fc oc hc:Nat):Prop where
 c0:w.cell? ⟨b,o,none⟩=some (.string p.name)
 c1:w.cell? ⟨b,o + 1,none⟩=some (.slice fa p.fs.length fc)
 c2:w.cell? ⟨b,o + 2,none⟩=some (.slice oa p.os.length oc)
 c3:w.cell? ⟨b,o + 3,none⟩=some (.slice ha p.hs.length hc)
 name:Small p.name
 fields:FieldsAt w fa p.fs.length (fsN p)
 owners:OwnersAt w oa p.os.length (osN p)
 homes:OwnersAt w ha p.hs.length (hsN p)
 fcap:p.fs.length≤fc
 ocap:p.os.length≤oc
 hcap:p.hs.length≤hc
theorem PtAt.kept {w w':World} {b o:Nat} {p:PPart} {fa oa ha:Option Addr} {fc oc hc:Nat} (h:PtAt w b o p fa oa ha fc oc hc) (hB:Below w.heap.size w w'):PtAt w' b o p fa oa ha fc oc hc :=
 ⟨keptCell hB h.c0,keptCell hB h.c1,keptCell hB h.c2,keptCell hB h.c3,h.name,h.fields.kept hB,h.owners.kept hB,h.homes.kept hB,h.fcap,h.ocap,h.hcap⟩
def PtsAt (w:World) (a:Option Addr) (L:List PPart):Prop:=L.length≤maxLen∧∀ i,i < L.length→∃ b o fa oa ha fc oc hc,a=some ⟨b,o,none⟩∧PtAt w b (o + i * 4) (nth L i) fa oa ha fc oc hc
theorem PtsAt.kept {w w':World} {a:Option Addr} {L:List PPart} (h:PtsAt w a L) (hB:Below w.heap.size w w'):PtsAt w' a L :=
 ⟨h.1,fun i hi=>let ⟨b,o,fa,oa,ha,fc,oc,hc,e,hp⟩:=h.2 i hi; ⟨b,o,fa,oa,ha,fc,oc,hc,e,hp.kept hB⟩⟩
theorem Parts.pts {Z:Nat→Prop} {w:World} {a:Option Addr} {n cap:Nat} {L:List PPart} {rv:Nat→Nat→Value} (h:Parts Z w (.slice a n cap) L rv):n=L.length∧L.length≤cap∧PtsAt w a L:=by
 obtain ⟨a',cap',e,hc⟩:=h.slice
 cases e
 refine ⟨rfl,hc,h.nmax,fun i hi=>?_⟩
 obtain ⟨g,cp,a1,c1,a2,c2,a3,c3,hv,e1,e2,e3,k0,k1,k2,k3⟩:=h.aggs hi
 cases hv
 have hg:=h.good i hi
 have r0:Row w 0 66 3 (rv 0 i) (nth L i).fs.length (fieldCell (fsN (nth L i))):=h.rows 0 i (by decide) hi
 have r1:Row w 0 118 3 (rv 1 i) (nth L i).os.length (ownerCell (osN (nth L i))):=h.rows 1 i (by decide) hi
 have r2:Row w 0 118 3 (rv 2 i) (nth L i).hs.length (ownerCell (hsN (nth L i))):=h.rows 2 i (by decide) hi
 obtain ⟨b1,d1,f1,g1,hF⟩:=r0.fieldsAt (hg.len 0) hg.fs
 obtain ⟨b2,d2,f2,g2,hO⟩:=r1.ownersAt (hg.len 1) hg.os
 obtain ⟨b3,d3,f3,g3,hH⟩:=r2.ownersAt (hg.len 2) hg.hs
 rw [e1] at f1
 rw [e2] at f2
 rw [e3] at f3
 cases f1
 cases f2
 cases f3
 refine ⟨g,0,a1,a2,a3,c1,c2,c3,rfl,?_⟩
 rw [Nat.zero_add]
 exact ⟨k0,k1,k2,k3,hg.name,hF,hO,hH,g1,g2,g3⟩
theorem PtsAt.check {w:World} {a:Option Addr} {L:List PPart} (h:PtsAt w a L):∃ P,PartsAt w a L.length P∧∀ (d:Nat) (type key:ByteArray) (ps:List (Pick d)),cA L.length P d type key ps=cA L.length (lpOf L) d type key ps:=by
 have hex:∀ i,∃ q:LPart,i < L.length→∃ b o,a=some ⟨b,o,none⟩∧w.cell? ⟨b,o + i * 4,none⟩=some (.string q.name)∧w.cell? ⟨b,o + i * 4 + 1,none⟩=some (.slice q.fa q.nf q.fcap)∧w.cell? ⟨b,o + i * 4 + 2,none⟩=some (.slice q.oa q.no q.ocap)∧w.cell? ⟨b,o + i * 4 + 3,none⟩=some (.slice q.ha q.nh q.hcap)∧Small q.name∧FieldsAt w q.fa q.nf q.F∧q.name=(nth L i).name∧q.nf=(nth L i).fs.length∧q.F=fsN (nth L i):=fun i=>by
  by_cases hi:i < L.length
  ·obtain ⟨b,o,fa,oa,ha,fc,oc,hc,e,hp⟩:=h.2 i hi
   exact ⟨⟨(nth L i).name,fa,(nth L i).fs.length,fc,fsN (nth L i),oa,(nth L i).os.length,oc,ha,(nth L i).hs.length,hc⟩,fun _=>⟨b,o,e,hp.c0,hp.c1,hp.c2,hp.c3,hp.name,hp.fields,rfl,rfl,rfl⟩⟩
  ·exact ⟨lpOf L i,fun h'=>absurd h' hi⟩
 obtain ⟨P,hP⟩:=Classical.axiomOfChoice hex
 refine ⟨P,⟨h.1,fun i hi=>?_⟩,fun d type key ps=>cA_congr (fun i hi=>?_) d type key ps⟩
 ·obtain ⟨b,o,e,c0,c1,c2,c3,s0,hF,-⟩:=hP i hi
  exact ⟨b,o,e,c0,c1,c2,c3,s0,hF⟩
 ·obtain ⟨b,o,-,-,-,-,-,-,-,e1,e2,e3⟩:=hP i hi
  refine ⟨e1,e2,fun j _=>?_⟩
  rw [e3]; rfl
end Go.Proofs.YtjjggefmmeminacGreat
namespace Go.Proofs.YtjjggefmmeminacGreat
open Go.RowKit Go.Sort Go.PlainAid
theorem Tryz.info27:(Tryz.prog.info? 27).map (fun i=>(i.zero,i.size,i.bytes))=some (some (.slice none 0 0),1,24):=by kernel_rfl
theorem Tryz.info56:(Tryz.prog.info? 56).map (fun i=>(i.zero,i.size,i.bytes))=some (some (.agg #[.string ⟨#[]⟩,.int .i64 0,.bool false,.string ⟨#[]⟩,.slice none 0 0,.slice none 0 0]),6,96):=by kernel_rfl
def GotsOut (N0:Nat):(d:Nat)→World→Option Addr→Nat→List (Got d)→Prop
 | 0,_,_,_,_=>True
 | d + 1,w,a,c,L=>L.length≤maxLen∧∃ av sv,GRow (d:=d) N0 w (.slice a L.length c) L av sv
theorem GotsOut.free {N0 d:Nat} {w:World} {a:Option Addr} {c:Nat} {L:List (Got d)} (h:GotsOut N0 d w a c L):Free (fun k=>k < N0) w (fun w=>GotsAt w d a L):=by
 cases d with
 | zero=>exact fun _ _=>trivial
 | succ d =>
  obtain ⟨hm,av,sv,hr⟩:=h
  obtain ⟨a',c',e,-,hf⟩:=hr.out hm
  cases e
  exact hf
theorem GotsOut.kept {N0 d:Nat} {w w':World} {a:Option Addr} {c:Nat} {L:List (Got d)} (h:GotsOut N0 d w a c L) (hB:Below w.heap.size w w'):GotsOut N0 d w' a c L:=by
 cases d with
 | zero=>trivial
 | succ d =>
  obtain ⟨hm,av,sv,hr⟩:=h
  exact ⟨hm,av,sv,hr.kept hB⟩
def KeepX (X:Nat→Prop) (w w':World):Prop:=Keep (fun k=>k < w.heap.size∧¬ X k) w w'
theorem KeepX.refl (X:Nat→Prop) (w:World):KeepX X w w:=Keep.refl _ _
theorem KeepX.of {X:Nat→Prop} {w w':World} (h:Below w.heap.size w w'):KeepX X w w':=Keep.of h fun _ h=>h.1
theorem KeepX.trans {X Y:Nat→Prop} {w w1 w2:World} (h:KeepX X w w1) (h':KeepX Y w1 w2) (hY:∀ k,k < w.heap.size→Y k→X k):KeepX X w w2 :=
 Keep.trans h (Keep.mono h' fun k hk=>⟨Nat.lt_of_lt_of_le hk.1 h.size,fun hy=>hk.2 (hY k hk.1 hy)⟩)
theorem KeepX.cell {X:Nat→Prop} {w w':World} (h:KeepX X w w') {p:Addr} {v:Value} (hp:w.cell? p=some v) (hx : ¬ X p.block):w'.cell? p=some v:=(Keep.cell h ⟨block_lt_of_cell hp,hx⟩).trans hp
def noB:Nat→Prop:=fun _=>False
theorem KeepX.below {w w':World} (h:KeepX noB w w'):Below w.heap.size w w':=Keep.below h fun _ hb=>⟨hb,id⟩
def gotCs {d:Nat} (g:Got (d + 1)) (A:Option Addr) (C:Nat) (A2:Option Addr) (C2:Nat):Array Value:=#[.string (gName g),.int .i64 (gKind g),.bool (gNull g),.string (gText g),.slice A (gSub g).length C,.slice A2 (gSubs g).length C2]
theorem there_idx (V:Nat→LServ) (p:PPart) (key:ByteArray):decide (0≤idx p.hs.length (fun i=>hasT (V (hsN p i).svc.toNat) (hsN p i).type key))=thereP V p key:=by
 unfold thereP
 have hget:∀ i (h:i < p.hs.length),hsN p i=p.hs[i]:=fun i h=>by unfold hsN; rw [List.getD_eq_getElem?_getD,List.getElem?_eq_getElem h]; rfl
 rcases idx_cases p.hs.length (fun i=>hasT (V (hsN p i).svc.toNat) (hsN p i).type key) with ⟨h,hb⟩ | ⟨k,hk,h,hp,-⟩
 ·rw [h]
  symm
  show _=false
  rw [List.any_eq_false]
  intro x hx
  obtain ⟨i,hi,rfl⟩:=List.getElem_of_mem hx
  have:=hb i hi
  rw [hget i hi] at this
  rw [this]; decide
 ·rw [h]
  symm
  rw [show decide ((0:Int)≤(k:Int))=true by simp,List.any_eq_true]
  refine ⟨p.hs[k],List.getElem_mem hk,?_⟩
  have h1:hasT (V (hsN p k).svc.toNat) (hsN p k).type key=true:=hp
  rw [hget k hk] at h1
  exact h1
theorem Parts.pt {Z:Nat→Prop} {w:World} {v:Value} {L:List PPart} {rv:Nat→Nat→Value} (h:Parts Z w v L rv) {i:Nat} (hi:i < L.length):∃ g cap a1 c1 a2 c2 a3 c3,v = .slice (some ⟨g,0,none⟩) L.length cap∧rv 0 i = .slice a1 (nth L i).fs.length c1∧rv 1 i = .slice a2 (nth L i).os.length c2∧rv 2 i = .slice a3 (nth L i).hs.length c3∧PtAt w g (i * 4) (nth L i) a1 a2 a3 c1 c2 c3:=by
 obtain ⟨g,cp,a1,c1,a2,c2,a3,c3,hv,e1,e2,e3,k0,k1,k2,k3⟩:=h.aggs hi
 have hg:=h.good i hi
 have r0:Row w 0 66 3 (rv 0 i) (nth L i).fs.length (fieldCell (fsN (nth L i))):=h.rows 0 i (by decide) hi
 have r1:Row w 0 118 3 (rv 1 i) (nth L i).os.length (ownerCell (osN (nth L i))):=h.rows 1 i (by decide) hi
 have r2:Row w 0 118 3 (rv 2 i) (nth L i).hs.length (ownerCell (hsN (nth L i))):=h.rows 2 i (by decide) hi
 obtain ⟨b1,d1,f1,g1,hF⟩:=r0.fieldsAt (hg.len 0) hg.fs
 obtain ⟨b2,d2,f2,g2,hO⟩:=r1.ownersAt (hg.len 1) hg.os
 obtain ⟨b3,d3,f3,g3,hH⟩:=r2.ownersAt (hg.len 2) hg.hs
 rw [e1] at f1
 rw [e2] at f2
 rw [e3] at f3
 cases f1
 cases f2
 cases f3
 exact ⟨g,cp,a1,c1,a2,c2,a3,c3,hv,e1,e2,e3,k0,k1,k2,k3,hg.name,hF,hO,hH,g1,g2,g3⟩
def AskR (L:List PPart) (d:Nat) (fl:LField) (ps:List (Pick d)):Prop:=(fl.kind=1∧ps = [])∨(fl.kind≠1∧ps≠[]∧¬ partIdx L.length (lpOf L) fl.type < 0∧cR L.length (lpOf L) d (pOf L fl.type).fs.length (fsN (pOf L fl.type)) [] ps=0)
def OwnR (V:Nat→LServ) (s:Nat) (fl:LField) (o:POwner):Prop := ∀ key,hasT (V s) o.type key=true→∃ m,m < (thingT (V s) o.type key).nv∧valT (thingT (V s) o.type key) o.field=(thingT (V s) o.type key).V m ∧
 (∀ m',m' < (thingT (V s) o.type key).nv→(eqs ((thingT (V s) o.type key).V m').field o.field=true ↔ m'=m))∧∃ g:LField,g.kind=fl.kind∧ValR g ((thingT (V s) o.type key).V m)
theorem got_box {w:World} {b:Nat} {cs:Array Value} {c0 c1 c2 c3 c4 c5:Value} (h:w.heap[b]? = some (.cells cs 56 (0,0))) (e:cs = #[c0,c1,c2,c3,c4,c5]):(w.cell? ⟨b,0,none⟩=some c0∧w.cell? ⟨b,1,none⟩=some c1∧w.cell? ⟨b,2,none⟩=some c2∧w.cell? ⟨b,3,none⟩=some c3∧w.cell? ⟨b,4,none⟩=some c4∧w.cell? ⟨b,5,none⟩=some c5)∧w.frozen? ⟨b,0,none⟩=false∧w.frozen? ⟨b,1,none⟩=false∧w.frozen? ⟨b,2,none⟩=false∧w.frozen? ⟨b,3,none⟩=false∧w.frozen? ⟨b,4,none⟩=false∧w.frozen? ⟨b,5,none⟩=false:=by
 subst e
 simp [World.cell?,World.frozen?,h]
theorem take_map {α β:Type} (f:α→β) (l:List α) (k:Nat) (h:k < l.length):(l.map f).take (k + 1)=(l.map f).take k ++ [f l[k]]:=by
 rw [List.take_succ_eq_append_getElem (by simpa using h),List.getElem_map]
theorem ask_each {L:List PPart} {d:Nat} {p:PPart} {ps:List (Pick (d + 1))} (h:cR L.length (lpOf L) (d + 1) p.fs.length (fsN p) [] ps=0) {j:Nat} (hj:j < ps.length) : ¬ fieldIdx p.fs.length (fsN p) (pfield (pickN ps j)) < 0∧AskR L d (fOf p (pfield (pickN ps j))) (subs (pickN ps j)):=by
 obtain ⟨a',h1⟩:=cR_each h hj
 obtain ⟨hf,hz⟩:=cP_zero h1
 exact ⟨hf,hz⟩
theorem L99 {L:Nat→Bool} {l:List Oper} (h:∀ k,L k=true→k < l.length) (hl:l.length≤99):L 99=false:=by
 cases e:L 99 with
 | false=>rfl
 | true=>have:=h 99 e; omega
theorem L_not {L:Nat→Bool} {i j:Nat} (h:L j=true→L i=true) (hi:L i=false):L j=false:=by
 cases e:L j with
 | false=>rfl
 | true=>rw [h e] at hi; cases hi
theorem owned_slice {w:World} {base e size n:Nat} {v:Value} {xs:List Value} (h:w.ownsRow base e size v n xs):∃ a c,v = .slice a n c:=by
 rcases h.2 with ⟨rfl,rfl⟩ | ⟨g,cap,cur,rfl,-⟩
 ·exact ⟨_,_,rfl⟩
 ·exact ⟨_,_,rfl⟩
theorem obj_news {w:World} {b t:Nat} {cs:Array Value} (h:w.heap[b]? = some (.cells cs t (0,0))):∀ ad,some (⟨b,0,none⟩:Addr)=some ad→∀ j u,cs.toList[j]? = some u→w.cell? (ad.add j)=some u:=by
 intro ad had j u hu
 cases had
 rw [WideShapes.add_plain]
 simp [World.cell?,h]
 simpa using hu
theorem opStep_app {P:Program} {o:Oper} {s:Nat→Value} {w:World} {K:(Nat→Value)→World→Prop} (x y:Operand) (t:TypeId) (ho:o.op=Op.call { callee:=Callee.builtin Builtin.append,args:=#[x,y],argTypes:=#[t,t] })
  (base:Nat) (e:TypeId) (i:TypeInfo) (z:Value) (size bytes:Nat) (ht:P.underlying t=some (.slice e)) (hi:P.info? e=some i) (hz:i.zero=some z)
  (hsize:i.size=size) (hby:i.bytes=bytes) (hzs:z.cells.size=size) (hsz:0 < size)
  (v:Value) (n:Nat) (xs:List Value) (hx:evalS s x=v) (hown:w.ownsRow base e size v n xs)
  (src:Option Addr) (m c:Nat) (news:List Value) (hy:evalS s y = .slice src m c) (hl:news.length=m * size) (hnews:∀ ad,src=some ad→∀ j u,news[j]? = some u→w.cell? (ad.add j)=some u) (hnil:src=none→m=0) (h1:∀ u ∈ news,u.oneCell'=true)
  (h63:n + m≤maxLen) (hbytes:(n + m) * bytes≤140737488355328) (hbase:base≤w.heap.size)
  (hK:∀ v' w',w'.ownsRow base e size v' (n + m) (xs ++ news)→w.grownBy w' v.ownBlock→(v'.ownBlock=v.ownBlock∨v'.ownBlock=some w.heap.size)→K (updS s o.dst v') w'):OpStep P o s w K:=by
 obtain ⟨v',w',hr,h2,h3,h5⟩:=run_append_any (P:=P) w base t o.type e i z size bytes ht hi hz hsize hby hzs hsz v n xs hown src m c news hl hnews hnil h1 h63 hbytes hbase
 refine opStep_value (v:=v') (w':=w') ?_ (hK v' w' h2 h3 h5)
 simp [execOp,ho,resolve,invoke,builtin,hx,hy,hr,Result.andThen]
theorem GRow.base {N0 N1 d:Nat} {w:World} {v:Value} {L:List (Got (d + 1))} {av sv:Nat→Value} (h:GRow N1 w v L av sv) (hN:N0≤N1):GRow N0 w v L av sv:=by
 refine ⟨⟨h.row.1,?_⟩,fun i hi=>let ⟨A,C,A2,C2,e1,e2,hf⟩:=h.sub i hi; ⟨A,C,A2,C2,e1,e2,hf.step (Nat.le_refl _) (fun _ _ _=>rfl) fun k _ hk=>hk.elim (fun h=>.inl (by omega)) .inr⟩⟩
 rcases h.row.2 with h | ⟨g,cap,cur,e,hg,r⟩
 ·exact .inl h
 ·exact .inr ⟨g,cap,cur,e,Nat.le_trans hN hg,r⟩
theorem SRow.base {N0 N1 d:Nat} {w:World} {v:Value} {S:List (List (Got d))} {sv:Nat→Value} (h:SRow N1 w v S sv) (hN:N0≤N1):SRow N0 w v S sv :=
 ⟨⟨h.row.1,h.row.2.imp id fun ⟨g,cap,cur,e,hg,r⟩=>⟨g,cap,cur,e,Nat.le_trans hN hg,r⟩⟩,fun i hi=>let ⟨A,C,e1,e2,hf⟩:=h.sub i hi; ⟨A,C,e1,e2,hf.less fun _ _ hx=>hx.imp (fun hk=>Nat.lt_of_lt_of_le hk hN) id⟩⟩
theorem GotsOut.base {N0 N1 d:Nat} {w:World} {a:Option Addr} {c:Nat} {L:List (Got d)} (h:GotsOut N1 d w a c L) (hN:N0≤N1):GotsOut N0 d w a c L:=by
 cases d with
 | zero=>trivial
 | succ d =>
  obtain ⟨hm,av,sv,hr⟩:=h
  exact ⟨hm,av,sv,hr.base hN⟩
theorem GotsOut.nil (N0 d:Nat) (w:World):GotsOut N0 d w none 0 []:=by
 cases d with
 | zero=>trivial
 | succ d=>exact ⟨Nat.zero_le _,fun _=>undef,fun _=>undef,GRow.nil _ _ _ _ _⟩
def MeanEnd (N0 d:Nat) (M:List (Got d)) (x:Int) (e:Ending) (w':World):Prop := ∃ va vc,e = .returned (.tuple #[.slice va M.length vc,.int .i64 x])∧M.length≤vc∧GotsOut N0 d w' va vc M
theorem meanEnd_none {N0 d:Nat} {M:List (Got d)} {x:Int} {w:World} (h:M = []):MeanEnd N0 d M x (.returned (.tuple #[.slice none 0 0,.int .i64 x])) w:=by
 subst h
 exact ⟨none,0,rfl,Nat.le_refl _,GotsOut.nil _ _ _⟩
end Go.Proofs.YtjjggefmmeminacGreat
