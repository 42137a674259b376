import Derived.Test.YtjjggefmmeminabGreatJBase
import Derived.Test.YtjjggefmmeminabGreatMnGot
import Derived.Test.YtjjggefmmeminabGreatMnMem
import Derived.Test.YtjjggefmmeminabGreatJMn
namespace Go.Proofs.YtjjggefmmeminabGreat
open Go.RowKit Go.Sort Go.PlainAid
theorem Tryz.info26:(Tryz.prog.info? 26).map (fun i=>(i.zero,i.size,i.bytes))=some (some (.slice none 0 0),1,24):=by kernel_rfl
theorem Tryz.info56:(Tryz.prog.info? 56).map (fun i=>(i.zero,i.size,i.bytes))=some (some (.agg #[.string ⟨#[]⟩,.int .i64 0,.bool false,.string ⟨#[]⟩,.slice none 0 0,.slice none 0 0]),6,96):=by kernel_rfl
def GotsOut (N0:Nat):(d:Nat)→World→Option Addr→Nat→List (Got d)→Prop
 | 0,_,_,_,_=>True
 | d + 1,w,a,c,L=>L.length≤maxLen∧∃ av sv,GRow (d:=d) N0 w (.slice a L.length c) L av sv
theorem GotsOut.free {N0 d:Nat} {w:World} {a:Option Addr} {c:Nat} {L:List (Got d)} (h:GotsOut N0 d w a c L):Free (fun k=>k < N0) w (fun w=>GotsAt w d a L):=by
 cases d with
 | zero=>exact fun _ _=>trivial
 | succ d =>
  obtain ⟨hm,av,sv,hr⟩:=h
  obtain ⟨a',c',e,-,hf⟩:=hr.out hm
  cases e
  exact hf
theorem GotsOut.kept {N0 d:Nat} {w w':World} {a:Option Addr} {c:Nat} {L:List (Got d)} (h:GotsOut N0 d w a c L) (hB:Below w.heap.size w w'):GotsOut N0 d w' a c L:=by
 cases d with
 | zero=>trivial
 | succ d =>
  obtain ⟨hm,av,sv,hr⟩:=h
  exact ⟨hm,av,sv,hr.kept hB⟩
def KeepX (X:Nat→Prop) (w w':World):Prop:=Keep (fun k=>k < w.heap.size∧¬ X k) w w'
theorem KeepX.refl (X:Nat→Prop) (w:World):KeepX X w w:=Keep.refl _ _
theorem KeepX.of {X:Nat→Prop} {w w':World} (h:Below w.heap.size w w'):KeepX X w w':=Keep.of h fun _ h=>h.1
theorem KeepX.trans {X Y:Nat→Prop} {w w1 w2:World} (h:KeepX X w w1) (h':KeepX Y w1 w2) (hY:∀ k,k < w.heap.size→Y k→X k):KeepX X w w2 :=
 Keep.trans h (Keep.mono h' fun k hk=>⟨Nat.lt_of_lt_of_le hk.1 h.size,fun hy=>hk.2 (hY k hk.1 hy)⟩)
theorem KeepX.cell {X:Nat→Prop} {w w':World} (h:KeepX X w w') {p:Addr} {v:Value} (hp:w.cell? p=some v) (hx : ¬ X p.block):w'.cell? p=some v:=(Keep.cell h ⟨block_lt_of_cell hp,hx⟩).trans hp
def noB:Nat→Prop:=fun _=>False
theorem KeepX.below {w w':World} (h:KeepX noB w w'):Below w.heap.size w w':=Keep.below h fun _ hb=>⟨hb,id⟩
def gotCs {d:Nat} (g:Got (d + 1)) (A:Option Addr) (C:Nat) (A2:Option Addr) (C2:Nat):Array Value:=#[.string (gName g),.int .i64 (gKind g),.bool (gNull g),.string (gText g),.slice A (gSub g).length C,.slice A2 (gSubs g).length C2]
theorem there_idx (V:Nat→LServ) (p:PPart) (key:ByteArray):decide (0≤idx p.hs.length (fun i=>hasT (V (hsN p i).svc.toNat) (hsN p i).type key))=thereP V p key:=by
 unfold thereP
 have hget:∀ i (h:i < p.hs.length),hsN p i=p.hs[i]:=fun i h=>by unfold hsN; rw [List.getD_eq_getElem?_getD,List.getElem?_eq_getElem h]; rfl
 rcases idx_cases p.hs.length (fun i=>hasT (V (hsN p i).svc.toNat) (hsN p i).type key) with ⟨h,hb⟩ | ⟨k,hk,h,hp,-⟩
 ·rw [h]
  symm
  show _=false
  rw [List.any_eq_false]
  intro x hx
  obtain ⟨i,hi,rfl⟩:=List.getElem_of_mem hx
  have:=hb i hi
  rw [hget i hi] at this
  rw [this]; decide
 ·rw [h]
  symm
  rw [show decide ((0:Int)≤(k:Int))=true by simp,List.any_eq_true]
  refine ⟨p.hs[k],List.getElem_mem hk,?_⟩
  have h1:hasT (V (hsN p k).svc.toNat) (hsN p k).type key=true:=hp
  rw [hget k hk] at h1
  exact h1
theorem Parts.pt {Z:Nat→Prop} {w:World} {v:Value} {L:List PPart} {rv:Nat→Nat→Value} (h:Parts Z w v L rv) {i:Nat} (hi:i < L.length):∃ g cap a1 c1 a2 c2 a3 c3,v = .slice (some ⟨g,0,none⟩) L.length cap∧rv 0 i = .slice a1 (nth L i).fs.length c1∧rv 1 i = .slice a2 (nth L i).os.length c2∧rv 2 i = .slice a3 (nth L i).hs.length c3∧PtAt w g (i * 4) (nth L i) a1 a2 a3 c1 c2 c3:=by
 obtain ⟨g,cp,a1,c1,a2,c2,a3,c3,hv,e1,e2,e3,k0,k1,k2,k3⟩:=h.aggs hi
 have hg:=h.good i hi
 have r0:Row w 0 113 3 (rv 0 i) (nth L i).fs.length (fieldCell (fsN (nth L i))):=h.rows 0 i (by decide) hi
 have r1:Row w 0 92 3 (rv 1 i) (nth L i).os.length (ownerCell (osN (nth L i))):=h.rows 1 i (by decide) hi
 have r2:Row w 0 92 3 (rv 2 i) (nth L i).hs.length (ownerCell (hsN (nth L i))):=h.rows 2 i (by decide) hi
 obtain ⟨b1,d1,f1,g1,hF⟩:=r0.fieldsAt (hg.len 0) hg.fs
 obtain ⟨b2,d2,f2,g2,hO⟩:=r1.ownersAt (hg.len 1) hg.os
 obtain ⟨b3,d3,f3,g3,hH⟩:=r2.ownersAt (hg.len 2) hg.hs
 rw [e1] at f1
 rw [e2] at f2
 rw [e3] at f3
 cases f1
 cases f2
 cases f3
 exact ⟨g,cp,a1,c1,a2,c2,a3,c3,hv,e1,e2,e3,k0,k1,k2,k3,hg.name,hF,hO,hH,g1,g2,g3⟩
def AskR (L:List PPart) (d:Nat) (fl:LField) (ps:List (Pick d)):Prop:=(fl.kind=1∧ps = [])∨(fl.kind≠1∧ps≠[]∧¬ partIdx L.length (lpOf L) fl.type < 0∧cR L.length (lpOf L) d (pOf L fl.type).fs.length (fsN (pOf L fl.type)) [] ps=0)
def OwnR (V:Nat→LServ) (s:Nat) (fl:LField) (o:POwner):Prop := ∀ key,hasT (V s) o.type key=true→∃ m,m < (thingT (V s) o.type key).nv∧valT (thingT (V s) o.type key) o.field=(thingT (V s) o.type key).V m ∧
 (∀ m',m' < (thingT (V s) o.type key).nv→(eqs ((thingT (V s) o.type key).V m').field o.field=true ↔ m'=m))∧∃ g:LField,g.kind=fl.kind∧ValR g ((thingT (V s) o.type key).V m)
theorem got_box {w:World} {b:Nat} {cs:Array Value} {c0 c1 c2 c3 c4 c5:Value} (h:w.heap[b]? = some (.cells cs 56 (0,0))) (e:cs = #[c0,c1,c2,c3,c4,c5]):(w.cell? ⟨b,0,none⟩=some c0∧w.cell? ⟨b,1,none⟩=some c1∧w.cell? ⟨b,2,none⟩=some c2∧w.cell? ⟨b,3,none⟩=some c3∧w.cell? ⟨b,4,none⟩=some c4∧w.cell? ⟨b,5,none⟩=some c5)∧w.frozen? ⟨b,0,none⟩=false∧w.frozen? ⟨b,1,none⟩=false∧w.frozen? ⟨b,2,none⟩=false∧w.frozen? ⟨b,3,none⟩=false∧w.frozen? ⟨b,4,none⟩=false∧w.frozen? ⟨b,5,none⟩=false:=by
 subst e
 simp [World.cell?,World.frozen?,h]
theorem take_map {α β:Type} (f:α→β) (l:List α) (k:Nat) (h:k < l.length):(l.map f).take (k + 1)=(l.map f).take k ++ [f l[k]]:=by
 rw [List.take_succ_eq_append_getElem (by simpa using h),List.getElem_map]
theorem ask_each {L:List PPart} {d:Nat} {p:PPart} {ps:List (Pick (d + 1))} (h:cR L.length (lpOf L) (d + 1) p.fs.length (fsN p) [] ps=0) {j:Nat} (hj:j < ps.length) : ¬ fieldIdx p.fs.length (fsN p) (pfield (pickN ps j)) < 0∧AskR L d (fOf p (pfield (pickN ps j))) (subs (pickN ps j)):=by
 obtain ⟨a',h1⟩:=cR_each h hj
 obtain ⟨hf,hz⟩:=cP_zero h1
 exact ⟨hf,hz⟩
theorem L99 {L:Nat→Bool} {l:List Oper} (h:∀ k,L k=true→k < l.length) (hl:l.length≤99):L 99=false:=by
 cases e:L 99 with
 | false=>rfl
 | true=>have:=h 99 e; omega
theorem L_not {L:Nat→Bool} {i j:Nat} (h:L j=true→L i=true) (hi:L i=false):L j=false:=by
 cases e:L j with
 | false=>rfl
 | true=>rw [h e] at hi; cases hi
theorem owned_slice {w:World} {base e size n:Nat} {v:Value} {xs:List Value} (h:w.ownsRow base e size v n xs):∃ a c,v = .slice a n c:=by
 rcases h.2 with ⟨rfl,rfl⟩ | ⟨g,cap,cur,rfl,-⟩
 ·exact ⟨_,_,rfl⟩
 ·exact ⟨_,_,rfl⟩
theorem obj_news {w:World} {b t:Nat} {cs:Array Value} (h:w.heap[b]? = some (.cells cs t (0,0))):∀ ad,some (⟨b,0,none⟩:Addr)=some ad→∀ j u,cs.toList[j]? = some u→w.cell? (ad.add j)=some u:=by
 intro ad had j u hu
 cases had
 rw [WideShapes.add_plain]
 simp [World.cell?,h]
 simpa using hu
theorem opStep_app {P:Program} {o:Oper} {s:Nat→Value} {w:World} {K:(Nat→Value)→World→Prop} (x y:Operand) (t:TypeId) (ho:o.op=Op.call { callee:=Callee.builtin Builtin.append,args:=#[x,y],argTypes:=#[t,t] })
  (base:Nat) (e:TypeId) (i:TypeInfo) (z:Value) (size bytes:Nat) (ht:P.underlying t=some (.slice e)) (hi:P.info? e=some i) (hz:i.zero=some z)
  (hsize:i.size=size) (hby:i.bytes=bytes) (hzs:z.cells.size=size) (hsz:0 < size)
  (v:Value) (n:Nat) (xs:List Value) (hx:evalS s x=v) (hown:w.ownsRow base e size v n xs)
  (src:Option Addr) (m c:Nat) (news:List Value) (hy:evalS s y = .slice src m c) (hl:news.length=m * size) (hnews:∀ ad,src=some ad→∀ j u,news[j]? = some u→w.cell? (ad.add j)=some u) (hnil:src=none→m=0) (h1:∀ u ∈ news,u.oneCell'=true)
  (h63:n + m≤maxLen) (hbytes:(n + m) * bytes≤140737488355328) (hbase:base≤w.heap.size)
  (hK:∀ v' w',w'.ownsRow base e size v' (n + m) (xs ++ news)→w.grownBy w' v.ownBlock→(v'.ownBlock=v.ownBlock∨v'.ownBlock=some w.heap.size)→K (updS s o.dst v') w'):OpStep P o s w K:=by
 obtain ⟨v',w',hr,h2,h3,h5⟩:=run_append_any (P:=P) w base t o.type e i z size bytes ht hi hz hsize hby hzs hsz v n xs hown src m c news hl hnews hnil h1 h63 hbytes hbase
 refine opStep_value (v:=v') (w':=w') ?_ (hK v' w' h2 h3 h5)
 simp [execOp,ho,resolve,invoke,builtin,hx,hy,hr,Result.andThen]
theorem GRow.base {N0 N1 d:Nat} {w:World} {v:Value} {L:List (Got (d + 1))} {av sv:Nat→Value} (h:GRow N1 w v L av sv) (hN:N0≤N1):GRow N0 w v L av sv:=by
 refine ⟨⟨h.row.1,?_⟩,fun i hi=>let ⟨A,C,A2,C2,e1,e2,hf⟩:=h.sub i hi; ⟨A,C,A2,C2,e1,e2,hf.step (Nat.le_refl _) (fun _ _ _=>rfl) fun k _ hk=>hk.elim (fun h=>.inl (by omega)) .inr⟩⟩
 rcases h.row.2 with h | ⟨g,cap,cur,e,hg,r⟩
 ·exact .inl h
 ·exact .inr ⟨g,cap,cur,e,Nat.le_trans hN hg,r⟩
theorem SRow.base {N0 N1 d:Nat} {w:World} {v:Value} {S:List (List (Got d))} {sv:Nat→Value} (h:SRow N1 w v S sv) (hN:N0≤N1):SRow N0 w v S sv :=
 ⟨⟨h.row.1,h.row.2.imp id fun ⟨g,cap,cur,e,hg,r⟩=>⟨g,cap,cur,e,Nat.le_trans hN hg,r⟩⟩,fun i hi=>let ⟨A,C,e1,e2,hf⟩:=h.sub i hi; ⟨A,C,e1,e2,hf.less fun _ _ hx=>hx.imp (fun hk=>Nat.lt_of_lt_of_le hk hN) id⟩⟩
theorem GotsOut.base {N0 N1 d:Nat} {w:World} {a:Option Addr} {c:Nat} {L:List (Got d)} (h:GotsOut N1 d w a c L) (hN:N0≤N1):GotsOut N0 d w a c L:=by
 cases d with
 | zero=>trivial
 | succ d =>
  obtain ⟨hm,av,sv,hr⟩:=h
  exact ⟨hm,av,sv,hr.base hN⟩
theorem GotsOut.nil (N0 d:Nat) (w:World):GotsOut N0 d w none 0 []:=by
 cases d with
 | zero=>trivial
 | succ d=>exact ⟨Nat.zero_le _,fun _=>undef,fun _=>undef,GRow.nil _ _ _ _ _⟩
def MeanEnd (N0 d:Nat) (M:List (Got d)) (x:Int) (e:Ending) (w':World):Prop := ∃ va vc,e = .returned (.tuple #[.slice va M.length vc,.int .i64 x])∧M.length≤vc∧GotsOut N0 d w' va vc M
theorem meanEnd_none {N0 d:Nat} {M:List (Got d)} {x:Int} {w:World} (h:M = []):MeanEnd N0 d M x (.returned (.tuple #[.slice none 0 0,.int .i64 x])) w:=by
 subst h
 exact ⟨none,0,rfl,Nat.le_refl _,GotsOut.nil _ _ _⟩
end Go.Proofs.YtjjggefmmeminabGreat
