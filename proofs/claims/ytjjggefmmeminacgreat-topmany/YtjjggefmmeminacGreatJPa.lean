import Derived.Test.YtjjggefmmeminacGreatMgIns
namespace Go.Proofs.YtjjggefmmeminacGreat
open Go.RowKit Go.Sort
theorem Parts.one {Z:Nat→Prop} {w:World} {v:Value} {L:List PPart} {rv:Nat→Nat→Value} (h:Parts Z w v L rv):∀ q,q < L.length * 4→(partCell L rv q).oneCell'=true:=fun q hq=>by
 unfold partCell
 split
 ·rfl
 ·obtain ⟨a,c,e,-⟩:=(h.rows (q % 4 - 1) (q / 4) (by omega) (by omega)).slice
  rw [e]; rfl
def insV (rv:Nat→Nat→Value) (k:Nat) (c i:Nat):Value:=if i < k then rv c i else if i=k then .slice none 0 0 else rv c (i - 1)
theorem put_cell {L:List PPart} {rv:Nat→Nat→Value} {name:ByteArray} (hh:hit L name=false) (q:Nat):insCell (partCell L rv) (pos L name) [.string name,.slice none 0 0,.slice none 0 0,.slice none 0 0] q=partCell (ins L name) (insV rv (pos L name)) q:=by
 unfold insCell
 by_cases c1:q < pos L name * 4
 ·have e1:q / 4 < pos L name:=by omega
  simp only [partCell,insV,ins_nth hh,e1,c1,if_true]
 ·have e1 : ¬ q / 4 < pos L name:=by omega
  by_cases c2:q < pos L name * 4 + 4
  ·have e2:q / 4=pos L name:=by omega
   simp only [partCell,insV,ins_nth hh,c1,c2,e2,Nat.lt_irrefl,if_true,if_false]
   obtain ⟨k,rfl⟩:∃ k,q=pos L name * 4 + k:=⟨q - pos L name * 4,by omega⟩
   rw [show pos L name * 4 + k - pos L name * 4=k by omega]
   have hk:k < 4:=by omega
   match k,hk with
   | 0,_=>rw [if_pos (by omega)]; rfl
   | 1,_=>rw [if_neg (by omega)]; rfl
   | 2,_=>rw [if_neg (by omega)]; rfl
   | 3,_=>rw [if_neg (by omega)]; rfl
  ·have e2 : ¬ q / 4=pos L name:=by omega
   simp only [partCell,insV,ins_nth hh,c1,c2,e1,e2,if_false,show (q - 4) % 4=q % 4 by omega,show (q - 4) / 4=q / 4 - 1 by omega]
theorem Parts.put {Z:Nat→Prop} {w w':World} {v v':Value} {L:List PPart} {rv:Nat→Nat→Value} {name:ByteArray} (h:Parts Z w v L rv) (hh:hit L name=false) (hs:Small name) (hm:L.length + 1≤maxLen) (hZ:∀ b,Z b→b < w.heap.size)
  (hr:Row w' 0 114 4 v' (L.length + 1) (insCell (partCell L rv) (pos L name) [.string name,.slice none 0 0,.slice none 0 0,.slice none 0 0])) (hg:w.grownBy w' v.ownBlock) (hat:v'.ownBlock=v.ownBlock∨∃ b,v'.ownBlock=some b∧w.heap.size≤b) :
  Parts Z w' v' (ins L name) (insV rv (pos L name))∧Keep Z w w':=by
 have hp:=pos_le L name
 have hl:=ins_len hh
 have lt2:∀ i,i < (ins L name).length→¬ i < pos L name→¬ i=pos L name→i - 1 < L.length:=fun i hi h1 h2=>by omega
 have rows:∀ c i,c < 3→i < L.length→Row w' 0 (et c) 3 (rv c i) (len c (nth L i)) (cellsOf c (nth L i)):=fun c i hc hi=>(h.rows c i hc hi).grown hg (fun b hb e=>h.ne hc hi e hb)
 refine ⟨⟨by rw [hl]; exact hm,?_,fun c i hc hi=>?_,fun c i c' i' hc hi hc' hi' hne b hb=>?_,fun b hb hz=>?_,fun c i hc hi b hb=>?_,fun i hi=>?_⟩,Keep.grown hg hZ h.freeV⟩
 ·rw [hl]
  exact hr.congr fun q _=>put_cell hh q
 ·rw [hl] at hi
  rw [ins_nth hh]
  unfold insV
  by_cases c1:i < pos L name
  ·rw [if_pos c1,if_pos c1]; exact rows c i hc (by omega)
  ·rw [if_neg c1,if_neg c1]
   by_cases c2:i=pos L name
   ·rw [if_pos c2,if_pos c2]
    have e1:len c (newP name)=0:=by
     unfold len newP
     split
     ·rfl
     ·split <;> rfl
    rw [e1]; exact World.ownsRow_nil _ _ _ _
   ·rw [if_neg c2,if_neg c2]; exact rows c (i - 1) hc (by omega)
 ·rw [hl] at hi hi'
  unfold insV at hb ⊢
  by_cases c1:i < pos L name
  ·rw [if_pos c1] at hb
   by_cases d1:i' < pos L name
   ·rw [if_pos d1]; exact h.apart c i c' i' hc (by omega) hc' (by omega) hne b hb
   ·rw [if_neg d1]
    by_cases d2:i'=pos L name
    ·rw [if_pos d2]; exact fun e=>(by cases e)
    ·rw [if_neg d2]; exact h.apart c i c' (i' - 1) hc (by omega) hc' (by omega) (by omega) b hb
  ·rw [if_neg c1] at hb
   by_cases c2:i=pos L name
   ·rw [if_pos c2] at hb; cases hb
   ·rw [if_neg c2] at hb
    by_cases d1:i' < pos L name
    ·rw [if_pos d1]; exact h.apart c (i - 1) c' i' hc (by omega) hc' (by omega) (by omega) b hb
    ·rw [if_neg d1]
     by_cases d2:i'=pos L name
     ·rw [if_pos d2]; exact fun e=>(by cases e)
     ·rw [if_neg d2]; exact h.apart c (i - 1) c' (i' - 1) hc (by omega) hc' (by omega) (by omega) b hb
 ·rcases hat with e | ⟨b',e,hb'⟩
  ·exact h.freeV b (by rw [← e]; exact hb) hz
  ·rw [e] at hb; cases hb
   have:=hZ _ hz; omega
 ·rw [hl] at hi
  unfold insV at hb
  by_cases c1:i < pos L name
  ·rw [if_pos c1] at hb; exact h.free c i hc (by omega) b hb
  ·rw [if_neg c1] at hb
   by_cases c2:i=pos L name
   ·rw [if_pos c2] at hb; cases hb
   ·rw [if_neg c2] at hb; exact h.free c (i - 1) hc (by omega) b hb
 ·rw [hl] at hi
  rw [ins_nth hh]
  by_cases c1:i < pos L name
  ·rw [if_pos c1]; exact h.good i (by omega)
  ·rw [if_neg c1]
   by_cases c2:i=pos L name
   ·rw [if_pos c2]; exact good_new hs
   ·rw [if_neg c2]; exact h.good (i - 1) (by omega)
set_option maxRecDepth 100000 in
set_option maxHeartbeats 1000000 in
theorem withPart_any (Z:Nat→Prop) (v:Value) (L:List PPart) (rv:Nat→Nat→Value) (name:ByteArray) (w:World) (hP:Parts Z w v L rv) (hZ:∀ b,Z b→b < w.heap.size) (hR:Rise L) (hm:L.length≤900) (hs:Small name) :
  Calls Tryz.prog 60 #[v,.string name] w fun e w'=>(∃ v' rv',e = .returned (.tuple #[v',.int .i64 (pos L name:Nat)])∧Parts Z w' v' (ins L name) rv')∧Keep Z w w':=by
 obtain ⟨a,cap,hv,hcap⟩:=hP.slice
 have HP:=Hid.intro hP
 have HZ:=Hid.intro hZ
 have hcl:=search_any Z v L rv name w hP hR (by omega)
 clear hP hZ hR
 subst hv
 go_enter Tryz.func60,Tryz.ntmps60
 go_wp2_with fail
 refine hcl.mono ?_
 clear hcl
 rintro e w1 ⟨rfl,hw1⟩
 have HP1:=Hid.intro (HP.out.kept' hw1)
 have HK1:Hid (Keep Z w w1):=Keep.of hw1 HZ.out
 have HZ1:Hid (∀ b,Z b→b < w1.heap.size):=fun b hb=>Nat.lt_of_lt_of_le (HZ.out b hb) hw1.size
 clear hw1
 cases hh:hit L name with
 | true =>
  have hf:=Hid.intro (ins_hit hh)
  clear hh
  go_wp2_with fail
  go_ret2
  exact ⟨⟨_,rv,rfl,by rw [hf.out]; exact HP1.out⟩,HK1.out⟩
 | false =>
  have HH:=Hid.intro hh
  clear hh
  have hB:=below1 w1 (Obj.cells #[.string name,.slice none 0 0,.slice none 0 0,.slice none 0 0] 114)
  have hP2:=HP1.out.kept' hB
  have hcl:=insert_any L.length (pos L name) w1.heap.size _ _ [.string name,.slice none 0 0,.slice none 0 0,.slice none 0 0] rfl _ hP2.row hP2.one (pos_le L name) (by omega) (heap_alloc_new _ _) (fun e=>by have:=(HP1.out.row.lt e).2; omega) (by intro u hu; simp at hu; rcases hu with rfl | rfl <;> rfl)
  have HP2:=Hid.intro hP2
  have HZ2:Hid (∀ b,Z b→b < (w1.alloc (Obj.cells #[.string name,.slice none 0 0,.slice none 0 0,.slice none 0 0] 114)).heap.size):=fun b hb=>Nat.lt_of_lt_of_le (HZ1.out b hb) hB.size
  have HK2:Hid (Keep Z w (w1.alloc (Obj.cells #[.string name,.slice none 0 0,.slice none 0 0,.slice none 0 0] 114))):=HK1.out.trans (Keep.of hB HZ1.out)
  clear hB hP2
  go_wp2_with fail
  refine hcl.mono ?_
  clear hcl
  rintro e w3 ⟨v',rfl,hr,hg,hat⟩
  obtain ⟨q1,q2⟩:=HP2.out.put HH.out hs (by unfold maxLen; omega) HZ2.out hr hg hat
  have HQ:=Hid.intro q1
  have HK:=Hid.intro (HK2.out.trans q2)
  clear q1 q2 hr hg hat
  go_wp2_with fail
  go_ret2
  exact ⟨⟨_,_,rfl,HQ.out⟩,HK.out⟩
end Go.Proofs.YtjjggefmmeminacGreat
namespace Go.Proofs.YtjjggefmmeminacGreat
open Go.RowKit Go.Sort Go.PlainAid
theorem step_append_at {P:Program} {ops:Array Oper} {o:Oper} {a:Act} {w:World} {K:Act→World→Prop} {Q:Exit→Act→World→Prop} {E:Prop}
  (hgd:o.guard=none) (s x:Operand) (t:TypeId) (ho:o.op=Op.call { callee:=Callee.builtin Builtin.append,args:=#[s,x],argTypes:=#[t,t] })
  (base:Nat) (e:TypeId) (i:TypeInfo) (z:Value) (size bytes:Nat) (ht:P.underlying t=some (.slice e)) (hi:P.info? e=some i) (hz:i.zero=some z)
  (hsize:i.size=size) (hby:i.bytes=bytes) (hzs:z.cells.size=size) (hsz:0 < size)
  (v:Value) (n:Nat) (xs:List Value) (hs:a.eval s=v) (hown:w.ownsRow base e size v n xs)
  (src:Option Addr) (m c:Nat) (news:List Value) (hx:a.eval x = .slice src m c) (hl:news.length=m * size) (hnews:∀ ad,src=some ad→∀ j u,news[j]? = some u→w.cell? (ad.add j)=some u) (hnil:src=none→m=0) (h1:∀ u ∈ news,u.oneCell'=true)
  (h63:n + m≤maxLen) (hbytes:(n + m) * bytes≤140737488355328) (hbase:base≤w.heap.size)
  (hK:∀ v' w',w'.ownsRow base e size v' (n + m) (xs ++ news)→w.grownBy w' v.ownBlock→(v'.ownBlock=v.ownBlock∨v'.ownBlock=some w.heap.size)→K (a.put o.dst v') w') :
  if Region.wanted o (yielded ops a.tmps)=true then Oper.wp P o a w K Q else E:=by
 have hw:Region.wanted o (yielded ops a.tmps)=true:=by simp [Region.wanted,hgd]
 rw [if_pos hw]
 obtain ⟨v',w',hr,h2,h3,h5⟩:=run_append_any (P:=P) w base t o.type e i z size bytes ht hi hz hsize hby hzs hsz v n xs hown src m c news hl hnews hnil h1 h63 hbytes hbase
 unfold Oper.wp
 simp [execOp,ho,resolve,invoke,builtin,hs,hx,hr,Result.andThen]
 exact hK v' w' h2 h3 h5
structure App (c:Nat) (p p':PPart) (cells:List Value):Prop where
 name:p'.name=p.name
 other:∀ c',c' < 3→c'≠c→len c' p'=len c' p∧cellsOf c' p'=cellsOf c' p
 len:len c p'=len c p + 1
 cells:(List.range (Go.Proofs.YtjjggefmmeminacGreat.len c p' * 3)).map (cellsOf c p')=(List.range (Go.Proofs.YtjjggefmmeminacGreat.len c p * 3)).map (cellsOf c p) ++ cells
def pH (p:PPart) (o:POwner):PPart:=⟨p.name,p.fs,p.os,p.hs ++ [o]⟩
def pF (p:PPart) (f:LField):PPart:=⟨p.name,p.fs ++ [f],p.os,p.hs⟩
def pO (p:PPart) (o:POwner):PPart:=⟨p.name,p.fs,p.os ++ [o],p.hs⟩
def fieldL (f:LField):List Value:=[.string f.name,.int .i64 f.kind,.string f.type]
def ownerL (o:POwner):List Value:=[.int .i64 o.svc,.string o.type,.string o.field]
theorem getD_snoc' {α:Type} {l:List α} {x d:α} {q:Nat} (h:q < l.length):(l ++ [x]).getD q d=l.getD q d:=by simp [List.getD,List.getElem?_append,h]
theorem getD_last' {α:Type} {l:List α} {x d:α} : (l ++ [x]).getD l.length d=x:=by simp [List.getD]
theorem fieldCells_app (l:List LField) (x:LField):(List.range ((l.length + 1) * 3)).map (fieldCell (fun j=>(l ++ [x]).getD j dF))=(List.range (l.length * 3)).map (fieldCell (fun j=>l.getD j dF)) ++ fieldL x:=by
 rw [show (l.length + 1) * 3=l.length * 3 + 1 + 1 + 1 by omega,List.range_succ,List.range_succ,List.range_succ]
 simp only [List.map_append,List.map_cons,List.map_nil,List.append_assoc]
 rw [fieldCell0,fieldCell1,show l.length * 3 + 1 + 1=l.length * 3 + 2 by omega,fieldCell2,getD_last']
 have e:(List.range (l.length * 3)).map (fieldCell (fun j=>(l ++ [x]).getD j dF))=(List.range (l.length * 3)).map (fieldCell (fun j=>l.getD j dF)):=range_map_congr fun j hj=>by
  have e3:(l ++ [x]).getD (j / 3) dF=l.getD (j / 3) dF:=getD_snoc' (by omega)
  unfold fieldCell; simp only [e3]
 rw [e]; rfl
theorem ownerCells_app (l:List POwner) (x:POwner):(List.range ((l.length + 1) * 3)).map (ownerCell (fun j=>(l ++ [x]).getD j dO))=(List.range (l.length * 3)).map (ownerCell (fun j=>l.getD j dO)) ++ ownerL x:=by
 rw [show (l.length + 1) * 3=l.length * 3 + 1 + 1 + 1 by omega,List.range_succ,List.range_succ,List.range_succ]
 simp only [List.map_append,List.map_cons,List.map_nil,List.append_assoc]
 rw [ownerCell0,ownerCell1,show l.length * 3 + 1 + 1=l.length * 3 + 2 by omega,ownerCell2,getD_last']
 have e:(List.range (l.length * 3)).map (ownerCell (fun j=>(l ++ [x]).getD j dO))=(List.range (l.length * 3)).map (ownerCell (fun j=>l.getD j dO)):=range_map_congr fun j hj=>by
  have e3:(l ++ [x]).getD (j / 3) dO=l.getD (j / 3) dO:=getD_snoc' (by omega)
  unfold ownerCell; simp only [e3]
 rw [e]; rfl
theorem app_F (p:PPart) (f:LField):App 0 p (pF p f) (fieldL f):=by
 refine ⟨rfl,fun c' h1 h2=>?_,by simp [len,pF],?_⟩
 ·match c',h1,h2 with
  | 0,_,h=>exact absurd rfl h
  | 1,_,_=>exact ⟨rfl,rfl⟩
  | 2,_,_=>exact ⟨rfl,rfl⟩
 ·show (List.range ((p.fs ++ [f]).length * 3)).map (fieldCell (fun j=>(p.fs ++ [f]).getD j dF))=_
  rw [List.length_append,List.length_singleton]; exact fieldCells_app p.fs f
theorem app_O (p:PPart) (o:POwner):App 1 p (pO p o) (ownerL o):=by
 refine ⟨rfl,fun c' h1 h2=>?_,by simp [len,pO],?_⟩
 ·match c',h1,h2 with
  | 0,_,_=>exact ⟨rfl,rfl⟩
  | 1,_,h=>exact absurd rfl h
  | 2,_,_=>exact ⟨rfl,rfl⟩
 ·show (List.range ((p.os ++ [o]).length * 3)).map (ownerCell (fun j=>(p.os ++ [o]).getD j dO))=_
  rw [List.length_append,List.length_singleton]; exact ownerCells_app p.os o
theorem app_H (p:PPart) (o:POwner):App 2 p (pH p o) (ownerL o):=by
 refine ⟨rfl,fun c' h1 h2=>?_,by simp [len,pH],?_⟩
 ·match c',h1,h2 with
  | 0,_,_=>exact ⟨rfl,rfl⟩
  | 1,_,_=>exact ⟨rfl,rfl⟩
  | 2,_,h=>exact absurd rfl h
 ·show (List.range ((p.hs ++ [o]).length * 3)).map (ownerCell (fun j=>(p.hs ++ [o]).getD j dO))=_
  rw [List.length_append,List.length_singleton]; exact ownerCells_app p.hs o
theorem good_app {α:Type} {l:List α} {x d:α} {G:α→Prop} (h:∀ j,j < l.length→G (l.getD j d)) (hx:G x):∀ j,j < (l ++ [x]).length→G ((l ++ [x]).getD j d):=fun j hj=>by
 rw [List.length_append,List.length_singleton] at hj
 by_cases e:j < l.length
 ·rw [getD_snoc' e]; exact h j e
 ·have:j=l.length:=by omega
  subst this; rw [getD_last']; exact hx
theorem len_le {p:PPart} {m:Nat} (h1:p.fs.length≤m) (h2:p.os.length≤m) (h3:p.hs.length≤m) (c:Nat):len c p≤m:=by
 unfold len
 split
 ·exact h1
 ·split
  ·exact h2
  ·exact h3
theorem good_F {p:PPart} {f : LField} (h:GoodP p) (hf:GoodF f) (hl:p.fs.length < maxLen):GoodP (pF p f) :=
 ⟨h.name,good_app h.fs hf,h.os,h.hs,len_le (by simp [pF]; omega) (h.len 1) (h.len 2)⟩
theorem good_O {p:PPart} {o:POwner} (h:GoodP p) (hf:GoodO o) (hl:p.os.length < maxLen):GoodP (pO p o) :=
 ⟨h.name,h.fs,good_app h.os hf,h.hs,len_le (h.len 0) (by simp [pO]; omega) (h.len 2)⟩
theorem good_H {p:PPart} {o:POwner} (h:GoodP p) (hf:GoodO o) (hl:p.hs.length < maxLen):GoodP (pH p o) :=
 ⟨h.name,h.fs,h.os,good_app h.hs hf,len_le (h.len 0) (h.len 1) (by simp [pH]; omega)⟩
theorem partK_zero (p:PPart) (svc:Int) (S:PSeen):partK p svc S 0=pH p ⟨svc,S.own,⟨#[]⟩⟩:=by
 unfold partK pH; simp
theorem partK_succ (p:PPart) (svc:Int) (S:PSeen) (k:Nat):partK p svc S (k + 1)=pO (pF (partK p svc S k) (S.F k)) ⟨svc,S.own,S.O k⟩:=by
 unfold partK pO pF; simp [List.range_succ]
theorem app_region {Z:Nat→Prop} {W X:World} {g cap:Nat} {L:List PPart} {rv:Nat→Nat→Value} (h:Parts Z W (.slice (some ⟨g,0,none⟩) L.length cap) L rv) (hZ:∀ b,Z b→b < W.heap.size) {c t:Nat} (hc:c < 3) (ht:t < L.length) {p':PPart} {cells:List Value} (hA:App c (nth L t) p' cells) (hgood:GoodP p') (hX:Below W.heap.size W X)
  {v':Value} {w':World} (hown:w'.ownsRow 0 (et c) 3 v' (len c (nth L t) + 1) ((List.range (len c (nth L t) * 3)).map (cellsOf c (nth L t)) ++ cells)) (hg:X.grownBy w' (rv c t).ownBlock) (hat:v'.ownBlock=(rv c t).ownBlock∨v'.ownBlock=some X.heap.size) :
  (∃ rv',Parts Z (w'.setCell ⟨g,t * 4 + 1 + c,none⟩ v') (.slice (some ⟨g,0,none⟩) L.length cap) (L.set t p') rv')∧Keep Z W (w'.setCell ⟨g,t * 4 + 1 + c,none⟩ v')∧w'.cell? ⟨g,t * 4 + 1 + c,none⟩=some (rv c t)∧w'.frozen? ⟨g,t * 4 + 1 + c,none⟩=false:=by
 have hP:=h.kept' hX
 have hZX:∀ b,Z b→b < X.heap.size:=fun b hb=>Nat.lt_of_lt_of_le (hZ b hb) hX.size
 have hr:Row w' 0 (et c) 3 v' (len c p') (cellsOf c p'):=by
  unfold Row; rw [hA.cells,hA.len]; exact hown
 obtain ⟨q1,q2⟩:=hP.app hc ht hA.name hA.other hZX hg hr (hat.imp id fun e=>⟨_,e,Nat.le_refl _⟩) hgood
 have hrow:Row w' 0 114 4 (.slice (some ⟨g,0,none⟩) L.length cap) L.length (partCell L rv):=hP.row.grown hg (fun k hk e=>hP.ne hc ht hk e)
 refine ⟨⟨_,q1⟩,(Keep.of hX hZ).trans q2,?_,hrow.free _⟩
 rw [hrow.cell (by omega),partCellS _ _ _ _ hc]
theorem Tryz.info118:(Tryz.prog.info? 118).map (fun i=>(i.zero,i.size,i.bytes))=some (some (.agg #[.int .i64 0,.string ⟨#[]⟩,.string ⟨#[]⟩]),3,40):=by kernel_rfl
theorem clash_iff {p:PPart} {svc:Int} {S:PSeen} {k:Nat} : clash p S k=true ↔ ¬ fieldIdx (partK p svc S k).fs.length (fsN (partK p svc S k)) (S.F k).name < 0:=by
 have e:(partK p svc S k).fs=p.fs ++ (List.range k).map S.F:=rfl
 unfold clash fsN
 rw [e]
 generalize p.fs ++ (List.range k).map S.F=l
 rw [List.any_eq_true]
 constructor
 ·rintro ⟨f,hf,he⟩ hn
  obtain ⟨i,hi,rfl⟩:=List.getElem_of_mem hf
  have:=idx_neg.1 hn i hi
  simp only [List.getD,List.getElem?_eq_getElem hi,Option.getD_some] at this
  rw [this] at he; cases he
 ·intro hn
  obtain ⟨h1,h2,-⟩:=fidx_hit hn
  generalize (fieldIdx l.length (fun j=>l.getD j dF) (S.F k).name).toNat=q at h1 h2
  refine ⟨l[q],List.getElem_mem h1,eqs_iff.2 ?_⟩
  simpa [List.getD,h1] using h2
theorem errP_hit {p:PPart} {S:PSeen} {k:Nat} (hk:k < S.nf) (h:clash p S k=true):errP p S=6:=by
 unfold errP; rw [if_pos (List.any_eq_true.2 ⟨k,by simpa using hk,h⟩)]
theorem errP_none {p:PPart} {S:PSeen} (h:∀ k,k < S.nf→clash p S k=false):errP p S=0:=by
 unfold errP
 rw [if_neg]
 intro h'
 obtain ⟨k,hk,e⟩:=List.any_eq_true.1 h'
 rw [h k (by simpa using hk)] at e; cases e
theorem set_set (L:List PPart) (t:Nat) (p q:PPart):(L.set t p).set t q=L.set t q:=by simp
theorem nth_set_self {L:List PPart} {t : Nat} {p:PPart} (h:t < L.length):nth (L.set t p) t=p:=by rw [nth_set h,if_pos rfl]
end Go.Proofs.YtjjggefmmeminacGreat
