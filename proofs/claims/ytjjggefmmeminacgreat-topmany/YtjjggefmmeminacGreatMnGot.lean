import Derived.Test.YtjjggefmmeminacGreatJMn
import Derived.Test.YtjjggefmmeminacGreatJQy
import Derived.Test.YtjjggefmmeminacGreatJBase
namespace Go.Proofs.YtjjggefmmeminacGreat
open Go.RowKit Go.Sort Go.PlainAid
def Free (X:Nat→Prop) (w:World) (p:World→Prop):Prop := ∀ w':World,(∀ k,k < w.heap.size→¬ X k→w'.heap[k]? = w.heap[k]?)→p w'
theorem Free.at {X:Nat→Prop} {w:World} {p:World→Prop} (h:Free X w p):p w:=h w fun _ _ _=>rfl
theorem Free.step {X Y:Nat→Prop} {w w':World} {p:World→Prop} (h:Free X w p) (hs:w.heap.size≤w'.heap.size) (hk:∀ k,k < w.heap.size→¬ X k→w'.heap[k]? = w.heap[k]?) (hY:∀ k,k < w.heap.size→Y k→X k):Free Y w' p :=
 fun w2 h2=>h w2 fun k h3 h4=>(h2 k (by omega) (fun hy=>h4 (hY k h3 hy))).trans (hk k h3 h4)
theorem Free.kept {X:Nat→Prop} {w w':World} {p:World→Prop} (h:Free X w p) (hB:Below w.heap.size w w'):Free X w' p:=h.step hB.size (fun k hk _=>hB.block k hk) (fun _ _ hx=>hx)
theorem Free.less {X Y:Nat→Prop} {w:World} {p:World→Prop} (h:Free X w p) (hY:∀ k,k < w.heap.size→Y k→X k):Free Y w p:=h.step (Nat.le_refl _) (fun _ _ _=>rfl) hY
def subN {d:Nat} (S:List (List (Got d))) (j:Nat):List (Got d):=S.getD j []
def SubsAt {d:Nat} (w:World) (G:Option Addr→List (Got d)→Prop) (a:Option Addr) (S:List (List (Got d))):Prop :=
 S.length≤maxLen∧∀ j,j < S.length→∃ b o A C,a=some ⟨b,o,none⟩∧w.cell? ⟨b,o + j,none⟩=some (.slice A (subN S j).length C)∧(subN S j).length≤C∧G A (subN S j)
def GotsAt (w:World):(d:Nat)→Option Addr→List (Got d)→Prop
 | 0,_,_=>True
 | d + 1,a,L=>L.length≤maxLen∧∀ i,i < L.length→∃ b o A C A2 C2,a=some ⟨b,o,none⟩∧w.cell? ⟨b,o + i * 6,none⟩=some (.string (gName (gotN L i)))∧w.cell? ⟨b,o + i * 6 + 1,none⟩=some (.int .i64 (gKind (gotN L i)))∧w.cell? ⟨b,o + i * 6 + 2,none⟩=some (.bool (gNull (gotN L i))) ∧
   w.cell? ⟨b,o + i * 6 + 3,none⟩=some (.string (gText (gotN L i)))∧w.cell? ⟨b,o + i * 6 + 4,none⟩=some (.slice A (gSub (gotN L i)).length C)∧w.cell? ⟨b,o + i * 6 + 5,none⟩=some (.slice A2 (gSubs (gotN L i)).length C2) ∧
   (gSub (gotN L i)).length≤C∧(gSubs (gotN L i)).length≤C2∧GotsAt w d A (gSub (gotN L i))∧SubsAt w (GotsAt w d) A2 (gSubs (gotN L i))
theorem GotsAt.max {w:World} {d:Nat} {a:Option Addr} {L:List (Got d)} (h:GotsAt w d a L):L.length≤maxLen:=by
 cases d with
 | zero=>rw [got0 L]; exact Nat.zero_le _
 | succ d=>exact h.1
theorem GotsAt.none {w:World} {d:Nat} {a:Option Addr} : GotsAt w d a []:=by
 cases d with
 | zero=>trivial
 | succ d=>exact ⟨Nat.zero_le _,fun i hi=>absurd hi (Nat.not_lt_zero _)⟩
theorem SubsAt.none {d:Nat} {w:World} {G:Option Addr→List (Got d)→Prop} {a:Option Addr} : SubsAt w G a []:=⟨Nat.zero_le _,fun _ hi=>absurd hi (Nat.not_lt_zero _)⟩
theorem GotsAt.kept {w w':World} (hB:Below w.heap.size w w'):∀ {d:Nat} {a:Option Addr} {L:List (Got d)},GotsAt w d a L→GotsAt w' d a L
 | 0,_,_,_=>trivial
 | _ + 1,_,_,h=>⟨h.1,fun i hi=>let ⟨b,o,A,C,A2,C2,e,c0,c1,c2,c3,c4,c5,l1,l2,hs,hss⟩:=h.2 i hi
  ⟨b,o,A,C,A2,C2,e,keptCell hB c0,keptCell hB c1,keptCell hB c2,keptCell hB c3,keptCell hB c4,keptCell hB c5,l1,l2,GotsAt.kept hB hs,hss.1,fun j hj=>let ⟨b2,o2,A3,C3,e2,d0,l3,h3⟩:=hss.2 j hj; ⟨b2,o2,A3,C3,e2,keptCell hB d0,l3,GotsAt.kept hB h3⟩⟩⟩
theorem gots_nil {X:Nat→Prop} {w:World} {d:Nat} {a:Option Addr} : Free X w (fun w=>GotsAt w d a []):=fun _ _=>GotsAt.none
theorem subs_nil {X:Nat→Prop} {w:World} {d:Nat} {a:Option Addr} : Free X w (fun w=>SubsAt w (GotsAt w d) a []):=fun _ _=>SubsAt.none
structure GotV (X:Nat→Prop) (w:World) {d:Nat} (g:Got (d + 1)) (A:Option Addr) (C:Nat) (A2:Option Addr) (C2:Nat):Prop where
 c:(gSub g).length≤C
 c2:(gSubs g).length≤C2
 sub:Free X w (fun w=>GotsAt w d A (gSub g))
 subs:Free X w (fun w=>SubsAt w (GotsAt w d) A2 (gSubs g))
theorem GotV.step {X Y:Nat→Prop} {w w':World} {d:Nat} {g:Got (d + 1)} {A:Option Addr} {C:Nat} {A2:Option Addr} {C2:Nat} (h:GotV X w g A C A2 C2) (hs:w.heap.size≤w'.heap.size) (hk:∀ k,k < w.heap.size→¬ X k→w'.heap[k]? = w.heap[k]?) (hY:∀ k,k < w.heap.size→Y k→X k):GotV Y w' g A C A2 C2 :=
 ⟨h.c,h.c2,h.sub.step hs hk hY,h.subs.step hs hk hY⟩
theorem GotV.kept {X:Nat→Prop} {w w':World} {d:Nat} {g:Got (d + 1)} {A:Option Addr} {C:Nat} {A2:Option Addr} {C2:Nat} (h:GotV X w g A C A2 C2) (hB:Below w.heap.size w w'):GotV X w' g A C A2 C2:=h.step hB.size (fun k hk _=>hB.block k hk) (fun _ _ hx=>hx)
def gotL {d:Nat} (g:Got (d + 1)) (v u:Value):List Value:=[.string (gName g),.int .i64 (gKind g),.bool (gNull g),.string (gText g),v,u]
def gotA {d:Nat} (g:Got (d + 1)) (A:Option Addr) (C:Nat) (A2:Option Addr) (C2:Nat):Value:=.agg #[.string (gName g),.int .i64 (gKind g),.bool (gNull g),.string (gText g),.slice A (gSub g).length C,.slice A2 (gSubs g).length C2]
def gotCell {d:Nat} (L:List (Got (d + 1))) (av sv:Nat→Value) (j:Nat):Value :=
 if j % 6=0 then .string (gName (gotN L (j / 6))) else if j % 6=1 then .int .i64 (gKind (gotN L (j / 6))) else if j % 6=2 then .bool (gNull (gotN L (j / 6))) else if j % 6=3 then .string (gText (gotN L (j / 6))) else if j % 6=4 then av (j / 6) else sv (j / 6)
theorem gotN_snoc {d:Nat} {L:List (Got (d + 1))} {p:Got (d + 1)} {q:Nat} (h:q < L.length):gotN (L ++ [p]) q=gotN L q:=by simp [gotN,List.getD,List.getElem?_append,h]
theorem gotN_last {d:Nat} {L:List (Got (d + 1))} {p:Got (d + 1)} : gotN (L ++ [p]) L.length=p:=by simp [gotN,List.getD]
theorem gotCells_app {d:Nat} (L:List (Got (d + 1))) (p:Got (d + 1)) (av sv:Nat→Value) (v u:Value):(List.range ((L.length + 1) * 6)).map (gotCell (L ++ [p]) (fun i=>if i=L.length then v else av i) (fun i=>if i=L.length then u else sv i))=(List.range (L.length * 6)).map (gotCell L av sv) ++ gotL p v u:=by
 rw [show (L.length + 1) * 6=L.length * 6 + 1 + 1 + 1 + 1 + 1 + 1 by omega,List.range_succ,List.range_succ,List.range_succ,List.range_succ,List.range_succ,List.range_succ]
 simp only [List.map_append,List.map_cons,List.map_nil,List.append_assoc]
 have e1:(List.range (L.length * 6)).map (gotCell (L ++ [p]) (fun i=>if i=L.length then v else av i) (fun i=>if i=L.length then u else sv i))=(List.range (L.length * 6)).map (gotCell L av sv):=by
  refine List.map_congr_left fun j hj=>?_
  have hj':j < L.length * 6:=by simpa using hj
  unfold gotCell
  have e:(fun i=>if i=L.length then v else av i) (j / 6)=av (j / 6):=if_neg (by omega)
  have e':(fun i=>if i=L.length then u else sv i) (j / 6)=sv (j / 6):=if_neg (by omega)
  rw [gotN_snoc (by omega),e,e']
 have e2:(fun i=>if i=L.length then v else av i) L.length=v:=if_pos rfl
 have e3:(fun i=>if i=L.length then u else sv i) L.length=u:=if_pos rfl
 rw [e1]
 unfold gotCell gotL
 rw [if_pos (by omega),if_neg (by omega),if_pos (by omega),if_neg (by omega),if_neg (by omega),if_pos (by omega),if_neg (by omega),if_neg (by omega),if_neg (by omega),if_pos (by omega),if_neg (by omega),if_neg (by omega),if_neg (by omega),if_neg (by omega),if_pos (by omega),if_neg (by omega),if_neg (by omega),if_neg (by omega),if_neg (by omega),if_neg (by omega),
  show L.length * 6 / 6=L.length by omega,show (L.length * 6 + 1) / 6=L.length by omega,show (L.length * 6 + 1 + 1) / 6=L.length by omega,show (L.length * 6 + 1 + 1 + 1) / 6=L.length by omega,show (L.length * 6 + 1 + 1 + 1 + 1) / 6=L.length by omega,show (L.length * 6 + 1 + 1 + 1 + 1 + 1) / 6=L.length by omega,gotN_last,e2,e3]
 rfl
structure GRow (N0:Nat) {d:Nat} (w:World) (v:Value) (L:List (Got (d + 1))) (av sv:Nat→Value):Prop where
 row:Row w N0 56 6 v L.length (gotCell L av sv)
 sub:∀ i,i < L.length→∃ A C A2 C2,av i = .slice A (gSub (gotN L i)).length C∧sv i = .slice A2 (gSubs (gotN L i)).length C2∧GotV (fun q=>q < N0∨v.ownBlock=some q) w (gotN L i) A C A2 C2
theorem GRow.nil (N0 d:Nat) (w:World) (av sv:Nat→Value):GRow (d:=d) N0 w (.slice none 0 0) [] av sv:=⟨⟨rfl,.inl ⟨rfl,rfl⟩⟩,fun _ hi=>absurd hi (Nat.not_lt_zero _)⟩
theorem GRow.move {N0 d:Nat} {w w':World} {v:Value} {L:List (Got (d + 1))} {av sv:Nat→Value} (h:GRow N0 w v L av sv) (hs:w.heap.size≤w'.heap.size) (hk:∀ k,k < w.heap.size→N0≤k→w'.heap[k]? = w.heap[k]?):GRow N0 w' v L av sv :=
 ⟨h.row.at fun k hk'=>hk k (h.row.lt hk').2 (h.row.lt hk').1,fun i hi=>let ⟨A,C,A2,C2,e1,e2,hf⟩:=h.sub i hi; ⟨A,C,A2,C2,e1,e2,hf.step hs (fun k h1 h2=>hk k h1 (by
  rcases Nat.lt_or_ge k N0 with h3 | h3
  ·exact absurd (Or.inl h3) h2
  ·exact h3)) (fun k _ hx=>hx)⟩⟩
theorem GRow.kept {N0 d:Nat} {w w':World} {v:Value} {L:List (Got (d + 1))} {av sv:Nat→Value} (h:GRow N0 w v L av sv) (hB:Below w.heap.size w w'):GRow N0 w' v L av sv :=
 h.move hB.size fun k hk _=>hB.block k hk
theorem GRow.app {N0 d B:Nat} {w w':World} {v v':Value} {L:List (Got (d + 1))} {av sv:Nat→Value} {g:Got (d + 1)} {A:Option Addr} {C:Nat} {A2:Option Addr} {C2:Nat} (h:GRow N0 w v L av sv) (hf:GotV (fun k=>k < B) w g A C A2 C2) (hB:N0≤B) (hv:∀ k,v.ownBlock=some k→k < B)
  (hown:w'.ownsRow N0 56 6 v' (L.length + 1) ((List.range (L.length * 6)).map (gotCell L av sv) ++ gotL g (.slice A (gSub g).length C) (.slice A2 (gSubs g).length C2))) (hg:w.grownBy w' v.ownBlock) (hv':v'.ownBlock=v.ownBlock∨v'.ownBlock=some w.heap.size) :
  GRow N0 w' v' (L ++ [g]) (fun i=>if i=L.length then .slice A (gSub g).length C else av i) (fun i=>if i=L.length then .slice A2 (gSubs g).length C2 else sv i):=by
 have hl:(L ++ [g]).length=L.length + 1:=by simp
 refine ⟨?_,fun i hi=>?_⟩
 ·unfold Row; rw [hl,gotCells_app]; exact hown
 ·rw [hl] at hi
  rcases Nat.lt_succ_iff_lt_or_eq.1 hi with hi' | hi'
  ·obtain ⟨A1,C1,A3,C3,e1,e2,h4⟩:=h.sub i hi'
   rw [gotN_snoc hi',if_neg (by omega),if_neg (by omega)]
   refine ⟨A1,C1,A3,C3,e1,e2,h4.step hg.size (fun k hk hx=>hg.block k hk (fun e=>hx (.inr e.symm))) (fun k hk hx=>?_)⟩
   rcases hx with hx | hx
   ·exact .inl hx
   ·rcases hv' with e | e
    ·exact .inr (by rw [← e]; exact hx)
    ·rw [e] at hx; cases hx; omega
  ·subst hi'
   rw [gotN_last,if_pos rfl,if_pos rfl]
   refine ⟨A,C,A2,C2,rfl,rfl,hf.step hg.size (fun k hk hx=>hg.block k hk (fun e=>hx (hv k e.symm))) (fun k hk hx=>?_)⟩
   rcases hx with hx | hx
   ·show k < B; omega
   ·rcases hv' with e | e
    ·exact hv k (by rw [← e]; exact hx)
    ·rw [e] at hx; cases hx; omega
theorem GRow.cells {N0 d:Nat} {w:World} {g cap:Nat} {L:List (Got (d + 1))} {av sv:Nat→Value} (hr:Row w N0 56 6 (.slice (some ⟨g,0,none⟩) L.length cap) L.length (gotCell L av sv)) {i:Nat} (hi:i < L.length) :
  w.cell? ⟨g,i * 6,none⟩=some (.string (gName (gotN L i)))∧w.cell? ⟨g,i * 6 + 1,none⟩=some (.int .i64 (gKind (gotN L i)))∧w.cell? ⟨g,i * 6 + 2,none⟩=some (.bool (gNull (gotN L i)))∧w.cell? ⟨g,i * 6 + 3,none⟩=some (.string (gText (gotN L i)))∧w.cell? ⟨g,i * 6 + 4,none⟩=some (av i)∧w.cell? ⟨g,i * 6 + 5,none⟩=some (sv i):=by
 have c0:=hr.cell (j:=i * 6) (by omega)
 have c1:=hr.cell (j:=i * 6 + 1) (by omega)
 have c2:=hr.cell (j:=i * 6 + 2) (by omega)
 have c3:=hr.cell (j:=i * 6 + 3) (by omega)
 have c4:=hr.cell (j:=i * 6 + 4) (by omega)
 have c5:=hr.cell (j:=i * 6 + 5) (by omega)
 unfold gotCell at c0 c1 c2 c3 c4 c5
 rw [if_pos (by omega),show i * 6 / 6=i by omega] at c0
 rw [if_neg (by omega),if_pos (by omega),show (i * 6 + 1) / 6=i by omega] at c1
 rw [if_neg (by omega),if_neg (by omega),if_pos (by omega),show (i * 6 + 2) / 6=i by omega] at c2
 rw [if_neg (by omega),if_neg (by omega),if_neg (by omega),if_pos (by omega),show (i * 6 + 3) / 6=i by omega] at c3
 rw [if_neg (by omega),if_neg (by omega),if_neg (by omega),if_neg (by omega),if_pos (by omega),show (i * 6 + 4) / 6=i by omega] at c4
 rw [if_neg (by omega),if_neg (by omega),if_neg (by omega),if_neg (by omega),if_neg (by omega),show (i * 6 + 5) / 6=i by omega] at c5
 exact ⟨c0,c1,c2,c3,c4,c5⟩
theorem GRow.slice {N0 d:Nat} {w:World} {v:Value} {L:List (Got (d + 1))} {av sv:Nat→Value} (h:GRow N0 w v L av sv):∃ a cap,v = .slice a L.length cap∧L.length≤cap:=h.row.slice
theorem GRow.out {N0 d:Nat} {w:World} {v:Value} {L:List (Got (d + 1))} {av sv:Nat→Value} (h:GRow N0 w v L av sv) (hm:L.length≤maxLen):∃ a cap,v = .slice a L.length cap∧L.length≤cap∧Free (fun k=>k < N0) w (fun w=>GotsAt w (d + 1) a L):=by
 rcases h.row.shape with ⟨e,h0⟩ | ⟨g,cap,e,hg,hc,-⟩
 ·have:L = []:=List.eq_nil_of_length_eq_zero h0
  subst this
  exact ⟨none,0,e,Nat.le_refl _,gots_nil⟩
 ·subst e
  refine ⟨_,cap,rfl,hc,fun w' hw'=>⟨hm,fun i hi=>?_⟩⟩
  obtain ⟨A,C,A2,C2,e1,e2,hf⟩:=h.sub i hi
  have hr:Row w' N0 56 6 (.slice (some ⟨g,0,none⟩) L.length cap) L.length (gotCell L av sv):=h.row.at fun k hk=>hw' k (h.row.lt hk).2 (by
   have:=(h.row.lt hk).1
   show ¬ k < N0; omega)
  obtain ⟨c0,c1,c2,c3,c4,c5⟩:=GRow.cells hr hi
  rw [e1] at c4
  rw [e2] at c5
  exact ⟨g,0,A,C,A2,C2,rfl,by rw [Nat.zero_add]; exact c0,by rw [Nat.zero_add]; exact c1,by rw [Nat.zero_add]; exact c2,by rw [Nat.zero_add]; exact c3,by rw [Nat.zero_add]; exact c4,by rw [Nat.zero_add]; exact c5,hf.c,hf.c2,hf.sub w' fun k hk hx=>hw' k hk (fun hlt=>hx (.inl hlt)),hf.subs w' fun k hk hx=>hw' k hk (fun hlt=>hx (.inl hlt))⟩
structure SRow (N0:Nat) {d:Nat} (w:World) (v:Value) (S:List (List (Got d))) (sv:Nat→Value):Prop where
 row:Row w N0 27 1 v S.length sv
 sub:∀ i,i < S.length→∃ A C,sv i = .slice A (subN S i).length C∧(subN S i).length≤C∧Free (fun q=>q < N0∨v.ownBlock=some q) w (fun w=>GotsAt w d A (subN S i))
theorem SRow.nil (N0 d:Nat) (w:World) (sv:Nat→Value):SRow (d:=d) N0 w (.slice none 0 0) [] sv:=⟨⟨rfl,.inl ⟨rfl,rfl⟩⟩,fun _ hi=>absurd hi (Nat.not_lt_zero _)⟩
theorem SRow.move {N0 d:Nat} {w w':World} {v:Value} {S:List (List (Got d))} {sv:Nat→Value} (h:SRow N0 w v S sv) (hs:w.heap.size≤w'.heap.size) (hk:∀ k,k < w.heap.size→N0≤k→w'.heap[k]? = w.heap[k]?):SRow N0 w' v S sv :=
 ⟨h.row.at fun k hk'=>hk k (h.row.lt hk').2 (h.row.lt hk').1,fun i hi=>let ⟨A,C,e1,e2,hf⟩:=h.sub i hi; ⟨A,C,e1,e2,hf.step hs (fun k h1 h2=>hk k h1 (by
  rcases Nat.lt_or_ge k N0 with h3 | h3
  ·exact absurd (Or.inl h3) h2
  ·exact h3)) (fun k _ hx=>hx)⟩⟩
theorem SRow.kept {N0 d:Nat} {w w':World} {v:Value} {S:List (List (Got d))} {sv:Nat→Value} (h:SRow N0 w v S sv) (hB:Below w.heap.size w w'):SRow N0 w' v S sv :=
 h.move hB.size fun k hk _=>hB.block k hk
theorem subN_snoc {d:Nat} {S:List (List (Got d))} {p:List (Got d)} {q:Nat} (h:q < S.length):subN (S ++ [p]) q=subN S q:=by simp [subN,List.getD,List.getElem?_append,h]
theorem subN_last {d:Nat} {S:List (List (Got d))} {p:List (Got d)} : subN (S ++ [p]) S.length=p:=by simp [subN,List.getD]
theorem SRow.app {N0 d B:Nat} {w w':World} {v v':Value} {S:List (List (Got d))} {sv:Nat→Value} {g:List (Got d)} {A:Option Addr} {C:Nat} (h:SRow N0 w v S sv) (hC:g.length≤C) (hf:Free (fun k=>k < B) w (fun w=>GotsAt w d A g)) (hB:N0≤B) (hv:∀ k,v.ownBlock=some k→k < B)
  (hown:w'.ownsRow N0 27 1 v' (S.length + 1) ((List.range (S.length * 1)).map sv ++ [.slice A g.length C])) (hg:w.grownBy w' v.ownBlock) (hv':v'.ownBlock=v.ownBlock∨v'.ownBlock=some w.heap.size) :
  SRow N0 w' v' (S ++ [g]) (fun i=>if i=S.length then .slice A g.length C else sv i):=by
 have hl:(S ++ [g]).length=S.length + 1:=by simp
 refine ⟨?_,fun i hi=>?_⟩
 ·unfold Row
  rw [hl]
  have e:(List.range ((S.length + 1) * 1)).map (fun i=>if i=S.length then Value.slice A g.length C else sv i)=(List.range (S.length * 1)).map sv ++ [.slice A g.length C]:=by
   rw [Nat.mul_one,Nat.mul_one,List.range_succ,List.map_append]
   simp only [List.map_cons,List.map_nil,if_true]
   rw [range_map_congr fun j hj=>if_neg (by omega : ¬ j=S.length)]
  rw [e]; exact hown
 ·rw [hl] at hi
  rcases Nat.lt_succ_iff_lt_or_eq.1 hi with hi' | hi'
  ·obtain ⟨A1,C1,e1,e2,h4⟩:=h.sub i hi'
   rw [subN_snoc hi',if_neg (by omega)]
   refine ⟨A1,C1,e1,e2,h4.step hg.size (fun k hk hx=>hg.block k hk (fun e=>hx (.inr e.symm))) (fun k hk hx=>?_)⟩
   rcases hx with hx | hx
   ·exact .inl hx
   ·rcases hv' with e | e
    ·exact .inr (by rw [← e]; exact hx)
    ·rw [e] at hx; cases hx; omega
  ·subst hi'
   rw [subN_last,if_pos rfl]
   refine ⟨A,C,rfl,hC,hf.step hg.size (fun k hk hx=>hg.block k hk (fun e=>hx (hv k e.symm))) (fun k hk hx=>?_)⟩
   rcases hx with hx | hx
   ·show k < B; omega
   ·rcases hv' with e | e
    ·exact hv k (by rw [← e]; exact hx)
    ·rw [e] at hx; cases hx; omega
theorem SRow.slice {N0 d:Nat} {w:World} {v:Value} {S:List (List (Got d))} {sv:Nat→Value} (h:SRow N0 w v S sv):∃ a cap,v = .slice a S.length cap∧S.length≤cap:=h.row.slice
theorem SRow.out {N0 d:Nat} {w:World} {v:Value} {S:List (List (Got d))} {sv:Nat→Value} (h:SRow N0 w v S sv) (hm:S.length≤maxLen):∃ a cap,v = .slice a S.length cap∧S.length≤cap∧Free (fun k=>k < N0) w (fun w=>SubsAt w (GotsAt w d) a S):=by
 rcases h.row.shape with ⟨e,h0⟩ | ⟨g,cap,e,hg,hc,-⟩
 ·have:S = []:=List.eq_nil_of_length_eq_zero h0
  subst this
  exact ⟨none,0,e,Nat.le_refl _,subs_nil⟩
 ·subst e
  refine ⟨_,cap,rfl,hc,fun w' hw'=>⟨hm,fun i hi=>?_⟩⟩
  obtain ⟨A,C,e1,e2,hf⟩:=h.sub i hi
  have hr:Row w' N0 27 1 (.slice (some ⟨g,0,none⟩) S.length cap) S.length sv:=h.row.at fun k hk=>hw' k (h.row.lt hk).2 (by
   have:=(h.row.lt hk).1
   show ¬ k < N0; omega)
  have c0:=hr.cell (j:=i) (by omega)
  rw [e1] at c0
  exact ⟨g,0,A,C,rfl,by rw [Nat.zero_add]; exact c0,e2,hf w' fun k hk hx=>hw' k hk (fun hlt=>hx (.inl hlt))⟩
theorem SRow.first {N0 d:Nat} {w:World} {v:Value} {S:List (List (Got d))} {sv:Nat→Value} (h:SRow N0 w v S sv) (hS:0 < S.length):∃ g cap A C,v = .slice (some ⟨g,0,none⟩) S.length cap∧w.cell? ⟨g,0,none⟩=some (.slice A (subN S 0).length C)∧(subN S 0).length≤C∧Free (fun k=>k < N0) w (fun w=>GotsAt w d A (subN S 0)):=by
 rcases h.row.shape with ⟨e,h0⟩ | ⟨g,cap,e,hg,hc,-⟩
 ·omega
 ·subst e
  obtain ⟨A,C,e1,e2,hf⟩:=h.sub 0 hS
  have c0:=h.row.cell (j:=0) (by omega)
  rw [e1] at c0
  exact ⟨g,cap,A,C,rfl,c0,e2,hf.less fun k _ hx=>.inl hx⟩
end Go.Proofs.YtjjggefmmeminacGreat
