import Derived.Test.YtjjggefmmeminabGreatJQy
namespace Go.Proofs.YtjjggefmmeminabGreat
open Go.RowKit Go.Sort Go.PlainAid
def EA (X:Nat->Prop) (w:World) (p:World->Prop):Prop := ∀w':World,(∀k,k<w.heap.size->¬X k->w'.heap[k]? = w.heap[k]?)->p w'
theorem EA.at{X:Nat->Prop}{w:World}{p:World->Prop}(h:EA X w p):p w:=h w λ_ _ _=>rfl
theorem EA.step{X Y:Nat->Prop}{w w':World}{p:World->Prop}(h:EA X w p)(hs:w.heap.size<=w'.heap.size)(hk:∀k,k<w.heap.size->¬X k->w'.heap[k]? = w.heap[k]?)(a:∀k,k<w.heap.size->Y k->X k):EA Y w' p :=
 λb h2=>h b λk h3 h4=>(h2 k (by omega) (λc=>h4 (a k h3 c))).trans (hk k h3 h4)
theorem EA.kept{X:Nat->Prop}{w w':World}{p:World->Prop}(h:EA X w p)(hB:Below w.heap.size w w'):EA X w' p:=h.step hB.size (λk hk _=>hB.block k hk) (λ_ _ hx=>hx)
theorem EA.less{X Y:Nat->Prop}{w:World}{p:World->Prop}(h:EA X w p)(a:∀k,k<w.heap.size->Y k->X k):EA Y w p:=h.step (Aj _) (λ_ _ _=>rfl) a
def FG {d:Nat} (S:List (List (DH d))) (j:Nat):List (DH d):=S.getD j []
def Im {d:Nat} (w:World) (G:Option Addr->List (DH d)->Prop) (a:Option Addr) (S:List (List (DH d))):Prop :=
 S.length<=maxLen/\∀j,j<S.length->∃b o A C,a=some ⟨b,o,none⟩/\w.cell? ⟨b,o+j,none⟩=some (.slice A (FG S j).length C)/\(FG S j).length<=C/\G A (FG S j)
def Dg (w:World):(d:Nat)->Option Addr->List (DH d)->Prop
 | 0,_,_=>True
 | d+1,a,L=>L.length<=maxLen/\∀i,i<L.length->∃b o A C A2 C2,a=some ⟨b,o,none⟩/\w.cell? ⟨b,o+i*6,none⟩=some (.string (Fp (Ei L i)))/\w.cell? ⟨b,o+i*6+1,none⟩=some (.int .i64 (Fq (Ei L i)))/\w.cell? ⟨b,o+i*6+2,none⟩=some (.bool (Fo (Ei L i))) /\
   w.cell? ⟨b,o+i*6+3,none⟩=some (.string (Fm (Ei L i)))/\w.cell? ⟨b,o+i*6+4,none⟩=some (.slice A (Fr (Ei L i)).length C)/\w.cell? ⟨b,o+i*6+5,none⟩=some (.slice A2 (DN (Ei L i)).length C2) /\
   (Fr (Ei L i)).length<=C/\(DN (Ei L i)).length<=C2/\Dg w d A (Fr (Ei L i))/\Im w (Dg w d) A2 (DN (Ei L i))
theorem Dg.none{w:World}{d:Nat}{a:Option Addr}:Dg w d a []:=by
 cases d with
 |zero=>trivial
 |succ d=>exact⟨Ai _,λi hi=>absurd hi (Ak _)⟩
theorem Im.none{d:Nat}{w:World}{G:Option Addr->List (DH d)->Prop}{a:Option Addr}:Im w G a []:=⟨Ai _,λ_ hi=>absurd hi (Ak _)⟩
theorem Dg.kept{w w':World}(hB:Below w.heap.size w w'):∀{d:Nat} {a:Option Addr} {L:List (DH d)},Dg w d a L->Dg w' d a L
 | 0,_,_,_=>trivial
 | _+1,_,_,h=>⟨h.1,λi hi=>let ⟨b,o,A,C,A2,C2,e,c0,c1,c2,c3,c4,c5,l1,l2,hs,hss⟩:=h.2 i hi
  ⟨b,o,A,C,A2,C2,e,BR hB c0,BR hB c1,BR hB c2,BR hB c3,BR hB c4,BR hB c5,l1,l2,Dg.kept hB hs,hss.1,λj c=>let ⟨b2,o2,A3,C3,e2,d0,l3,h3⟩:=hss.2 j c;⟨b2,o2,A3,C3,e2,BR hB d0,l3,Dg.kept hB h3⟩⟩⟩
theorem Fi{X:Nat->Prop}{w:World}{d:Nat}{a:Option Addr}:EA X w (λw=>Dg w d a []):=λ_ _=>Dg.none
theorem Fg{X:Nat->Prop}{w:World}{d:Nat}{a:Option Addr}:EA X w (λw=>Im w (Dg w d) a []):=λ_ _=>Im.none
structure GotV (X:Nat->Prop) (w:World) {d:Nat} (g:DH (d+1)) (A:Option Addr) (C:Nat) (A2:Option Addr) (C2:Nat):Prop where
 c:(Fr g).length<=C
 c2:(DN g).length<=C2
 sub:EA X w (λw=>Dg w d A (Fr g))
 subs:EA X w (λw=>Im w (Dg w d) A2 (DN g))
theorem GotV.step{X Y:Nat->Prop}{w w':World}{d:Nat}{g:DH (d+1)}{A:Option Addr}{C:Nat}{A2:Option Addr}{C2:Nat}(h:GotV X w g A C A2 C2)(hs:w.heap.size<=w'.heap.size)(hk:∀k,k<w.heap.size->¬X k->w'.heap[k]? = w.heap[k]?)(a:∀k,k<w.heap.size->Y k->X k):GotV Y w' g A C A2 C2 :=
 ⟨h.c,h.c2,h.sub.step hs hk a,h.subs.step hs hk a⟩
theorem GotV.kept{X:Nat->Prop}{w w':World}{d:Nat}{g:DH (d+1)}{A:Option Addr}{C:Nat}{A2:Option Addr}{C2:Nat}(h:GotV X w g A C A2 C2)(hB:Below w.heap.size w w'):GotV X w' g A C A2 C2:=h.step hB.size (λk hk _=>hB.block k hk) (λ_ _ hx=>hx)
def Nf {d:Nat} (g:DH (d+1)) (v u:Value):List Value:=[.string (Fp g),.int .i64 (Fq g),.bool (Fo g),.string (Fm g),v,u]
def JL {d:Nat} (g:DH (d+1)) (A:Option Addr) (C:Nat) (A2:Option Addr) (C2:Nat):Value:=.agg #[.string (Fp g),.int .i64 (Fq g),.bool (Fo g),.string (Fm g),.slice A (Fr g).length C,.slice A2 (DN g).length C2]
def Fh {d:Nat} (L:List (DH (d+1))) (a sv:Nat->Value) (j:Nat):Value :=
 if j % 6=0 then .string (Fp (Ei L (j / 6))) else if j % 6=1 then .int .i64 (Fq (Ei L (j / 6))) else if j % 6=2 then .bool (Fo (Ei L (j / 6))) else if j % 6=3 then .string (Fm (Ei L (j / 6))) else if j % 6=4 then a (j / 6) else sv (j / 6)
theorem L3{d:Nat}{L:List (DH (d+1))}{p:DH (d+1)}{q:Nat}(h:q<L.length):Ei (L++[p]) q=Ei L q:=by simp[Ei,List.getD,List.getElem?_append,h]
theorem L5{d:Nat}{L:List (DH (d+1))}{p:DH (d+1)}:Ei (L++[p]) L.length=p:=by simp[Ei,List.getD]
theorem MH{d:Nat}(L:List (DH (d+1)))(p:DH (d+1))(a sv:Nat->Value)(v u:Value):(List.range ((L.length+1)*6)).map (Fh (L++[p]) (λi=>if i=L.length then v else a i) (λi=>if i=L.length then u else sv i))=(List.range (L.length*6)).map (Fh L a sv)++Nf p v u:=by
 rw[show (L.length+1)*6=L.length*6+1+1+1+1+1+1 by omega,AA,AA,AA,AA,AA,AA];simp only[AH,AG,AI,AR];have e1:(List.range (L.length*6)).map (Fh (L++[p]) (λi=>if i=L.length then v else a i) (λi=>if i=L.length then u else sv i))=(List.range (L.length*6)).map (Fh L a sv):=by
  refine BB λj b=>?_;have c:j<L.length*6:=by simpa using b
  unfold Fh;have e:(λi=>if i=L.length then v else a i) (j / 6)=a (j / 6):=Ae (by omega)
  have g:(λi=>if i=L.length then u else sv i) (j / 6)=sv (j / 6):=Ae (by omega)
  rw[L3 (by omega),e,g]
 have e2:(λi=>if i=L.length then v else a i) L.length=v:=Af rfl
 have e3:(λi=>if i=L.length then u else sv i) L.length=u:=Af rfl
 rw[e1];unfold Fh Nf;rw[Af (by omega),Ae (by omega),Af (by omega),Ae (by omega),Ae (by omega),Af (by omega),Ae (by omega),Ae (by omega),Ae (by omega),Af (by omega),Ae (by omega),Ae (by omega),Ae (by omega),Ae (by omega),Af (by omega),Ae (by omega),Ae (by omega),Ae (by omega),Ae (by omega),Ae (by omega),
  show L.length*6 / 6=L.length by omega,show (L.length*6+1) / 6=L.length by omega,show (L.length*6+1+1) / 6=L.length by omega,show (L.length*6+1+1+1) / 6=L.length by omega,show (L.length*6+1+1+1+1) / 6=L.length by omega,show (L.length*6+1+1+1+1+1) / 6=L.length by omega,L5,e2,e3]
 rfl
structure GRow (N0:Nat) {d:Nat} (w:World) (v:Value) (L:List (DH (d+1))) (av sv:Nat->Value):Prop where
 row:B9 w N0 56 6 v L.length (Fh L av sv)
 sub:∀i,i<L.length->∃A C A2 C2,av i= .slice A (Fr (Ei L i)).length C/\sv i= .slice A2 (DN (Ei L i)).length C2/\GotV (λq=>q<N0\/v.ownBlock=some q) w (Ei L i) A C A2 C2
theorem GRow.nil(N0 d:Nat)(w:World)(a sv:Nat->Value):GRow (d:=d) N0 w (.slice none 0 0) [] a sv:=⟨⟨rfl,.inl ⟨rfl,rfl⟩⟩,λ_ hi=>absurd hi (Ak _)⟩
theorem GRow.move{N0 d:Nat}{w w':World}{v:Value}{L:List (DH (d+1))}{b sv:Nat->Value}(h:GRow N0 w v L b sv)(hs:w.heap.size<=w'.heap.size)(hk:∀k,k<w.heap.size->N0<=k->w'.heap[k]? = w.heap[k]?):GRow N0 w' v L b sv :=
 ⟨h.row.at λk a=>hk k (h.row.lt a).2 (h.row.lt a).1,λi hi=>let ⟨A,C,A2,C2,e1,e2,hf⟩:=h.sub i hi;⟨A,C,A2,C2,e1,e2,hf.step hs (λk h1 h2=>hk k h1 (by
  rcases Nat.lt_or_ge k N0 with h3|h3
  ·exact absurd (Or.inl h3) h2
  ·exact h3)) (λk _ hx=>hx)⟩⟩
theorem GRow.kept{N0 d:Nat}{w w':World}{v:Value}{L:List (DH (d+1))}{a sv:Nat->Value}(h:GRow N0 w v L a sv)(hB:Below w.heap.size w w'):GRow N0 w' v L a sv :=
 h.move hB.size λk hk _=>hB.block k hk
theorem GRow.app{N0 d B:Nat}{w w':World}{v j:Value}{L:List (DH (d+1))}{l sv:Nat->Value}{g:DH (d+1)}{A:Option Addr}{C:Nat}{A2:Option Addr}{C2:Nat}(h:GRow N0 w v L l sv)(hf:GotV (λk=>k<B) w g A C A2 C2)(hB:N0<=B)(hv:∀k,v.ownBlock=some k->k<B)(b:w'.ownsRow N0 56 6 j (L.length+1) ((List.range (L.length*6)).map (Fh L l sv)++Nf g (.slice A (Fr g).length C) (.slice A2 (DN g).length C2)))(hg:w.grownBy w' v.ownBlock)(c:j.ownBlock=v.ownBlock\/j.ownBlock=some w.heap.size) :
  GRow N0 w' j (L++[g]) (λi=>if i=L.length then .slice A (Fr g).length C else l i) (λi=>if i=L.length then .slice A2 (DN g).length C2 else sv i):=by
 have m:(L++[g]).length=L.length+1:=by simp
 refine⟨?_,λi hi=>?_⟩
 ·unfold B9;rw[m,MH];exact b
 ·rw[m]at hi
  rcases Nat.lt_succ_iff_lt_or_eq.1 hi with a|a
  ·obtain⟨A1,n,A3,C3,e1,e2,h4⟩:=h.sub i a
   rw[L3 a,Ae (by omega),Ae (by omega)];refine⟨A1,n,A3,C3,e1,e2,h4.step hg.size (λk hk hx=>hg.block k hk (λe=>hx (.inr e.symm))) (λk hk hx=>?_)⟩;rcases hx with hx|hx
   ·exact .inl hx
   ·rcases c with e|e
    ·exact .inr (by rw[<-e];exact hx)
    ·rw[e]at hx;cases hx;omega
  ·subst a
   rw[L5,Af rfl,Af rfl];refine⟨A,C,A2,C2,rfl,rfl,hf.step hg.size (λk hk hx=>hg.block k hk (λe=>hx (hv k e.symm))) (λk hk hx=>?_)⟩;rcases hx with hx|hx
   ·show k<B;omega
   ·rcases c with e|e
    ·exact hv k (by rw[<-e];exact hx)
    ·rw[e]at hx;cases hx;omega
theorem GRow.cells{N0 d:Nat}{w:World}{g cap:Nat}{L:List (DH (d+1))}{b sv:Nat->Value}(a:B9 w N0 56 6 (.slice (some ⟨g,0,none⟩) L.length cap) L.length (Fh L b sv)){i:Nat}(hi:i<L.length) :
  w.cell? ⟨g,i*6,none⟩=some (.string (Fp (Ei L i)))/\w.cell? ⟨g,i*6+1,none⟩=some (.int .i64 (Fq (Ei L i)))/\w.cell? ⟨g,i*6+2,none⟩=some (.bool (Fo (Ei L i)))/\w.cell? ⟨g,i*6+3,none⟩=some (.string (Fm (Ei L i)))/\w.cell? ⟨g,i*6+4,none⟩=some (b i)/\w.cell? ⟨g,i*6+5,none⟩=some (sv i):=by
 have c0:=a.cell (j:=i*6) (by omega);have c1:=a.cell (j:=i*6+1) (by omega);have c2:=a.cell (j:=i*6+2) (by omega);have c3:=a.cell (j:=i*6+3) (by omega);have c4:=a.cell (j:=i*6+4) (by omega);have c5:=a.cell (j:=i*6+5) (by omega);unfold Fh at c0 c1 c2 c3 c4 c5;rw[Af (by omega),show i*6 / 6=i by omega]at c0;rw[Ae (by omega),Af (by omega),show (i*6+1) / 6=i by omega]at c1;rw[Ae (by omega),Ae (by omega),Af (by omega),show (i*6+2) / 6=i by omega]at c2;rw[Ae (by omega),Ae (by omega),Ae (by omega),Af (by omega),show (i*6+3) / 6=i by omega]at c3;rw[Ae (by omega),Ae (by omega),Ae (by omega),Ae (by omega),Af (by omega),show (i*6+4) / 6=i by omega]at c4;rw[Ae (by omega),Ae (by omega),Ae (by omega),Ae (by omega),Ae (by omega),show (i*6+5) / 6=i by omega]at c5;exact⟨c0,c1,c2,c3,c4,c5⟩
theorem GRow.slice{N0 d:Nat}{w:World}{v:Value}{L:List (DH (d+1))}{b sv:Nat->Value}(h:GRow N0 w v L b sv):∃a cap,v= .slice a L.length cap/\L.length<=cap:=h.row.slice
theorem GRow.out{N0 d:Nat}{w:World}{v:Value}{L:List (DH (d+1))}{l sv:Nat->Value}(h:GRow N0 w v L l sv)(m:L.length<=maxLen):∃a cap,v= .slice a L.length cap/\L.length<=cap/\EA (λk=>k<N0) w (λw=>Dg w (d+1) a L):=by
 rcases h.row.shape with⟨e,h0⟩|⟨g,cap,e,hg,hc,-⟩
 ·have:L = []:=AC h0
  subst this;exact⟨none,0,e,Aj _,Fi⟩
 ·subst e
  refine⟨_,cap,rfl,hc,λw' b=>⟨m,λi hi=>?_⟩⟩;obtain⟨A,C,A2,C2,e1,e2,hf⟩:=h.sub i hi;have n:B9 w' N0 56 6 (.slice (some ⟨g,0,none⟩) L.length cap) L.length (Fh L l sv):=h.row.at λk hk=>b k (h.row.lt hk).2 (by
   have:=(h.row.lt hk).1;show ¬k<N0;omega)
  obtain⟨c0,c1,c2,c3,c4,c5⟩:=GRow.cells n hi;rw[e1]at c4;rw[e2]at c5;exact⟨g,0,A,C,A2,C2,rfl,by rw[AL];exact c0,by rw[AL];exact c1,by rw[AL];exact c2,by rw[AL];exact c3,by rw[AL];exact c4,by rw[AL];exact c5,hf.c,hf.c2,hf.sub w' λk hk hx=>b k hk (λj=>hx (.inl j)),hf.subs w' λk hk hx=>b k hk (λj=>hx (.inl j))⟩
structure SRow (N0:Nat) {d:Nat} (w:World) (v:Value) (S:List (List (DH d))) (sv:Nat->Value):Prop where
 row:B9 w N0 26 1 v S.length sv
 sub:∀i,i<S.length->∃A C,sv i= .slice A (FG S i).length C/\(FG S i).length<=C/\EA (λq=>q<N0\/v.ownBlock=some q) w (λw=>Dg w d A (FG S i))
theorem SRow.nil(N0 d:Nat)(w:World)(sv:Nat->Value):SRow (d:=d) N0 w (.slice none 0 0) [] sv:=⟨⟨rfl,.inl ⟨rfl,rfl⟩⟩,λ_ hi=>absurd hi (Ak _)⟩
theorem SRow.move{N0 d:Nat}{w w':World}{v:Value}{S:List (List (DH d))}{sv:Nat->Value}(h:SRow N0 w v S sv)(hs:w.heap.size<=w'.heap.size)(hk:∀k,k<w.heap.size->N0<=k->w'.heap[k]? = w.heap[k]?):SRow N0 w' v S sv :=
 ⟨h.row.at λk a=>hk k (h.row.lt a).2 (h.row.lt a).1,λi hi=>let ⟨A,C,e1,e2,hf⟩:=h.sub i hi;⟨A,C,e1,e2,hf.step hs (λk h1 h2=>hk k h1 (by
  rcases Nat.lt_or_ge k N0 with h3|h3
  ·exact absurd (Or.inl h3) h2
  ·exact h3)) (λk _ hx=>hx)⟩⟩
theorem SRow.kept{N0 d:Nat}{w w':World}{v:Value}{S:List (List (DH d))}{sv:Nat->Value}(h:SRow N0 w v S sv)(hB:Below w.heap.size w w'):SRow N0 w' v S sv :=
 h.move hB.size λk hk _=>hB.block k hk
theorem RA{d:Nat}{S:List (List (DH d))}{p:List (DH d)}{q:Nat}(h:q<S.length):FG (S++[p]) q=FG S q:=by simp[FG,List.getD,List.getElem?_append,h]
theorem R7{d:Nat}{S:List (List (DH d))}{p:List (DH d)}:FG (S++[p]) S.length=p:=by simp[FG,List.getD]
theorem SRow.app{N0 d B:Nat}{w w':World}{v l:Value}{S:List (List (DH d))}{sv:Nat->Value}{g:List (DH d)}{A:Option Addr}{C:Nat}(h:SRow N0 w v S sv)(n:g.length<=C)(hf:EA (λk=>k<B) w (λw=>Dg w d A g))(hB:N0<=B)(hv:∀k,v.ownBlock=some k->k<B)(b:w'.ownsRow N0 26 1 l (S.length+1) ((List.range (S.length*1)).map sv++[.slice A g.length C]))(hg:w.grownBy w' v.ownBlock)(c:l.ownBlock=v.ownBlock\/l.ownBlock=some w.heap.size) :
  SRow N0 w' l (S++[g]) (λi=>if i=S.length then .slice A g.length C else sv i):=by
 have m:(S++[g]).length=S.length+1:=by simp
 refine⟨?_,λi hi=>?_⟩
 ·unfold B9
  rw[m];have e:(List.range ((S.length+1)*1)).map (λi=>if i=S.length then Value.slice A g.length C else sv i)=(List.range (S.length*1)).map sv++[.slice A g.length C]:=by
   rw[Bk,Bk,AA,AH];simp only[AG,AI,BK];rw[CX λj p=>Ae (by omega : ¬j=S.length)]
  rw[e];exact b
 ·rw[m]at hi
  rcases Nat.lt_succ_iff_lt_or_eq.1 hi with a|a
  ·obtain⟨A1,o,e1,e2,h4⟩:=h.sub i a
   rw[RA a,Ae (by omega)];refine⟨A1,o,e1,e2,h4.step hg.size (λk hk hx=>hg.block k hk (λe=>hx (.inr e.symm))) (λk hk hx=>?_)⟩;rcases hx with hx|hx
   ·exact .inl hx
   ·rcases c with e|e
    ·exact .inr (by rw[<-e];exact hx)
    ·rw[e]at hx;cases hx;omega
  ·subst a
   rw[R7,Af rfl];refine⟨A,C,rfl,n,hf.step hg.size (λk hk hx=>hg.block k hk (λe=>hx (hv k e.symm))) (λk hk hx=>?_)⟩;rcases hx with hx|hx
   ·show k<B;omega
   ·rcases c with e|e
    ·exact hv k (by rw[<-e];exact hx)
    ·rw[e]at hx;cases hx;omega
theorem SRow.slice{N0 d:Nat}{w:World}{v:Value}{S:List (List (DH d))}{sv:Nat->Value}(h:SRow N0 w v S sv):∃a cap,v= .slice a S.length cap/\S.length<=cap:=h.row.slice
theorem SRow.out{N0 d:Nat}{w:World}{v:Value}{S:List (List (DH d))}{sv:Nat->Value}(h:SRow N0 w v S sv)(l:S.length<=maxLen):∃a cap,v= .slice a S.length cap/\S.length<=cap/\EA (λk=>k<N0) w (λw=>Im w (Dg w d) a S):=by
 rcases h.row.shape with⟨e,h0⟩|⟨g,cap,e,hg,hc,-⟩
 ·have:S = []:=AC h0
  subst this;exact⟨none,0,e,Aj _,Fg⟩
 ·subst e
  refine⟨_,cap,rfl,hc,λw' b=>⟨l,λi hi=>?_⟩⟩;obtain⟨A,C,e1,e2,hf⟩:=h.sub i hi;have m:B9 w' N0 26 1 (.slice (some ⟨g,0,none⟩) S.length cap) S.length sv:=h.row.at λk hk=>b k (h.row.lt hk).2 (by
   have:=(h.row.lt hk).1;show ¬k<N0;omega)
  have c0:=m.cell (j:=i) (by omega);rw[e1]at c0;exact⟨g,0,A,C,rfl,by rw[AL];exact c0,e2,hf w' λk hk hx=>b k hk (λc=>hx (.inl c))⟩
theorem SRow.first{N0 d:Nat}{w:World}{v:Value}{S:List (List (DH d))}{sv:Nat->Value}(h:SRow N0 w v S sv)(hS:0<S.length):∃g cap A C,v= .slice (some ⟨g,0,none⟩) S.length cap/\w.cell? ⟨g,0,none⟩=some (.slice A (FG S 0).length C)/\(FG S 0).length<=C/\EA (λk=>k<N0) w (λw=>Dg w d A (FG S 0)):=by
 rcases h.row.shape with⟨e,h0⟩|⟨g,cap,e,hg,hc,-⟩
 ·omega
 ·subst e
  obtain⟨A,C,e1,e2,hf⟩:=h.sub 0 hS;have c0:=h.row.cell (j:=0) (by omega);rw[e1]at c0;exact⟨g,cap,A,C,rfl,c0,e2,hf.less λk _ hx=>.inl hx⟩
end Go.Proofs.YtjjggefmmeminabGreat
