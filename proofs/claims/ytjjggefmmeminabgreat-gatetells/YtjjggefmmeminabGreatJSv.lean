import Derived.Maps.OwnSet
import Derived.Test.YtjjggefmmeminabGreatJGp
import Derived.Deep.Strs
set_option maxRecDepth 100000
set_option maxHeartbeats 4000000
namespace Go.Proofs.YtjjggefmmeminabGreat
open Go.RowKit Go.Sort
theorem TT{need old:Nat}(h:old<need):4*Builtin.nextslicecap need old<=5*need+768:=by
 unfold Builtin.nextslicecap;split
 ·omega
 ·split
  ·omega
  ·rw[growBy_four]
   repeat' split
   all_goals omega
theorem Oh{need old bytes:Nat}(h:old<need)(hb:(5*need+768)*bytes<=1125899906842624):Builtin.nextslicecap need old*bytes<=281474976710656:=by
 have h1:=Nat.mul_le_mul_right bytes (TT h);rw[Nat.mul_assoc]at h1;omega
theorem B9.far{P:Program}{w:World}{base e size n:Nat}{v:Value}{f : Nat->Value}(K:B9 w base e size v n f)(t ty:TypeId)(i:TypeInfo)(z:Value)(bytes:Nat)(L:P.underlying t=some (.slice e))(hi:P.info? e=some i)(hz:i.zero=some z)(C:i.size=size)(W:i.bytes=bytes)(X:z.cells.size=size)(Y:0<size)(s:Option Addr)(m c:Nat)(g:Nat->Value)(x:∀j,j<m*size->∃b o,s=some ⟨b,o,none⟩/\w.cell? ⟨b,o+j,none⟩=some (g j))(hnil:s=none->m=0)(h1:∀j,j<m*size->(g j).oneCell'=true)(M:n+m<=maxLen)(p:(5*(n+m)+768)*bytes<=1125899906842624)(D:base<=w.heap.size) :
  ∃S w',(Builtin.append_ #[t,t] ty #[v,.slice s m c]).run P w= .ok S w'/\B9 w' base e size S (n+m) (λj=>if j<n*size then f j else g (j - n*size))/\w.grownBy w' v.ownBlock/\(S.ownBlock=v.ownBlock\/S.ownBlock=some w.heap.size):=by
 subst C;subst W;have d:(List.range ((n+m)*i.size)).map (λj=>if j<n*i.size then f j else g (j - n*i.size))=(List.range (n*i.size)).map f++(List.range (m*i.size)).map g:=by
  rw[Nat.add_mul,List.range_add,AH,List.map_map,CX (λj J=>Af J:∀j,j<n*i.size->(if j<n*i.size then f j else g (j - n*i.size))=f j)]
  refine congrArg _ (BB λj _=>?_);simp;intro h;omega
 have T:n+m<=9223372036854775807:=by simp only[maxLen]at M;omega
 generalize E:(List.range (m*i.size)).map g=a at d;have F:a.length=m*i.size:=by rw[<-E];simp
 have Z:∀u∈a,u.oneCell'=true:=by
  intro u G;rw[<-E]at G;obtain⟨j,J,rfl⟩:=List.mem_map.1 G;exact h1 j (by simpa using J)
 by_cases hm:m=0
 ·subst hm
  have aa:a = []:=AC (by simpa using F);refine⟨v,w,?_,?_,⟨rfl,rfl,rfl,Aj _,λ_ _ _=>rfl⟩,.inl rfl⟩
  ·rcases K.2 with⟨rfl,rfl⟩|⟨B,cap,cur,rfl,_,_,N,_⟩
   ·cases s<;>simp[Builtin.append_,run_underlying L,sizeOf,typeInfo,hi,Builtin.lenOf,Builtin.firstCells,loadCells,loadCellsFrom]
   ·cases s<;>simp[Builtin.append_,run_underlying L,sizeOf,typeInfo,hi,Builtin.lenOf,Builtin.firstCells,loadCells,loadCellsFrom,N,storeCells]
  ·unfold B9
   rw[d,aa,Bm];exact K
 ·have ab:0<m*i.size:=Nat.mul_pos (by omega) Y
  obtain⟨U,V,ac,-⟩:=x 0 ab;subst ac;have y:∀j u,a[j]? = some u->w.cell? ((⟨U,V,none⟩:Addr).add j)=some u:=by
   intro j u G;rw[<-E]at G;have J:j<m*i.size:=by
    have:=(List.getElem?_eq_some_iff.1 G).1;simpa using this
   obtain⟨b,o,e,hc⟩:=x j J;cases e;rw[AO,hc];rw[AV,AQ J]at G;simpa using G
  have q:((List.range (n*i.size)).map f++a).length=(n+m)*i.size:=by rw[Ay,F,Nat.add_mul];simp
  have A:∀old,old<n+m->∀O:Option Nat,
    (w.drew.alloc (.cells (((List.range (n*i.size)).map f).toArray++a.toArray++Builtin.zeroCells z.cells (grownCap w (n+m) old e - (n+m))) e)).ownsRow base e i.size (.slice (some ⟨w.heap.size,0,none⟩) (n+m) (grownCap w (n+m) old e)) (n+m) ((List.range (n*i.size)).map f++a) /\
    w.grownBy (w.drew.alloc (.cells (((List.range (n*i.size)).map f).toArray++a.toArray++Builtin.zeroCells z.cells (grownCap w (n+m) old e - (n+m))) e)) O:=by
   intro old ho O;refine⟨⟨q,.inr ⟨w.heap.size,_,_,rfl,D,Ap w.drew _,grownCap_ge w (n+m) old e,grownCap_le_maxLen w (n+m) old e M,?_,?_⟩⟩,⟨rfl,rfl,rfl,by simp,λk hk _=>A5 _ _ _ hk⟩⟩
   ·have:=grownCap_ge w (n+m) old e
    simp only[Array.size_append,List.size_toArray,size_zeroCells,X,F,A6,Bu,<-Nat.add_mul];congr 1;omega
   ·simp only[Array.toList_append,AR]
    rw[<-AR,<-q];exact List.take_left
  unfold B9;rw[d];rcases K.2 with⟨rfl,rfl⟩|⟨B,cap,cur,rfl,ad,hg,N,ae,af,H⟩
  ·have Q:=run_append_nil (P:=P) w t ty e i z L hi hz ⟨U,V,none⟩ m c a F y (by omega) (by omega) (by have:=Oh (need:=0+m) (old:=0) (bytes:=i.bytes) (by omega) p;rw[AL,nextslicecap_zero (by omega)]at this;exact this)
   have r:=A 0 (by omega) (Value.ownBlock (.slice none 0 0));simp only[Nat.zero_mul,List.range_zero,AI,AL,List.nil_append,Array.empty_append]at r ⊢;exact⟨_,_,Q,r.1,r.2,Or.inr rfl⟩
  ·by_cases l:n+m<=cap
   ·have R:n*i.size+a.length<=cur.size:=by rw[F,af,<-Nat.add_mul];exact Nat.mul_le_mul_right _ l
    have Q:=run_append_room (P:=P) w t ty e i L hi B n cap cur hg ⟨U,V,none⟩ m c a F y Z l R;refine⟨_,_,Q,⟨q,.inr ⟨B,cap,_,rfl,ad,setRow_heap w B cur _ e _ hg,l,ae,?_,?_⟩⟩,⟨rfl,rfl,rfl,by simp,λk _ hk=>setRow_other w B k _ (λe=>hk (by simp[Value.ownBlock,e]))⟩,Or.inl rfl⟩
    ·simp only[List.size_toArray,Ay,Bb,List.length_drop,Array.length_toList]
     omega
    ·rw[H,<-q]
     exact List.take_left
   ·have I:∀j u,((List.range (n*i.size)).map f)[j]? = some u->w.cell? ((⟨B,0,none⟩:Addr).add j)=some u:=World.ownsRow.cells K (g:=B) rfl
    have Q:=run_append_grow (P:=P) w t ty e i z L hi hz ⟨B,0,none⟩ n cap _ K.1 I ⟨U,V,none⟩ m c a F y (by omega) (by omega) (Oh (by omega) p);have r:=A cap (by omega) (Value.ownBlock (.slice (some ⟨B,0,none⟩) n cap));exact⟨_,_,Q,r.1,r.2,Or.inr rfl⟩
theorem Ew{P:Program}(w:World){c:Array Oper}{rest:List Oper}{o:Oper}{a:Act}{Q:Exit->Act->World->Prop}(hgd:o.guard=none)(s x:Operand)(t:TypeId)(ho:o.op= .call { callee:=.builtin .append,args:=#[s,x],argTypes:=#[t,t] })(v u:Value)(hs:a.eval s=v)(hx:a.eval x=u)(R:Value->World->Prop)(d:∀ty,∃b w',(Builtin.append_ #[t,t] ty #[v,u]).run P w= .ok b w'/\R b w')(h:∀b w',R b w'->wpList P c Q rest (a.put o.dst b) w'):wpList P c Q (o :: rest) a w:=by
 refine wpList_plain hgd λK e=>?_;obtain⟨b,w',d,h2⟩:=d o.type;unfold Oper.wp execOp;simp only[ho,resolve,invoke,builtin,Sem.run_bind,Sem.run_pure,Result.andThen_ok,AJ,AG,AI,hs,hx,d];exact e _ _ (h b w' h2)
theorem JJ{P:Program}{c:Array Oper}{o:Oper}{a:Act}{w:World}{K:Act->World->Prop}{Q:Exit->Act->World->Prop}{E:Prop}(hgd:o.guard=none)(s x:Operand)(t:TypeId)(ho:o.op=Op.call { callee:=Callee.builtin Builtin.append,args:=#[s,x],argTypes:=#[t,t] })(v u:Value)(hs:a.eval s=v)(hx:a.eval x=u)(R:Value->World->Prop)(d:∀ty,∃b w',(Builtin.append_ #[t,t] ty #[v,u]).run P w= .ok b w'/\R b w')(e:∀b w',R b w'->K (a.put o.dst b) w'):if Region.wanted o (yielded c a.tmps)=true then Oper.wp P o a w K Q else E:=by
 have g:Region.wanted o (yielded c a.tmps)=true:=by simp[Region.wanted,hgd]
 rw[Af g];obtain⟨b,w',d,h2⟩:=d o.type;unfold Oper.wp;simp[execOp,ho,resolve,invoke,builtin,hs,hx,d,Result.andThen];exact e b w' h2
structure Steady (ts:Nat->Bool) (base:Nat) (w w':World):Prop where
 below:Below base w w'
 keep:∀b,b<w.heap.size->(∀cs t fz,w.heap[b]? = some (.cells cs t fz)->ts t=false)->w'.heap[b]? = w.heap[b]?
theorem Steady.trans{ts:Nat->Bool}{base:Nat}{w a c:World}(h:Steady ts base w a)(d:Steady ts base a c):Steady ts base w c :=
 ⟨h.below.trans d.below,λb hb hc=>by
  have e:=h.keep b hb hc;exact(d.keep b (Ah hb h.below.size) (λg t i ho=>hc g t i (e ▸ ho))).trans e⟩
theorem Steady.mono{ts a:Nat->Bool}{base:Nat}{w w':World}(h:Steady ts base w w')(c:∀t,ts t=true->a t=true):Steady a base w w' :=
 ⟨h.below,λb hb hc=>h.keep b hb λd t g ho=>by
  cases e:ts t
  ·rfl
  ·rw[<-hc d t g ho,c t e]⟩
theorem Il{ts:Nat->Bool}{base:Nat}{w w':World}(h:Below w.heap.size w w')(hb:base<=w.heap.size):Steady ts base w w' :=
 ⟨h.mono hb,λb hb _=>h.block b hb⟩
theorem Fl{ts:Nat->Bool}{base e size n:Nat}{w w':World}{v:Value}{f : Nat->Value}(c:B9 w base e size v n f)(he:ts e=true)(hg:w.grownBy w' v.ownBlock)(hb:base<=w.heap.size):Steady ts base w w':=by
 refine⟨⟨hg.os,hg.tape,hg.output,hg.size,λk hk=>hg.block k (by omega) (λe=>by have:=(c.lt e.symm).1;omega)⟩,λb a hc=>hg.block b a λe=>?_⟩;obtain⟨d,ho⟩:=c.obj e.symm;rw[hc _ _ _ ho]at he;cases he
theorem E0{ts:Nat->Bool}{base e b o:Nat}{w:World}{c:Array Value}{d:Nat × Nat}(ho:w.heap[b]? = some (.cells c e d))(he:ts e=true)(hb:base<=b)(u:Value):Steady ts base w (w.setCell ⟨b,o,none⟩ u):=by
 refine⟨⟨rfl,rfl,rfl,by simp,λk hk=>Al _ _ _ _ (by show k≠b;omega)⟩,λk hk hc=>Al _ _ _ _ λa=>?_⟩;have a:k=b:=a;subst a;rw[hc _ _ _ ho]at he;cases he
theorem B9.steady{ts:Nat->Bool}{base a e size n:Nat}{w w':World}{v:Value}{f : Nat->Value}(b:B9 w a e size v n f)(h:Steady ts base w w')(he:ts e=false):B9 w' a e size v n f :=
 b.at λk hk=>h.keep k (b.lt hk).2 λd t g ho=>by
  obtain⟨cs',c⟩:=b.obj hk;rw[c]at ho;cases ho;exact he
theorem Steady.block{ts:Nat->Bool}{base b t:Nat}{w w':World}{c:Array Value}{d:Nat × Nat}(h:Steady ts base w w')(ho:w.heap[b]? = some (.cells c t d))(e:ts t=false):w'.heap[b]? = some (.cells c t d):=by
 rw[h.keep b (Ag ho) λcs' g fz' a=>by rw[ho]at a;cases a;exact e];exact ho
theorem Tryz.keyed:Maps.Keyed Tryz.prog 9:=Maps.string_keyed Tryz.underlying9
theorem Tryz.zero3(w:World):(zeroValue 3).run Tryz.prog w= .ok (.int .i64 0) w:=by kernel_rfl
def En (w:World) (b n:Nat) (f:ByteArray->Option Int):Prop :=
 ∃D:DataW Unit,w.ownsMap Tryz.prog 9 (plainElem Tryz.prog 3) b n D/\∀s,BY s->Maps.has D (.string s.data.toList)=(f s).isSome/\D.atKey (.string s.data.toList) (.lit (.int .i64 0))= .lit (.int .i64 ((f s).getD 0))
theorem En.made(w:World):En (w.alloc (.map #[] 0)) w.heap.size 0 (λ_=>none) :=
 ⟨.map [],World.ownsMap_made w _ _ _,λ_ _=>⟨rfl,rfl⟩⟩
theorem En.lt{w:World}{b n:Nat}{f : ByteArray->Option Int}(h:En w b n f):b<w.heap.size:=let ⟨_,h,_⟩:=h;h.lt
theorem En.at{w w':World}{b n:Nat}{f : ByteArray->Option Int}(h:En w b n f)(hb:w'.heap[b]? = w.heap[b]?):En w' b n f:=by
 obtain⟨D,⟨c,a,h1,h2⟩,h3⟩:=h;exact⟨D,⟨c,a,hb.trans h1,h2⟩,h3⟩
theorem En.kept{w w':World}{b n:Nat}{f : ByteArray->Option Int}(h:En w b n f)(hB:Below w.heap.size w w'):En w' b n f:=h.at (hB.block b h.lt)
theorem En.congr{w:World}{b n:Nat}{f g:ByteArray->Option Int}(h:En w b n f)(e:∀s,BY s->f s=g s):En w b n g:=by
 obtain⟨D,h1,h2⟩:=h;exact⟨D,h1,λs hs=>by rw[<-e s hs];exact h2 s hs⟩
theorem Mj{s:ByteArray}(hs:BY s):keyOf Tryz.prog 9 (.string s)=some (.string s.data.toList):=WideMaps.keyOf_string_mk Tryz.underlying9 hs
theorem En.look{w:World}{b n:Nat}{f : ByteArray->Option Int}(h:En w b n f){s:ByteArray}(hs:BY s):(Instr.lookup 60 (.map (some b)) (.string s) false).run Tryz.prog w= .ok (.int .i64 ((f s).getD 0)) w:=by
 obtain⟨D,h1,h2⟩:=h;obtain⟨c,a,hc,-⟩:=h1.lookup_int Tryz.keyed Tryz.underlying60 Tryz.underlying3 (Tryz.zero3 w) (Mj hs);rw[(h2 s hs).2]at hc;cases hc;exact a
theorem En.look_ok{w:World}{b n:Nat}{f : ByteArray->Option Int}(h:En w b n f){s:ByteArray}(hs:BY s):(Instr.lookup 60 (.map (some b)) (.string s) true).run Tryz.prog w= .ok (.tuple #[.int .i64 ((f s).getD 0),.bool (f s).isSome]) w:=by
 obtain⟨D,h1,h2⟩:=h;obtain⟨v,ps,d,hc⟩:=h1.look_ok Tryz.keyed Tryz.underlying60 (Tryz.zero3 w) (plainElem_int Tryz.underlying3 (by decide)) (Mj hs);obtain⟨c,rfl,a,-⟩:=plainElem_int_inv Tryz.underlying3 hc;rw[(h2 s hs).2]at a;cases a;rw[(h2 s hs).1]at d;exact d
theorem Tk{s u:ByteArray}(h:s.data.toList=u.data.toList):s=u:=Ch.1 (by unfold eqs;rw[h];simp)
theorem En.store{w:World}{b n:Nat}{f : ByteArray->Option Int}(h:En w b n f)(hn:n<maxLen){s:ByteArray}(hs:BY s){x:Int}(hx:(Lit.int .i64 x).wf=true) :
  ∃w',(Instr.mapUpdate 60 (.map (some b)) (.string s) (.int .i64 x)).run Tryz.prog w= .ok () w'/\En w' b (n+1) (λu=>if eqs u s then some x else f u)/\w.mapTurned w' b:=by
 obtain⟨D,h1,h2⟩:=h;have c:=h1.isMap;obtain⟨w',d,h3,h4⟩:=h1.store Tryz.keyed Tryz.underlying60 hn (Mj hs) (plainElem_int Tryz.underlying3 hx);refine⟨w',d,⟨_,h3,λu g=>?_⟩,h4⟩
 by_cases e:u=s
 ·subst e
  have hk:WideAt.IsKeyLit (.string u.data.toList):=by simp[WideAt.IsKeyLit]
  simp only[Af (Ch.2 (rfl:u=u))];rw[Maps.has_put_same c hk,Maps.atKey_put_same c hk];exact⟨rfl,rfl⟩
 ·have a:(Lit.string u.data.toList)≠.string s.data.toList:=λh=>e (Tk (by simpa using h))
  have i:eqs u s=false:=by
   cases h:eqs u s
   ·rfl
   ·exact absurd (Ch.1 h) e
  simp only[i];rw[Maps.has_put_other a,Maps.atKey_put_other a];exact h2 u g
def G4 (K:Nat->ByteArray) (k:Nat) (s:ByteArray):Nat:=(List.range k).countP (λj=>eqs (K j) s)
def Eu (K:Nat->ByteArray) (k:Nat) (s:ByteArray):Option Int:=if G4 K k s=0 then none else some (G4 K k s:Int)
theorem RM(K:Nat->ByteArray)(k:Nat)(s:ByteArray):G4 K (k+1) s=G4 K k s+(if eqs (K k) s then 1 else 0):=by
 unfold G4;rw[AA,List.countP_append];simp[List.countP_cons]
theorem T3(K:Nat->ByteArray)(k:Nat)(s:ByteArray):G4 K k s<=k:=by
 unfold G4;have:=List.countP_le_length (p:=λj=>eqs (K j) s) (l:=List.range k);simpa using this
theorem S9(K:Nat->ByteArray)(k:Nat)(s:ByteArray):(Eu K k s).getD 0=(G4 K k s:Int):=by
 unfold Eu;split
 ·rename_i h;rw[h];rfl
 ·rfl
theorem Of(a b:ByteArray):eqs a b=eqs b a:=by
 cases h:eqs b a
 ·cases c:eqs a b
  ·rfl
  ·rw[Ch.1 c,Ch.2 rfl]at h;cases h
 ·rw[Ch.1 h,Ch.2 rfl]
theorem N6(K:Nat->ByteArray)(k:Nat)(s:ByteArray):Eu K (k+1) s=if eqs s (K k) then some ((G4 K k (K k):Int)+1) else Eu K k s:=by
 unfold Eu;rw[RM,Of];cases h:eqs s (K k)
 ·simp
 ·rw[Ch.1 h]
  simp
theorem Sb(K:Nat->ByteArray)(k:Nat):DU K k=decide (1<(G4 K k (K k):Int)+1):=by
 cases h:DU K k
 ·symm
  rw[Bh];have h0:G4 K k (K k)=0:=by
   unfold G4;rw[List.countP_eq_zero];intro j a hh;exact He.1 h j (by simpa using a) (Ch.1 hh)
  omega
 ·symm
  rw[decide_eq_true_iff];obtain⟨j,a,e⟩:=Ku.1 h;have h0:0<G4 K k (K k):=by
   unfold G4;rw[List.countP_pos_iff];exact⟨j,by simpa using a,Ch.2 e⟩
  omega
theorem NA{x:Int}(h0:0<=x)(h1:x<=9223372036854775807):(Lit.int .i64 x).wf=true:=by
 have h2:IntKind.i64.min = -9223372036854775808:=by decide
 have h3:IntKind.i64.max=9223372036854775807:=by decide
 simp[Lit.wf,h2,h3];omega
structure Asked (w:World) (b m:Nat) (K:Nat->ByteArray) (k:Nat):Prop where
 box:w.heap[b]? = some (.cells #[.map (some m)] 60 (0,0))
 map:En w m k (Eu K k)
theorem Asked.kept{w w':World}{b m:Nat}{K:Nat->ByteArray}{k:Nat}(h:Asked w b m K k)(hB:Below w.heap.size w w'):Asked w' b m K k :=
 ⟨(hB.block b (Ag h.box)).trans h.box,h.map.kept hB⟩
theorem Asked.ne{w:World}{b m:Nat}{K:Nat->ByteArray}{k:Nat}(h:Asked w b m K k):b≠m:=by
 rintro rfl;obtain⟨D,⟨c,a,h1,-⟩,-⟩:=h.map;rw[h.box]at h1;cases h1
theorem Lx{w c d:World}{m:Option Nat}(h:w.grownBy c m)(a:c.grownBy d m):w.grownBy d m :=
 ⟨a.os.trans h.os,a.tape.trans h.tape,a.output.trans h.output,Am h.size a.size,λk hk b=>(a.block k (Ah hk h.size) b).trans (h.block k hk b)⟩
theorem L4(K:Nat->ByteArray)(w:World):Calls Tryz.prog 131 #[] w λe w' => ∃b m,e= .returned (.func (.func 149) #[] #[.pointer (some ⟨b,0,none⟩)])/\w.heap.size<=b/\w.heap.size<=m/\Asked w' b m K 0/\Below w.heap.size w w':=by
 have a:=zm;have c:=@run_makeMap Tryz.prog
 go_enter Tryz.func131,Tryz.ntmps131
 go_wp2_with fail
 go_ret;refine⟨_,_,rfl,by omega,Aj _,⟨?_,?_⟩,CN _ _ _⟩
 ·exact(show w.heap.size+1=(w.alloc (Obj.map #[] 0)).heap.size by simp) ▸ Ap _ _
 ·exact(En.made w).kept (BW _ _)
theorem Ka(b m k:Nat)(K:Nat->ByteArray)(w:World)(hs:BY (K k))(hk:k<maxLen)(h:Asked w b m K k) :
  Calls Tryz.prog 149 #[.string (K k),.pointer (some ⟨b,0,none⟩)] w λe w'=>e= .returned (.bool (DU K k))/\Asked w' b m K (k+1)/\w.grownBy w' (some m):=by
 have hc:w.cell? ⟨b,0,none⟩=some (.map (some m)):=by simp[World.cell?,h.box]
 have o:=h.map.look hs;rw[S9]at o;have p:=T3 K k (K k);have q:k<9223372036854775807:=hk;obtain⟨g,r,i,j⟩:=h.map.store hk hs (x:=(G4 K k (K k):Int)+1) (NA (by omega) (by omega));have n:w.grownBy g (some m):=j.grown;have a:=(n.block b (Ag h.box) (λe=>h.ne (by cases e;rfl))).trans h.box;have u:g.cell? ⟨b,0,none⟩=some (.map (some m)):=by simp[World.cell?,a]
 have d:En g m (k+1) (Eu K (k+1)):=i.congr λs _=>(N6 K k s).symm;have l:=d.look hs;rw[N6,Ch.2 rfl]at l;simp only[BK,Option.getD_some]at l;have v:Hid (Asked g b m K (k+1)/\w.grownBy g (some m)):=⟨⟨a,d⟩,n⟩;have y:Hid (DU K k=decide (1<(G4 K k (K k):Int)+1)):=Sb K k;clear h i d j n a;generalize G4 K k (K k)=c at *
 go_enter Tryz.func149,Tryz.ntmps149
 go_wp2_with fail
 go_ret;exact⟨by rw[y.out];rfl,v.out⟩
theorem B9.lower{w:World}{base a e size n:Nat}{v:Value}{f : Nat->Value}(h:B9 w base e size v n f)(hb:a<=base):B9 w a e size v n f:=by
 refine⟨h.1,?_⟩;rcases h.2 with h|⟨g,cap,cur,hv,hg,r⟩
 ·exact .inl h
 ·exact .inr ⟨g,cap,cur,hv,Am hb hg,r⟩
def U1:LVal:=⟨⟨#[]⟩,⟨#[]⟩,none,0,0,λ_=>⟨#[]⟩⟩
def FV (L:List LVal) (i:Nat):LVal:=L.getD i U1
theorem FQ{L M:List LVal}{i:Nat}(h:i<L.length):FV (L++M) i=FV L i:=by
 unfold FV;simp[List.getD_eq_getElem?_getD,List.getElem?_append_left h]
theorem FU(L:List LVal)(y:LVal):FV (L++[y]) L.length=y:=by
 unfold FV;simp[List.getD_eq_getElem?_getD]
def GM (y:LVal) (u:Value) (j:Nat):Value:=if j=0 then .string y.field else if j=1 then .string y.text else u
def FA (L:List LVal) (kv:Nat->Value) (j:Nat):Value:=GM (FV L (j / 3)) (kv (j / 3)) (j % 3)
theorem Pk{y:LVal}{u:Value}(h:u.oneCell'=true)(j:Nat):(GM y u j).oneCell'=true:=by
 unfold GM;split
 ·rfl
 ·split
  ·rfl
  ·exact h
def UF (t:Nat):Bool:=t==4 || t==86 || t==127 || t==120
def U9 (t:Nat):Bool:=t==120
def U7 (t:Nat):Bool:=t==4 || t==86 || t==127
theorem Ue:∀t,U9 t=true->UF t=true:=λt h=>by simp[U9,UF] at *;simp[h]
theorem Tryz.info120:(Tryz.prog.info? 120).map (λi=>(i.zero,i.size,i.bytes))=some (some (.agg #[.string ⟨#[]⟩,.string ⟨#[]⟩,.slice none 0 0]),3,56):=by kernel_rfl
theorem B9.one{P:Program}{w:World}{base e size n:Nat}{v:Value}{f : Nat->Value}(c:Array Value)(s:B9 w base e size v n f)(k:base<=w.heap.size)(t:TypeId)(i:TypeInfo)(z:Value)(bytes:Nat)(u:P.underlying t=some (.slice e))(hi:P.info? e=some i)(x:i.zero=some z)(b:i.size=size)(l:i.bytes=bytes)(o:z.cells.size=size)(p:0<size)(g:Nat->Value)(q:∀j,j<size->c[j]? = some (g j))(h1:∀j,j<size->(g j).oneCell'=true)(r:n+1<=maxLen)(a:(5*(n+1)+768)*bytes<=1125899906842624){m:Nat}(y:m=w.heap.size)(ty:TypeId) :
  ∃d w',(Builtin.append_ #[t,t] ty #[v,.slice (some ⟨m,0,none⟩) 1 1]).run P (w.alloc (.cells c e))= .ok d w'/\B9 w' base e size d (n+1) (λj=>if j<n*size then f j else g (j - n*size))/\(w.alloc (.cells c e)).grownBy w' v.ownBlock:=by
 subst y;obtain⟨d,w',h1,h2,h3,-⟩:=(s.kept (BW w (.cells c e))).far t ty i z bytes u hi x b l o p (some ⟨w.heap.size,0,none⟩) 1 1 g
  (λj A=>⟨w.heap.size,0,rfl,by rw[Ac _ _ _ _ rfl,AL];simpa using q j (by omega)⟩) (λh=>by cases h) (λj A=>h1 j (by omega)) r a (by simp;omega)
 exact⟨d,w',h1,h2,h3⟩
def KD (x:LThing):Value:=.agg #[.string x.type,.string x.key,.slice x.va x.nv x.vcap]
theorem QX{x:LThing}{nf k j:Nat}{F:Nat->ByteArray}(hF:∀i,i<nf->DU F i=false)(hk:k<nf)(a:j<=x.nv):(Dw x k F++Ea x (F k) j).length<=x.nv:=by
 have h1:=PN x (F k) a;have h2:=Pt x F (k:=k+1) (m:=nf) (by omega);have h3:=Jh (x:=x) hF;rw[F3,Ay]at h2;rw[Ay];omega
theorem Sv{w:World}{B:Nat}(hB:B<=w.heap.size){a:Option Addr}{n cap:Nat}{K:Nat->ByteArray}(h:CF w a n K)(hn:n*16<=140737488355328)(ty:TypeId) :
  ∃u w',(Builtin.append_ #[65,65] ty #[.slice none 0 0,.slice a n cap]).run Tryz.prog w= .ok u w'/\B9 w' B 9 1 u n (B3 K)/\Below w.heap.size w w':=by
 obtain⟨l,m,c,d,g⟩:=Cd Tryz.info9;have h0:B9 w B 9 1 (.slice none 0 0) 0 (B3 K):=A4 _ _ _ _;obtain⟨u,w',h1,h2,h3,-⟩:=h0.far 65 ty l _ 16 Tryz.underlying65 m c d g rfl (by decide) a n cap (B3 K) (λj p=>by
  obtain⟨b,o,e,hc,-⟩:=h.2 j (by omega);exact⟨b,o,e,hc⟩) (λe=>by
  by_cases h0:n=0
  ·exact h0
  ·obtain⟨b,o,i,-⟩:=h.2 0 (by omega)
   rw[e]at i;cases i) (λ_ _=>rfl) (by have:=h.1;omega) (by omega) hB
 refine⟨u,w',h1,?_,⟨h3.os,h3.tape,h3.output,h3.size,λk hk=>h3.block k hk (by simp[Value.ownBlock])⟩⟩;rw[AL]at h2;exact h2.congr λj _=>by simp
theorem Tryz.e132:∀args w,(callFunc 132 args).run Tryz.prog w= .ok (.enter 132 args) w:=AN Tryz.func132 (by kernel_rfl) rfl
def Eq (X:Nat->LThing) (typ:ByteArray) (k:Nat) (s:ByteArray):Option Int:=if Ds k (Cf X typ s)<0 then none else some (Ds k (Cf X typ s))
theorem NG(k:Nat)(p:Nat->Bool):Ds (k+1) p=if 0<=Ds k p then Ds k p else if p k then (k:Int) else -1:=by
 rcases CE k p with⟨h,hb⟩|⟨j,a,h,b,hb⟩
 ·rw[h,Ae (by omega)]
  cases hk:p k
  ·rw[Em (λj a=>by
    rcases Nat.lt_succ_iff_lt_or_eq.1 a with h|h
    ·exact hb j h
    ·rw[h];exact hk)]
   rfl
  ·rw[DD (Nat.lt_succ_self k) hk hb];rfl
 ·rw[h,Af (by omega),DD (Nat.lt_succ_of_lt a) b hb]
theorem Jn{X:Nat->LThing}{typ:ByteArray}{k:Nat}(h:eqs (X k).type typ=false\/(Eq X typ k (X k).key).isSome=true)(s:ByteArray):Eq X typ k s=Eq X typ (k+1) s:=by
 unfold Eq at *;rw[NG]
 by_cases h0:0<=Ds k (Cf X typ s)
 ·rw[Af h0]
 ·rw[Ae h0,Af (by omega)]
  have hs:Cf X typ s k=false:=by
   unfold Cf;rcases h with h|h
   ·rw[h];rfl
   ·cases e:eqs (X k).key s
    ·simp
    ·rw[Ch.1 e]at h
     rw[Af (by omega)]at h;cases h
  rw[hs];rfl
theorem P9{X:Nat->LThing}{typ:ByteArray}{k:Nat}(h1:eqs (X k).type typ=true)(h2:(Eq X typ k (X k).key).isSome=false)(s:ByteArray):(if eqs s (X k).key then some (k:Int) else Eq X typ k s)=Eq X typ (k+1) s:=by
 unfold Eq at *;rw[NG];have hs:Cf X typ s k=eqs s (X k).key:=by
  unfold Cf;rw[h1,Of];rfl
 rw[hs];cases e:eqs s (X k).key
 ·by_cases h0:0<=Ds k (Cf X typ s)
  ·rw[Af h0];rfl
  ·rw[Ae h0,Af (show Ds k (Cf X typ s)<0 by omega)];rfl
 ·rw[Ch.1 e]
  have h0:Ds k (Cf X typ (X k).key)<0:=by
   by_cases h:Ds k (Cf X typ (X k).key)<0
   ·exact h
   ·rw[Ae h]at h2;cases h2
  rw[Ae (show ¬0<=Ds k (Cf X typ (X k).key) by omega)];simp only[BK];rw[Ae (show ¬(k:Int)<0 by omega)]
theorem En.more{w:World}{b n:Nat}{f : ByteArray->Option Int}(h:En w b n f):En w b (n+1) f:=by
 obtain⟨D,h1,h2⟩:=h;exact⟨D,h1.mono (BI n),h2⟩
structure Finds (w:World) (bm bt m:Nat) (typ:ByteArray) (s:SServ):Prop where
 boxM:w.heap[bm]? = some (.cells #[.map (some m)] 60 (0,0))
 boxT:w.heap[bt]? = some (.cells #[.slice s.xa s.nx s.xcap] 79 (0,0))
 map:En w m s.nx (Eq s.X typ s.nx)
theorem Finds.kept{w w':World}{a bt m:Nat}{typ:ByteArray}{s:SServ}(h:Finds w a bt m typ s)(hB:Below w.heap.size w w'):Finds w' a bt m typ s :=
 ⟨(hB.block _ (Ag h.boxM)).trans h.boxM,(hB.block _ (Ag h.boxT)).trans h.boxT,h.map.kept hB⟩
def MS (a bt:Nat):Value:=.func (.func 132) #[] #[.pointer (some ⟨a,0,none⟩),.pointer (some ⟨bt,0,none⟩)]
theorem PQ(s:SServ)(typ:ByteArray)(w:World)(U:CZ w s.xa s.nx s.X) :
  Calls Tryz.prog 107 #[.slice s.xa s.nx s.xcap,.string typ] w λe w' => ∃n bt m,e= .returned (MS n bt)/\Finds w' n bt m typ s/\Below w.heap.size w w':=by
 have hmf:=zm;have hmm:=@run_makeMap Tryz.prog;have hn:s.nx<=9223372036854775807:=U.1;have HX:=Aa U;clear U;obtain⟨y,p⟩:∃y,y=s.xa:=⟨_,rfl⟩;have V:=Aa p;rw[<-p]at HX;rw[<-p];clear p
 go_enter Tryz.func107,Tryz.ntmps107
 go_wp2_with fail
 generalize E:((w.alloc (Obj.cells #[Value.slice y s.nx s.xcap] 79)).alloc (Obj.map #[] 0)).alloc (Obj.cells #[Value.map (some (w.heap.size+1))] 60)=W;have F:Below w.heap.size w W:=by rw[<-E];exact FI _ _ _ _
 have G:W.heap[w.heap.size]? = some (.cells #[.slice y s.nx s.xcap] 79 (0,0)):=by
  rw[<-E];exact(A5 _ _ _ (by simp;omega)).trans ((A5 _ _ _ (by simp)).trans (Ap _ _))
 have H:W.heap[w.heap.size+1+1]? = some (.cells #[.map (some (w.heap.size+1))] 60 (0,0)):=by
  rw[<-E];exact(show w.heap.size+1+1=((w.alloc (Obj.cells #[Value.slice y s.nx s.xcap] 79)).alloc (Obj.map #[] 0)).heap.size by simp) ▸ Ap _ _
 have I:En W (w.heap.size+1) 0 (Eq s.X typ 0):=by
  rw[<-E];have h1:=(En.made (w.alloc (Obj.cells #[Value.slice y s.nx s.xcap] 79))).kept (BW _ (Obj.cells #[Value.map (some (w.heap.size+1))] 60));rw[show (w.alloc (Obj.cells #[Value.slice y s.nx s.xcap] 79)).heap.size=w.heap.size+1 by simp]at h1;exact h1.congr λs _=>rfl
 have Y:=Aa F;have J:=Aa G;have K:=Aa H;have L:=Aa I;clear E F G H I;obtain⟨bt,A⟩:∃bt,bt=w.heap.size:=⟨_,rfl⟩;obtain⟨m,T⟩:∃m,m=w.heap.size+1:=⟨_,rfl⟩;obtain⟨n,B⟩:∃n,n=w.heap.size+1+1:=⟨_,rfl⟩;have hmle:w.heap.size<=m:=by omega
 have M:bt≠m:=by omega
 have N:n≠m:=by omega
 rw[<-A]at J;rw[<-B,<-T]at K;rw[<-T]at L;rw[<-B,<-T,<-A];clear A T B
 go_loopw [13] (λi wr => ∃k:Nat,k<=s.nx/\i= .int .i64 k/\wr.heap[bt]? = some (.cells #[.slice y s.nx s.xcap] 79 (0,0))/\wr.heap[n]? = some (.cells #[.map (some m)] 60 (0,0))/\En wr m k (Eq s.X typ k)/\Below w.heap.size w wr) (λi _=>s.nx - (intOf i).toNat)
 case atStart=>exact⟨0,Ai _,rfl,J.out,K.out,L.out,Y.out⟩
 case round =>
  obtain⟨k,hk,rfl,C,O,P,D⟩:=hrel
  by_cases Z:k<s.nx
  ·obtain⟨b,o,rfl,c0,c1,c2,-,-,hs,-⟩:=(HX.out.kept D).2 k Z
   have hlt':(k:Int)<(s.nx:Int):=by omega
   have hk0:(0:Int)<=(k:Int):=by omega
   generalize c:wr.alloc (Obj.cells #[.string (s.X k).type,.string (s.X k).key,.slice (s.X k).va (s.X k).nv (s.X k).vcap] 88)=Q;have g:Below wr.heap.size wr Q:=by rw[<-c];exact BW _ _
   have e0:Q.cell? ⟨wr.heap.size,0,none⟩=some (.string (s.X k).type):=by rw[<-c,Ac _ _ _ _ rfl];rfl
   have e1:Q.cell? ⟨wr.heap.size,1,none⟩=some (.string (s.X k).key):=by rw[<-c,Ac _ _ _ _ rfl];rfl
   have h:=Aa ((g.block _ (Ag C)).trans C);have d:=Aa ((g.block _ (Ag O)).trans O);have j:=Aa (P.kept g);have hm0:Q.cell? ⟨n,0,none⟩=some (.map (some m)):=by simp[World.cell?,d.out]
   have v:=j.out.look_ok hs;have l:Hid (Below w.heap.size w Q):=D.trans (g.mono D.size);have HS:=Aa hs;clear C O P D g hs
   cases hf:Eq s.X typ k (s.X k).key with
   |some r =>
    have z:Hid (∀u,Eq s.X typ k u=Eq s.X typ (k+1) u):=Jn (.inr (by rw[hf];rfl));rw[hf]at v;simp only[Option.getD_some,Option.isSome_some]at v;clear hf;cases he:((s.X k).type.toList==typ.toList)
    ·go_wp2_with fail
     clear c
     go_roundw
     case rel=>exact⟨k+1,by omega,by go_num,h.out,d.out,(j.out.congr λu _=>z.out u).more,l.out⟩
     case measure=>simp[intOf];omega
    ·go_wp2_with fail
     clear c
     go_roundw
     case rel=>exact⟨k+1,by omega,by go_num,h.out,d.out,(j.out.congr λu _=>z.out u).more,l.out⟩
     case measure=>simp[intOf];omega
   |none =>
    rw[hf]at v;simp only[Option.getD_none,Option.isSome_none]at v;cases he:((s.X k).type.toList==typ.toList)
    ·have z:Hid (∀u,Eq s.X typ k u=Eq s.X typ (k+1) u):=Jn (.inl (by rw[<-CT];exact he))
     clear hf
     go_wp2_with fail
     clear c
     go_roundw
     case rel=>exact⟨k+1,by omega,by go_num,h.out,d.out,(j.out.congr λu _=>z.out u).more,l.out⟩
     case measure=>simp[intOf];omega
    ·have z:Hid (∀u,(if eqs u (s.X k).key then some (k:Int) else Eq s.X typ k u)=Eq s.X typ (k+1) u):=P9 (by rw[<-CT];exact he) (by rw[hf];rfl)
     obtain⟨w2,hst,R,S⟩:=j.out.store (by unfold maxLen;omega) HS.out (x:=(k:Int)) (NA (by omega) (by omega));have aa:=Aa (R.congr λu _=>z.out u);have a:=S.grown;have ab:=Aa ((a.block _ (Ag h.out) (λe=>M (by cases e;rfl))).trans h.out);have ac:=Aa ((a.block _ (Ag d.out) (λe=>N (by cases e;rfl))).trans d.out);have ad:Hid (Below w.heap.size w w2):=l.out.trans ⟨a.os,a.tape,a.output,a.size,λq hq=>a.block q (by have:=l.out.size;omega) (λe=>by cases e;omega)⟩;clear hf R S a
     go_wp2_with fail
     clear c
     go_roundw
     case rel=>exact⟨k+1,by omega,by go_num,ab.out,ac.out,aa.out,ad.out⟩
     case measure=>simp[intOf];omega
  ·have ae:k=s.nx:=by omega
   have z:Hid (Finds wr n bt m typ s/\Below w.heap.size w wr):=by
    rw[ae]at P;rw[V.out]at C;exact⟨⟨O,C,P⟩,D⟩
   clear C O P D
   go_wp2_with fail
   go_ret;exact⟨n,bt,m,rfl,z.out⟩
theorem OG(i bt m:Nat)(s:SServ)(typ key:ByteArray)(w:World)(g:CZ w s.xa s.nx s.X)(hk:BY key)(h:Finds w i bt m typ s) :
  Calls Tryz.prog 132 #[.string key,.pointer (some ⟨i,0,none⟩),.pointer (some ⟨bt,0,none⟩)] w λe w'=>e= .returned (.tuple #[KD (Dx s typ key),.bool (FX s typ key)])/\Below w.heap.size w w':=by
 have a:=(h.map.kept (BW w (Obj.cells #[.string ⟨#[]⟩,.string ⟨#[]⟩,.slice none 0 0] 88))).look_ok hk;have p:w.cell? ⟨i,0,none⟩=some (.map (some m)):=by simp[World.cell?,h.boxM]
 have j:w.cell? ⟨bt,0,none⟩=some (.slice s.xa s.nx s.xcap):=by simp[World.cell?,h.boxT]
 have q:=Ag h.boxM;have r:=Ag h.boxT;have hn:s.nx<=9223372036854775807:=g.1;unfold Eq at a;rcases CE s.nx (Cf s.X typ key) with⟨hi,-⟩|⟨k,l,hi,-⟩
 ·obtain⟨f1,c⟩:=Js (s:=s) (typ:=typ) (key:=key) (by rw[hi];decide)
  rw[hi]at a;simp only[show ((-1:Int)<0)=True by simp,BK,Option.getD_none,Option.isSome_none]at a;rw[f1,c];clear f1 c hi h g
  go_enter Tryz.func132,Tryz.ntmps132
  go_wp2_with fail
  exact At (v:=.tuple #[.agg #[.string ⟨#[]⟩,.string ⟨#[]⟩,.slice none 0 0],.bool false]) (by simp[results,Tryz.results132,go_sem]) rfl ⟨rfl,BW _ _⟩
 ·obtain⟨f1,c⟩:=Jy hi
  obtain⟨b,o,d,c0,c1,c2,-⟩:=g.2 k l;rw[hi]at a;rw[Ae (by omega)]at a;simp only[Option.getD_some,Option.isSome_some]at a;rw[f1,c];rw[d]at j;have n:(k:Int)<(s.nx:Int):=by omega
  have u:(0:Int)<=(k:Int):=by omega
  have x:b<w.heap.size:=An c0;clear f1 c hi h g d
  go_enter Tryz.func132,Tryz.ntmps132
  go_wp2_with fail
  exact At (v:=.tuple #[.agg #[.string (s.X k).type,.string (s.X k).key,.slice (s.X k).va (s.X k).nv (s.X k).vcap],.bool true]) (by simp[results,Tryz.results132,go_sem]) rfl ⟨rfl,BW _ _⟩
structure ValRowsO (w:World) (B base:Nat) (v:Value) (L:List LVal) (kv:Nat->Value):Prop where
 row:B9 w B 120 3 v L.length (FA L kv)
 keys:∀i,i<L.length->(FV L i).nk<=maxLen/\B9 w B 9 1 (kv i) (FV L i).nk (B3 (FV L i).K)/\∀j,j<(FV L i).nk->BY ((FV L i).K j)
 good:∀i,i<L.length->BY (FV L i).field/\BY (FV L i).text
theorem MA(w:World)(B base:Nat)(kv:Nat->Value):ValRowsO w B base (.slice none 0 0) [] kv :=
 ⟨A4 _ _ _ _,λ_ hi=>absurd hi (Ak _),λ_ hi=>absurd hi (Ak _)⟩
theorem ValRowsO.lower{w:World}{B B' base:Nat}{v:Value}{L:List LVal}{kv:Nat->Value}(h:ValRowsO w B base v L kv)(hb:B'<=B):ValRowsO w B' base v L kv:=⟨h.row.lower hb,λi hi=>let ⟨h1,h2,h3⟩:=h.keys i hi;⟨h1,h2.lower hb,h3⟩,h.good⟩
theorem ValRowsO.kept{w w':World}{B base:Nat}{v:Value}{L:List LVal}{kv:Nat->Value}(h:ValRowsO w B base v L kv)(hB:Below w.heap.size w w')(_:base<=w.heap.size):ValRowsO w' B base v L kv :=
 ⟨h.row.kept hB,λi hi=>let ⟨h1,h2,h3⟩:=h.keys i hi;⟨h1,h2.kept hB,h3⟩,h.good⟩
theorem ValRowsO.steady{w w':World}{B base:Nat}{v:Value}{L:List LVal}{kv:Nat->Value}(h:ValRowsO w B base v L kv)(hS:Steady U7 base w w'):ValRowsO w' B base v L kv :=
 ⟨h.row.steady hS (by decide),λi hi=>let ⟨h1,h2,h3⟩:=h.keys i hi;⟨h1,h2.steady hS (by decide),h3⟩,h.good⟩
theorem ValRowsO.snoc{w w':World}{B base:Nat}{v c:Value}{L:List LVal}{kv:Nat->Value}(h:ValRowsO w B base v L kv)(hb:base<=B)(hB:B<=w.heap.size){y:LVal}{u:Value}(d:BY y.field/\BY y.text)(b:y.nk<=maxLen/\B9 w B 9 1 u y.nk (B3 y.K)/\∀j,j<y.nk->BY (y.K j))(a:B9 w' B 120 3 c (L.length+1) (λj=>if j<L.length*3 then FA L kv j else GM y u (j - L.length*3)))(hg:w.grownBy w' v.ownBlock):ValRowsO w' B base c (L++[y]) (λi=>if i=L.length then u else kv i):=by
 have hS:Steady UF base w w':=(Fl (ts:=U9) (h.row.lower hb) (by decide) hg (by omega)).mono Ue;refine⟨?_,λi hi=>?_,λi hi=>?_⟩
 ·have e:(L++[y]).length=L.length+1:=by simp
  rw[e];refine a.congr λj g=>?_;unfold FA
  by_cases h1:j<L.length*3
  ·have h2 : ¬j / 3=L.length:=by omega
   simp only[Af h1,Ae h2];rw[FQ (by omega)]
  ·have h2:j / 3=L.length:=by omega
   simp only[Ae h1,h2,BK];rw[FU,show j % 3=j - L.length*3 by omega]
 ·by_cases h1:i=L.length
  ·subst h1
   simp only[BK,FU];exact⟨b.1,b.2.1.steady hS (by decide),b.2.2⟩
  ·have h2:i<L.length:=by simp at hi;omega
   simp only[Ae h1,FQ h2];exact let ⟨h1,h2,h3⟩:=h.keys i h2;⟨h1,h2.steady hS (by decide),h3⟩
 ·by_cases h1:i=L.length
  ·subst h1
   rw[FU];exact d
  ·have h2:i<L.length:=by simp at hi;omega
   rw[FQ h2];exact h.good i h2
theorem RF(x:LThing)(fa:Option Addr)(nf U:Nat)(F:Nat->ByteArray)(w:World)(hX:Ec w x.va x.nv x.V)(hL:M5 x)(hF:CF w fa nf F)(hD:∀i,i<nf->DU F i=false)(base:Nat)(hbase:base<=w.heap.size) :
  Calls Tryz.prog 108 #[KD x,.slice fa nf U] w λe w' => ∃v kv,e= .returned v/\ValRowsO w' w.heap.size base v (Dw x nf F) kv/\Below w.heap.size w w':=by
 obtain⟨iV,vi,vz0,vz1,vz2⟩:=Cd Tryz.info120;obtain⟨iS,si,sz0,sz1,sz2⟩:=Cd Tryz.info9;have hnf:nf<=9223372036854775807:=hF.1;have hnv:x.nv<=9223372036854775807:=hX.1;have hl1:=hL.1;unfold KD;obtain⟨va,G⟩:∃va,va=x.va:=⟨_,rfl⟩;rw[<-G]at hX;rw[<-G];clear G;generalize hW:w.alloc (Obj.cells #[.string x.type,.string x.key,.slice va x.nv x.vcap] 88)=W;have hB:Below w.heap.size w W:=by rw[<-hW];exact BW _ _
 have hWs:w.heap.size<W.heap.size:=by rw[<-hW];simp
 have k2:W.cell? ⟨w.heap.size,2,none⟩=some (.slice va x.nv x.vcap):=by rw[<-hW,Ac _ _ _ _ rfl];rfl
 have HX:=Aa (hX.kept hB);have HF:=Aa (hF.kept hB);have HL:=Aa hL;have HD:=Aa hD;have HB:=Aa hB;clear hX hL hF hD hB
 go_enter Tryz.func108,Tryz.ntmps108
 go_wp2_with fail
 clear hW
 go_loopw [5,12] (λv i wr => ∃k:Nat,k<=nf/\i= .int .i64 k/\(∃kv,ValRowsO wr W.heap.size base v (Dw x k F) kv)/\Below W.heap.size W wr) (λ_ i _=>nf - (intOf i).toNat)
 case atStart=>exact⟨0,Ai _,rfl,⟨λ_=>.slice none 0 0,MA _ _ _ _⟩,Aq _ _⟩
 case round =>
  obtain⟨k,hk,rfl,⟨kv,z⟩,d⟩:=hrel
  by_cases X:k<nf
  ·obtain⟨b,o,rfl,f0,-⟩:=(HF.out.kept d).2 k X
   have hlt':(k:Int)<(nf:Int):=by omega
   have hk0:(0:Int)<=(k:Int):=by omega
   have t2:=BR d k2;have HR:=Aa z;have HW:=Aa d;clear z d
   go_wp2_with fail
   obtain⟨wo,q⟩:∃wo,wo=wr:=⟨_,rfl⟩;rw[<-q]at HR HW;rw[<-q];clear q f0 t2
   go_loopw [5,19] (λv i wr => ∃j:Nat,j<=x.nv/\i= .int .i64 j/\(∃kv,ValRowsO wr W.heap.size base v (Dw x k F++Ea x (F k) j) kv)/\Below W.heap.size W wr) (λ_ i _=>x.nv - (intOf i).toNat)
   case atStart=>exact⟨0,Ai _,rfl,⟨kv,by show ValRowsO _ _ _ _ (Dw x k F++[]) kv;rw[Bm];exact HR.out⟩,HW.out⟩
   case round =>
    obtain⟨j,hj,rfl,⟨H,z⟩,d⟩:=hrel
    by_cases r:j<x.nv
    ·obtain⟨b2,o2,hv2,v0,v1,v2,Y,s1,s2,Z⟩:=(HX.out.kept d).2 j r
     subst hv2;have hltj':(j:Int)<(x.nv:Int):=by omega
     have hj0:(0:Int)<=(j:Int):=by omega
     generalize a:wr.alloc (Obj.cells #[.string (x.V j).field,.string (x.V j).text,.slice (x.V j).ka (x.V j).nk (x.V j).kcap] 120)=g;have I:Below wr.heap.size wr g:=by rw[<-a];exact BW _ _
     have b0:g.cell? ⟨wr.heap.size,0,none⟩=some (.string (x.V j).field):=by rw[<-a,Ac _ _ _ _ rfl];rfl
     have b1:g.cell? ⟨wr.heap.size,1,none⟩=some (.string (x.V j).text):=by rw[<-a,Ac _ _ _ _ rfl];rfl
     have b2:g.cell? ⟨wr.heap.size,2,none⟩=some (.slice (x.V j).ka (x.V j).nk (x.V j).kcap):=by rw[<-a,Ac _ _ _ _ rfl];rfl
     have z2:g.frozen? ⟨wr.heap.size,2,none⟩=false:=by rw[<-a];exact AZ _ _ _ _ rfl
     have hz:wr.heap.size<g.heap.size:=by rw[<-a];simp
     have s:=Aa z;have A:=Aa d;have C:=Aa I;have J:=Aa (Z.kept I);have HSm:=Aa (And.intro s1 s2);have L:W.heap.size<=wr.heap.size:=d.size;clear z d I Z s1 s2 Y;cases he:((x.V j).field.toList==(F k).toList)
     ·have R:Hid (Ea x (F k) (j+1)=Ea x (F k) j):=Jw (by rw[<-CT];exact he)
      go_wp2_with fail
      clear a
      go_roundw
      case rel=>exact⟨j+1,by omega,by go_num,⟨H,by rw[R.out];exact s.out.kept C.out (by omega)⟩,A.out.trans (C.out.mono L)⟩
      case measure=>simp[intOf];omega
     ·have R:Hid (Ea x (F k) (j+1)=Ea x (F k) j++[x.V j]):=KC (by rw[<-CT];exact he)
      have l:=Sv (w:=g) (B:=g.heap.size) (cap:=(x.V j).kcap) (Aj _) J.out (HL.out.2 j r)
      go_wp2_with (at_builtin;refine Ew _ rfl _ _ 65 rfl _ _ rfl rfl (λu w'=>B9 w' g.heap.size 9 1 u (x.V j).nk (B3 (x.V j).K)/\Below g.heap.size g w') l ?_)
      intro u w2 M n;obtain⟨S,T,rfl,-⟩:=M.slice;clear l a;have c0:=BR n b0;have c1:=BR n b1;have c2:=BR n b2;have y2:=(n.frozen (p:=⟨wr.heap.size,2,none⟩) hz).trans z2;have N:=Aa M;have O:=Aa n;clear M n b0 b1 b2 z2;obtain⟨E,c⟩:∃E,E=w2.setCell ⟨wr.heap.size,2,none⟩ (.slice S (x.V j).nk T):=⟨_,rfl⟩;have P:Below wr.heap.size wr E:=by
       rw[c];exact(C.out.trans (O.out.mono (BF hz))).trans ⟨rfl,rfl,rfl,by simp,λk hk=>Al _ _ _ _ (by show k≠wr.heap.size;omega)⟩
      have hzx:g.heap.size<=E.heap.size:=by rw[c];have:=O.out.size;simpa using this
      have HRx:Hid (B9 E g.heap.size 9 1 (.slice S (x.V j).nk T) (x.V j).nk (B3 (x.V j).K)):=by
       rw[c];exact N.out.set_other (p:=⟨wr.heap.size,2,none⟩) (λe=>by have:=(N.out.lt e).1;simp at this;omega) _
      have Q:=Aa (s.out.kept P (by omega));have aa:Hid (Below W.heap.size W E):=A.out.trans (P.mono L);have D:=QX (x:=x) HD.out X (j:=j+1) r;rw[R.out,<-AR,Ay]at D;have l:=B9.one #[.string (x.V j).field,.string (x.V j).text,.slice S (x.V j).nk T] Q.out.row (Am L (by omega)) 86 iV _ 56 Tryz.underlying86 vi vz0 vz1 vz2 rfl (by decide) (GM (x.V j) (.slice S (x.V j).nk T)) (λi hi=>by
       match i,hi with
       | 0,_=>rfl
       | 1,_=>rfl
       | 2,_=>rfl) (λi _=>Pk rfl i) (by simp only[AP,List.length_nil]at D;unfold maxLen;omega) (by simp only[AP,List.length_nil]at D;omega) (m:=w2.heap.size) (by rw[c];simp)
      rw[c]at l;have HX3:=Aa c;clear P D C O N s c
      go_wp2_with (at_builtin;refine Ew _ rfl _ _ 86 rfl _ _ rfl rfl (λv' w'=>B9 w' W.heap.size 120 3 v' ((Dw x k F++Ea x (F k) j).length+1) _/\World.grownBy _ w' u5.ownBlock) l ?_)
      intro v' w6 y hg;have HE:Hid (ValRowsO w6 W.heap.size base v' (Dw x k F++Ea x (F k) j++[x.V j]) (λi=>if i=(Dw x k F++Ea x (F k) j).length then .slice S (x.V j).nk T else H i)/\Below W.heap.size W w6):=by
       rw[<-HX3.out]at hg;rw[<-Ay]at y;have hA:=BW E (Obj.cells #[.string (x.V j).field,.string (x.V j).text,.slice S (x.V j).nk T] 120);have hb0:W.heap.size<=E.heap.size:=aa.out.size;refine⟨(Q.out.kept hA (by omega)).snoc (by omega) (by simp;omega) HSm.out ⟨J.out.1,(HRx.out.kept hA).lower (by omega),(λi hi=>by obtain⟨_,_,_,_,h⟩:=J.out.2 i hi;exact h)⟩ y hg,?_⟩;exact(aa.out.trans (hA.mono hb0)).grown hg (by simp;omega) (λk' hk'=>(Q.out.row.lt hk').1)
      clear y hg l
      go_wp2_with fail
      go_roundw
      case rel=>exact⟨j+1,by omega,by go_num,⟨_,by rw[R.out,<-AR];exact HE.out.1⟩,HE.out.2⟩
      case measure=>simp[intOf];omega
    ·have hjn:j=x.nv:=by omega
     subst hjn;have s:=Aa z;have A:=Aa d;have R:Hid (Dw x (k+1) F=Dw x k F++Ea x (F k) x.nv):=F3 x k F;clear z d
     go_wp2_with fail
     go_roundw
     case rel=>exact⟨k+1,by omega,by go_num,⟨H,by rw[R.out];exact s.out⟩,A.out⟩
     case measure=>simp[intOf];omega
  ·have hkn:k=nf:=by omega
   subst hkn;have HR:=Aa z;have HW:=Aa d;clear z d
   go_wp2_with fail
   go_ret;exact⟨_,kv,rfl,HR.out.lower (BF hWs),HB.out.trans (HW.out.mono HB.out.size)⟩
end Go.Proofs.YtjjggefmmeminabGreat
