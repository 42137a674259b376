import Derived.Test.YtjjggefmmeminabGreatJMn
namespace Go.Proofs.YtjjggefmmeminabGreat
open Go.RowKit Go.Sort Go.PlainAid
structure PReq where
 svc:Int
 type:ByteArray
 keys:List ByteArray
 fields:List ByteArray
def CP (l:List ByteArray) (x:ByteArray):List ByteArray:=if l.any (λy=>eqs y x)=true then l else l++[x]
def Ep (l:List ByteArray):List ByteArray:=l.foldl CP []
theorem Px{l:List ByteArray}{x y:ByteArray}:y∈CP l x↔y∈l\/y=x:=by
 unfold CP;split
 ·rename_i h
  obtain⟨z,a,e⟩:=List.any_eq_true.1 h;rw[Ch]at e;subst e;exact⟨.inl,λh=>h.elim id (λh=>h ▸ a)⟩
 ·simp
theorem M9{l:List ByteArray}(h:l.Nodup)(x:ByteArray):(CP l x).Nodup:=by
 unfold CP;split
 ·exact h
 ·rename_i hn
  rw[List.nodup_append];refine⟨h,by simp,λa ha b hb e=>?_⟩;have c:b=x:=by simpa using hb
  exact hn (List.any_eq_true.2 ⟨a,ha,Ch.2 (e.trans c)⟩)
theorem Gf:∀(m l:List ByteArray) {y:ByteArray},y∈m.foldl CP l↔y∈l\/y∈m
 | [],l,y=>by simp
 | x :: m,l,y=>by
  rw[By,Gf m,Px,Bv,or_assoc]
theorem Hw:∀(m l:List ByteArray),l.Nodup->(m.foldl CP l).Nodup
 | [],_,h=>h
 | x :: m,l,h=>by rw[By];exact Hw m _ (M9 h x)
theorem Fb{l:List ByteArray}{y:ByteArray}:y∈Ep l↔y∈l:=by unfold Ep;rw[Gf];simp
theorem Ip(l:List ByteArray):(Ep l).Nodup:=Hw l [] List.nodup_nil
def EC {d:Nat} (p:PPart) (h:POwner) (k:Cg (d+1)):Bool:=decide ((Dd p (BT k)).svc=h.svc)&&eqs (Dd p (BT k)).type h.type
def B1 {d:Nat} (p:PPart) (h:POwner) (ps:List (Cg (d+1))):List ByteArray:=Ep ((ps.filter (EC p h)).map (λk=>(Dd p (BT k)).field))
def EM (V:Nat->LServ) (o:POwner) (key:ByteArray):List ByteArray:=if Dk (V o.svc.toNat) o.type key=true then D3 (F8 (CC (V o.svc.toNat) o.type key) o.field) else []
def CR (V:Nat->LServ) (o:POwner) (keys:List ByteArray):List ByteArray:=Ep (keys.flatMap (EM V o))
def CW {d:Nat} (p:PPart) (keys:List ByteArray) (ps:List (Cg (d+1))) (h:POwner):PReq:=⟨h.svc,h.type,keys,B1 p h ps⟩
def DF {d:Nat} (V:Nat->LServ) (L:List PPart) (a:PPart->List ByteArray->List (Cg d)->List PReq) (p:PPart) (keys:List ByteArray) (k:Cg (d+1)):List PReq :=
 if (EQ p (BT k)).kind=1 then [] else if CR V (Dd p (BT k)) keys = [] then [] else a (Du L (EQ p (BT k)).type) (CR V (Dd p (BT k)) keys) (subs k)
def DA (V:Nat->LServ) (L:List PPart):(d:Nat)->PPart->List ByteArray->List (Cg d)->List PReq
 | 0,_,_,_=>[]
 | d+1,p,keys,ps=>p.hs.map (CW p keys ps)++ps.flatMap (DF V L (DA V L d) p keys)
theorem I8(V:Nat->LServ)(L:List PPart)(d:Nat)(p:PPart)(keys:List ByteArray)(ps:List (Cg (d+1))):DA V L (d+1) p keys ps=p.hs.map (CW p keys ps)++ps.flatMap (DF V L (DA V L d) p keys):=rfl
structure ReqR (n:Nat) (V:Nat->LServ) (r:PReq):Prop where
 ex:∃c t:Nat,r.svc=(c:Int)/\c<n/\t<(V c).nt/\find (V c).nt (V c).T r.type=(t:Int)/\(B7 (V c) t).own=r.type/\∀f,f∈r.fields->¬BX ((V c).T t).nf ((V c).T t).F f<0/\∃q,q<(B7 (V c) t).nf/\(B7 (V c) t).O q=f
 fields:r.fields.Nodup
 keys:r.keys.Nodup
 some:r.keys≠[]
theorem PS{n:Nat}{V:Nat->LServ}(h0:(DT n V).1=0){d:Nat}{nm:ByteArray}{keys:List ByteArray}{ps:List (Cg (d+1))}(hk:keys.Nodup)(hs:keys≠[])(hf:∀k,k∈ps->¬BX (EL nm (DZ (CQ V) (BZ V) n)).fs.length (De (EL nm (DZ (CQ V) (BZ V) n))) (BT k)<0){h:POwner}(hh:h∈(EL nm (DZ (CQ V) (BZ V) n)).hs):ReqR n V (CW (EL nm (DZ (CQ V) (BZ V) n)) keys ps h):=by
 obtain⟨-,b,A,-⟩:=Fs h0;obtain⟨e,he,rfl⟩:=List.mem_map.1 hh;rw[JW]at he;obtain⟨s,j,c,C,rfl⟩:=FE.1 he.1;have g:j<(V s).nt:=C;obtain⟨G,o2,D⟩:=KW (b s c) g;refine⟨⟨s,j,rfl,c,g,o2,rfl,λf o=>?_⟩,Ip _,hk,hs⟩;have i:=Fb.1 o;obtain⟨k,p,rfl⟩:=List.mem_map.1 i;obtain⟨r,a⟩:=List.mem_filter.1 p;obtain⟨x,hx,E⟩:=(I7 A nm (BT k)).1 (hf k r);obtain⟨-,-,B⟩:=IZ A hx;rw[E]at B;unfold EC at a;rw[B]at a ⊢;obtain⟨e2,u,F,q,hq,rfl⟩:=J8.1 hx;obtain⟨l,v,w,y,rfl⟩:=FE.1 u;have h1:((l:Int)=(s:Int))/\(B7 (V l) v).own=(B7 (V s) j).own:=by
  simp only[Bn,decide_eq_true_eq,Ch]at a;exact a
 have hss:l=s:=by omega
 subst hss;have m:v<(V l).nt:=y;have z:v=j:=by
  have h3:=(KW (b l w) m).2.1;rw[h1.2,o2]at h3;omega
 subst z;exact⟨D q hq,q,hq,rfl⟩
def GQ:(d:Nat)->List (Cg d)->Nat
 | 0,_=>1
 | d+1,ps=>ps.foldl (λn k=>if (subs k).isEmpty then n else n+GQ d (subs k)) 1
theorem QD{nm:ByteArray}{svc:Int}{S:Nat->PSeen}:∀(k:Nat),(∀a b,a<b->b<k->(S a).name≠(S b).name)->(Ht nm (EO svc S k)).length<=1
 | 0,_=>by simp[EO,Ht]
 | k+1,h=>by
  have ih:=QD (nm:=nm) (svc:=svc) (S:=S) k (λa b h1 h2=>h a b h1 (by omega));rw[Ga]
  by_cases e:(S k).name=nm
  ·rw[Fk (e:=(svc,S k)) e]
   have:Ht nm (EO svc S k) = []:=by
    rw[List.eq_nil_iff_forall_not_mem];intro x hx;obtain⟨h1,h2⟩:=JW.1 hx;obtain⟨j,c,rfl⟩:=List.mem_map.1 h1;exact h j k (by simpa using c) (by omega) (h2.trans e.symm)
   rw[this];simp
  ·rw[FF (e:=(svc,S k)) e];exact ih
theorem P5(nm:ByteArray)(a b:List (Int × PSeen)):Ht nm (a++b)=Ht nm a++Ht nm b:=by unfold Ht;exact Bj ..
theorem Jb{V:Nat->LServ}{nm:ByteArray}:∀(i:Nat),(∀j,j<i->DB (V j).nt (B7 (V j)))->(Ht nm (DZ (CQ V) (BZ V) i)).length<=i
 | 0,_=>by simp[DZ,Ht]
 | i+1,h=>by
  have ih:=Jb (nm:=nm) i (λj c=>h j (by omega));have e:DZ (CQ V) (BZ V) (i+1)=DZ (CQ V) (BZ V) i++EO (i:Int) (BZ V i) (CQ V i):=rfl;have h1:(Ht nm (EO (i:Int) (BZ V i) (CQ V i))).length<=1:=QD _ λa b h1 h2=>(h i (by omega)).one a b h1 h2;rw[e,P5,Ay];omega
theorem NK{α:Type}{f : α->List PReq}{b:α->Bool}{g:α->Nat}{n:Nat} : ∀(l:List α) (m:Nat),(∀x,x∈l->(f x).length<=if b x then 0 else g x*n)->m*n+(l.flatMap f).length<=(l.foldl (λm x=>if b x then m else m+g x) m)*n
 | [],m,_=>by simp
 | x :: l,m,h=>by
  have h1:=h x (by simp);have h2:=λm=>NK l m (λy a=>h y (by simp[a]));rw[List.flatMap_cons,Ay,By]
  by_cases e:b x=true
  ·rw[Af e]at h1 ⊢
   have:=h2 m;omega
  ·rw[Ae e]at h1 ⊢
   have:=h2 (m+g x);rw[Nat.add_mul]at this;omega
theorem Kg{n:Nat}{V:Nat->LServ}(h0:(DT n V).1=0):∀(d:Nat) (nm:ByteArray) (keys:List ByteArray) (ps:List (Cg d)) (ahead:List ByteArray),¬Ca (Cr (CQ V) (BZ V) n).length (DI (Cr (CQ V) (BZ V) n)) nm<0->cR (Cr (CQ V) (BZ V) n).length (DI (Cr (CQ V) (BZ V) n)) d (Du (Cr (CQ V) (BZ V) n) nm).fs.length (De (Du (Cr (CQ V) (BZ V) n) nm)) ahead ps=0->(DA V (Cr (CQ V) (BZ V) n) d (Du (Cr (CQ V) (BZ V) n) nm) keys ps).length<=GQ d ps*n
 | 0,_,_,_,_,_,_=>by simp[DA]
 | d+1,nm,keys,ps,ahead,hnm,hc=>by
  obtain⟨-,a,-,-⟩:=Fs h0;have o:Char (Cr (CQ V) (BZ V) n) (DZ (CQ V) (BZ V) n):=FD n;have hh:(Du (Cr (CQ V) (BZ V) n) nm).hs.length<=n:=by
   rw[G0 o hnm];unfold EL;rw[A6];exact Jb n λj p=>D2 (Dn (a j p)) (V j).nc
  rw[I8,Ay,A6];have key:=NK (f:=DF V (Cr (CQ V) (BZ V) n) (DA V (Cr (CQ V) (BZ V) n) d) (Du (Cr (CQ V) (BZ V) n) nm) keys) (b:=λk=>(subs k).isEmpty) (g:=λk=>GQ d (subs k)) (n:=n) ps 1 (λk hk=>by
   obtain⟨i,hi,rfl⟩:=List.mem_iff_getElem.1 hk;obtain⟨r,h1⟩:=QE hc hi;rw[CL hi]at h1;obtain⟨-,q⟩:=Qt h1;have c:(EQ (Du (Cr (CQ V) (BZ V) n) nm) (BT ps[i])).kind=1/\subs ps[i] = []\/(EQ (Du (Cr (CQ V) (BZ V) n) nm) (BT ps[i])).kind≠1/\subs ps[i]≠[]/\¬Ca (Cr (CQ V) (BZ V) n).length (DI (Cr (CQ V) (BZ V) n)) (EQ (Du (Cr (CQ V) (BZ V) n) nm) (BT ps[i])).type<0/\cR (Cr (CQ V) (BZ V) n).length (DI (Cr (CQ V) (BZ V) n)) d (Du (Cr (CQ V) (BZ V) n) (EQ (Du (Cr (CQ V) (BZ V) n) nm) (BT ps[i])).type).fs.length (De (Du (Cr (CQ V) (BZ V) n) (EQ (Du (Cr (CQ V) (BZ V) n) nm) (BT ps[i])).type)) [] (subs ps[i])=0:=q;unfold DF
   by_cases h1:(EQ (Du (Cr (CQ V) (BZ V) n) nm) (BT ps[i])).kind=1
   ·rw[Af h1];exact Ai _
   rw[Ae h1]
   by_cases h2:CR V (Dd (Du (Cr (CQ V) (BZ V) n) nm) (BT ps[i])) keys = []
   ·rw[Af h2];exact Ai _
   rw[Ae h2];rcases c with⟨h3,-⟩|⟨-,hs,hq,l⟩
   ·exact absurd h3 h1
   have he : ¬(subs ps[i]).isEmpty=true:=λh=>hs (List.isEmpty_iff.1 h);rw[Ae he];exact Kg h0 d _ _ _ [] hq l)
  have e:GQ (d+1) ps=ps.foldl (λm x=>if (subs x).isEmpty then m else m+GQ d (subs x)) 1:=rfl
  rw[e];rw[Nat.one_mul]at key;omega
def Hf:(d:Nat)->List (Cg d)->Nat
 | 0,_=>0
 | d+1,L=>L.foldr (λk n=>1+Hf d (subs k)+n) 0
theorem L2(d:Nat):Hf d []=0:=by cases d<;>rfl
theorem Kc(d:Nat)(k:Cg (d+1))(L:List (Cg (d+1))):Hf (d+1) (k :: L)=1+Hf d (subs k)+Hf (d+1) L:=rfl
theorem Nu:∀(d deep n:Nat) (L:List (Cg d)),(wR d deep n L).1=0->n+Hf d L<=(wR d deep n L).2
 | 0,_,_,_,_=>Aj _
 | d+1,deep,n,L,h=>by
  induction L generalizing n with
  |nil=>rw[MZ,L2];exact Aj _
  |cons p L ih =>
   rw[J2]at h ⊢
   by_cases h0:(wP d deep n p).1=0
   ·rw[Ae (by simp[h0])]at h ⊢
    have h1:=ih (wP d deep n p).2 h;have h2:n+1+Hf d (subs p)<=(wP d deep n p).2:=by
     unfold wP wL at h0 ⊢
     by_cases b:60<n+1
     ·rw[Af b]at h0;cases h0
     rw[Ae b]at h0 ⊢
     by_cases g2:Dp p=true
     ·rw[Af g2]at h0;cases h0
     rw[Ae g2]at h0 ⊢
     by_cases a:(subs p).isEmpty=true
     ·rw[Af a,List.isEmpty_iff.1 a,L2];exact Aj _
     rw[Ae a]at h0 ⊢
     by_cases c:8<deep+1
     ·rw[Af c]at h0;cases h0
     rw[Ae c,Ae a]at h0 ⊢;exact Nu d (deep+1) (n+1) (subs p) h0
    rw[Kc];omega
   ·rw[Af h0]at h;exact absurd h h0
theorem OC{d:Nat}{type key:ByteArray}{L:List (Cg d)}(h:wA d type key L=0):Hf d L<=60:=by
 unfold wA at h
 by_cases hn:(!Cb type || !Cb key)=true
 ·rw[Af hn]at h;cases h
 rw[Ae hn]at h;unfold wL at h;rw[Ae (by omega)]at h
 by_cases he:L.isEmpty=true
 ·rw[Af he]at h;cases h
 rw[Ae he]at h;have h1:=Nu d 1 0 L h;have h2:=(QC d 1 0 L (by omega)).2 h;omega
theorem KU{d:Nat}(hs:∀L:List (Cg d),GQ d L<=1+Hf d L):∀(L:List (Cg (d+1))) (m:Nat),L.foldl (λn k=>if (subs k).isEmpty then n else n+GQ d (subs k)) m<=m+Hf (d+1) L
 | [],m=>Aj _
 | k :: L,m=>by
  rw[By,Kc];have h1:=KU hs L
  by_cases e:(subs k).isEmpty=true
  ·rw[Af e];have:=h1 m;omega
  ·rw[Ae e];have:=h1 (m+GQ d (subs k));have:=hs (subs k);omega
theorem G9:∀(d:Nat) (L:List (Cg d)),GQ d L<=1+Hf d L
 | 0,_=>Aj _
 | d+1,L=>KU (G9 d) L 1
def Tt (n:Nat) (V:Nat->LServ) (d:Nat) (type key:ByteArray) (ps:List (Cg d)):List PReq:=if GB n V d type key ps=0 then DA V (Cr (CQ V) (BZ V) n) d (Du (Cr (CQ V) (BZ V) n) type) [key] ps else []
theorem Mm{α β:Type}{l:List α}{f g:α->List β}(h:∀x,x∈l->f x=g x):l.flatMap f=l.flatMap g:=by
 rw[List.flatMap_def,List.flatMap_def,BB h]
theorem Qd{E:List (Int × PSeen)}(a:OI E){nm f:ByteArray}(hf : ¬BX (EL nm E).fs.length (De (EL nm E)) f<0):∃h,h∈(EL nm E).hs/\h.svc=(Dd (EL nm E) f).svc/\h.type=(Dd (EL nm E) f).type:=by
 obtain⟨x,hx,rfl⟩:=(I7 a nm f).1 hf;obtain⟨-,-,b⟩:=IZ a hx;rw[b];obtain⟨e,he,hn,q,hq,rfl⟩:=J8.1 hx;exact⟨Hi e,List.mem_map.2 ⟨e,JW.2 ⟨he,hn⟩,rfl⟩,rfl,rfl⟩
end Go.Proofs.YtjjggefmmeminabGreat
namespace Go.Proofs.YtjjggefmmeminabGreat
open Go.RowKit Go.Sort
structure SServ where
 ta:Option Addr
 nt:Nat
 tcap:Nat
 T:Nat->LType
 ca:Option Addr
 nc:Nat
 ccap:Nat
 xa:Option Addr
 nx:Nat
 xcap:Nat
 X:Nat->LThing
structure SServAt (w:World) (b o:Nat) (s:SServ):Prop where
 c0:w.cell? ⟨b,o,none⟩=some (.slice s.ta s.nt s.tcap)
 c1:w.cell? ⟨b,o+1,none⟩=some (.slice s.ca s.nc s.ccap)
 c2:w.cell? ⟨b,o+2,none⟩=some (.slice s.xa s.nx s.xcap)
 types:Cs w s.ta s.nt s.T
 things:CZ w s.xa s.nx s.X
 tcap:s.nt<=s.tcap
 xcap:s.nx<=s.xcap
theorem SServAt.kept{w w':World}{b o:Nat}{s:SServ}(h:SServAt w b o s)(hB:Below w.heap.size w w'):SServAt w' b o s :=
 ⟨BR hB h.c0,BR hB h.c1,BR hB h.c2,h.types.kept hB,h.things.kept hB,h.tcap,h.xcap⟩
def Gt (w:World) (a:Option Addr) (n:Nat) (V:Nat->SServ):Prop:=n<=maxLen/\∀i,i<n->∃b o,a=some ⟨b,o,none⟩/\SServAt w b (o+i*3) (V i)
theorem Gt.kept{w w':World}{a:Option Addr}{n:Nat}{V:Nat->SServ}(h:Gt w a n V)(hB:Below w.heap.size w w'):Gt w' a n V :=
 ⟨h.1,λi hi=>let ⟨b,o,e,s⟩:=h.2 i hi;⟨b,o,e,s.kept hB⟩⟩
def M5 (x:LThing):Prop:=x.nv*56<=140737488355328/\∀k,k<x.nv->(x.V k).nk*16<=140737488355328
def Jd (s:SServ):Prop := ∀i,i<s.nx->M5 (s.X i)
structure LReq where
 svc:Int
 type:ByteArray
 ka:Option Addr
 nk:Nat
 kcap:Nat
 K:Nat->ByteArray
 fa:Option Addr
 nf:Nat
 fcap:Nat
 F:Nat->ByteArray
def S8 (q:LReq):Value:=.agg #[.int .i64 q.svc,.string q.type,.slice q.ka q.nk q.kcap,.slice q.fa q.nf q.fcap]
structure ReqOk (w:World) (q:LReq):Prop where
 keys:CF w q.ka q.nk q.K
 fields:CF w q.fa q.nf q.F
 svc:(Lit.int .i64 q.svc).wf=true
 kcap:q.nk<=q.kcap
 fcap:q.nf<=q.fcap
 small:BY q.type
theorem ReqOk.kept{w w':World}{q:LReq}(h:ReqOk w q)(hB:Below w.heap.size w w'):ReqOk w' q:=⟨h.keys.kept hB,h.fields.kept hB,h.svc,h.kcap,h.fcap,h.small⟩
def DU (K:Nat->ByteArray) (i:Nat):Bool:=decide (0<=Ds i (λj=>eqs (K j) (K i)))
theorem Ku{K:Nat->ByteArray}{i:Nat}:DU K i=true ↔ ∃j,j<i/\K j=K i:=by
 unfold DU;rw[decide_eq_true_iff];rcases CE i (λj=>eqs (K j) (K i)) with⟨h,hb⟩|⟨k,hk,h,a,-⟩
 ·rw[h]
  constructor
  ·intro c;omega
  ·rintro⟨j,b,e⟩
   have h2:=hb j b;simp only[e]at h2;rw[Ch.2 rfl]at h2;cases h2
 ·rw[h]
  exact⟨λ_=>⟨k,hk,Ch.1 a⟩,λ_=>by omega⟩
theorem He{K:Nat->ByteArray}{i:Nat}:DU K i=false ↔ ∀j,j<i->K j≠K i:=by
 rw[<-Bool.not_eq_true,Ku];constructor
 ·intro h j a e;exact h ⟨j,a,e⟩
 ·rintro h ⟨j,a,e⟩;exact h j a e
def FJ (nf:Nat) (G:Nat->LField) (F:Nat->ByteArray) (i:Nat):Int:=if BX nf G (F i)<0 then 7 else if DU F i then 6 else 0
def DQ (nf:Nat) (G:Nat->LField) (m:Nat) (F:Nat->ByteArray):Int:=(CA m (FJ nf G F)).1
def Hg (n:Nat) (K:Nat->ByteArray):Bool:=decide (0<=Ds n (DU K))
theorem Qg{n:Nat}{K:Nat->ByteArray}:Hg n K=true ↔ ∃i,i<n/\DU K i=true:=by
 unfold Hg;rw[decide_eq_true_iff];rcases CE n (DU K) with⟨h,hb⟩|⟨k,hk,h,a,-⟩
 ·rw[h]
  exact⟨λb=>by omega,λ⟨i,hi,e⟩=>by rw[hb i hi]at e;cases e⟩
 ·rw[h]
  exact⟨λ_=>⟨k,hk,a⟩,λ_=>by omega⟩
theorem JH{n:Nat}{K:Nat->ByteArray}:Hg n K=false ↔ ∀i,i<n->DU K i=false:=by
 rw[<-Bool.not_eq_true,Qg];constructor
 ·intro h i hi
  cases e:DU K i
  ·rfl
  ·exact absurd ⟨i,hi,e⟩ h
 ·rintro h ⟨i,hi,e⟩
  rw[h i hi]at e;cases e
def MP (s:SServ) (q:LReq):Int :=
 if find s.nt s.T q.type<0 then 1
 else if DQ (s.T (find s.nt s.T q.type).toNat).nf (s.T (find s.nt s.T q.type).toNat).F q.nf q.F≠0 then DQ (s.T (find s.nt s.T q.type).toNat).nf (s.T (find s.nt s.T q.type).toNat).F q.nf q.F
 else if Hg q.nk q.K then 6 else 0
def Ee (n:Nat) (V:Nat->SServ) (q:LReq):Int:=if q.svc<0\/(n:Int)<=q.svc then 5 else MP (V q.svc.toNat) q
theorem Kn(n:Nat)(T:Nat->LType)(name:ByteArray):find n T name<0\/∃t:Nat,t<n/\find n T name=(t:Int):=by
 rcases CE n (λi=>eqs (T i).name name) with⟨h,_⟩|⟨k,hk,h,_⟩
 ·left;unfold find;rw[h];omega
 ·exact .inr ⟨k,hk,h⟩
theorem G7{n:Nat}{V:Nat->SServ}{q:LReq}(h:q.svc<0\/(n:Int)<=q.svc):Ee n V q=5:=by unfold Ee;rw[Af h]
theorem JE{n c:Nat}{V:Nat->SServ}{q:LReq}(hc:q.svc=(c:Int))(h:c<n)(hf:find (V c).nt (V c).T q.type<0):Ee n V q=1:=by
 unfold Ee MP;rw[Ae (by omega),hc,Ax,Af hf]
theorem Ic{n c t:Nat}{V:Nat->SServ}{q:LReq}(hc:q.svc=(c:Int))(h:c<n)(hf:find (V c).nt (V c).T q.type=(t:Int))(he:DQ ((V c).T t).nf ((V c).T t).F q.nf q.F≠0):Ee n V q=DQ ((V c).T t).nf ((V c).T t).F q.nf q.F:=by
 unfold Ee MP;rw[Ae (by omega),hc,Ax,hf,Ae (by omega),Ax,Af he]
theorem Hc{n c t:Nat}{V:Nat->SServ}{q:LReq}(hc:q.svc=(c:Int))(h:c<n)(hf:find (V c).nt (V c).T q.type=(t:Int))(he:DQ ((V c).T t).nf ((V c).T t).F q.nf q.F=0):Ee n V q=if Hg q.nk q.K then 6 else 0:=by
 unfold Ee MP;rw[Ae (by omega),hc,Ax,hf,Ae (by omega),Ax,Ae (by omega)]
theorem NE{n:Nat}{V:Nat->SServ}{q:LReq}(h:Ee n V q=0):∃c t:Nat,q.svc=(c:Int)/\c<n/\t<(V c).nt/\find (V c).nt (V c).T q.type=(t:Int)/\(∀i,i<q.nf->FJ ((V c).T t).nf ((V c).T t).F q.F i=0)/\∀i,i<q.nk->DU q.K i=false:=by
 by_cases hs:q.svc<0\/(n:Int)<=q.svc
 ·rw[G7 hs]at h;cases h
 ·obtain⟨c,hc⟩:∃c:Nat,q.svc=(c:Int):=⟨q.svc.toNat,by omega⟩
  have a:c<n:=by omega
  rcases Kn (V c).nt (V c).T q.type with hf|⟨t,b,hf⟩
  ·rw[JE hc a hf]at h;cases h
  ·by_cases he:DQ ((V c).T t).nf ((V c).T t).F q.nf q.F=0
   ·rw[Hc hc a hf he]at h
    refine⟨c,t,hc,a,b,hf,?_,?_⟩
    ·rcases FC q.nf (FJ ((V c).T t).nf ((V c).T t).F q.F) with⟨-,h2⟩|⟨k,hk,h1,h2,-⟩
     ·exact h2
     ·unfold DQ at he;rw[h1]at he;exact absurd he h2
    ·apply JH.1
     cases e:Hg q.nk q.K
     ·rfl
     ·rw[e]at h;cases h
   ·rw[Ic hc a hf he]at h;exact absurd h he
def GH (x:LThing) (f:ByteArray):List LVal:=((List.range x.nv).map x.V).filter (λv=>eqs v.field f)
def Dw (x:LThing) (m:Nat) (F:Nat->ByteArray):List LVal:=(List.range m).flatMap (λi=>GH x (F i))
theorem F3(x:LThing)(m:Nat)(F:Nat->ByteArray):Dw x (m+1) F=Dw x m F++GH x (F m):=by
 unfold Dw;rw[AA,Bf];simp
def Ea (x:LThing) (f:ByteArray) (k:Nat):List LVal:=((List.range k).map x.V).filter (λv=>eqs v.field f)
theorem O9(x:LThing)(f:ByteArray):Ea x f x.nv=GH x f:=rfl
theorem KC{x:LThing}{f : ByteArray}{k:Nat}(h:eqs (x.V k).field f=true):Ea x f (k+1)=Ea x f k++[x.V k]:=by
 unfold Ea;rw[AA,AH,Bj];simp[h]
theorem Jw{x:LThing}{f : ByteArray}{k:Nat}(h:eqs (x.V k).field f=false):Ea x f (k+1)=Ea x f k:=by
 unfold Ea;rw[AA,AH,Bj];simp[h]
theorem valsL_zero(x:LThing)(F:Nat->ByteArray):Dw x 0 F=[]:=rfl
theorem Jq(x:LThing)(F:Nat->ByteArray):∀m,(∀i,i<m->DU F i=false)->(Dw x m F).length=((List.range x.nv).map x.V).countP (λv=>(List.range m).any (λi=>eqs v.field (F i)))
 | 0,_=>by simp[valsL_zero]
 | m+1,h=>by
  rw[F3,Ay,Jq x F m (λi hi=>h i (by omega)),GH,<-List.countP_eq_length_filter];generalize (List.range x.nv).map x.V=l;have hs:=He.1 (h m (Nat.lt_succ_self m))
  induction l with
  |nil=>rfl
  |cons v l ih =>
   simp only[List.countP_cons,AA,List.any_append]at ih ⊢
   cases e1:(List.range m).any (λi=>eqs v.field (F i)) with
   |true =>
    have e2:eqs v.field (F m)=false:=by
     rw[BN]at e1;obtain⟨j,b,a⟩:=e1;cases e:eqs v.field (F m)
     ·rfl
     ·exact absurd ((Ch.1 a).symm.trans (Ch.1 e)) (hs j (by simpa using b))
    simp[e2]at ih ⊢;omega
   |false =>
    simp at ih ⊢;omega
theorem Jh{x:LThing}{m:Nat}{F:Nat->ByteArray}(h:∀i,i<m->DU F i=false):(Dw x m F).length<=x.nv:=by
 rw[Jq x F m h];have:=List.countP_le_length (p:=λv=>(List.range m).any (λi=>eqs v.field (F i))) (l:=(List.range x.nv).map x.V);simpa using this
theorem Pt(x:LThing)(F:Nat->ByteArray){k m:Nat}(h:k<=m):(Dw x k F).length<=(Dw x m F).length:=by
 induction m with
 |zero=>simp[show k=0 by omega]
 |succ m ih =>
  by_cases e:k=m+1
  ·subst e;exact Aj _
  ·rw[F3,Ay]
   have:=ih (by omega);omega
theorem PN(x:LThing)(f:ByteArray){k:Nat}(h:k<=x.nv):(Ea x f k).length<=(GH x f).length:=by
 unfold Ea GH;rw[show x.nv=k+(x.nv - k) by omega,List.range_add,AH,Bj,Ay];omega
def Hl:LThing:=⟨⟨#[]⟩,⟨#[]⟩,none,0,0,λ_=>⟨⟨#[]⟩,⟨#[]⟩,none,0,0,λ_=>⟨#[]⟩⟩⟩
def FX (s:SServ) (typ key:ByteArray):Bool:=decide (0<=Ds s.nx (Cf s.X typ key))
def Dx (s:SServ) (typ key:ByteArray):LThing:=if Ds s.nx (Cf s.X typ key)<0 then Hl else s.X (Ds s.nx (Cf s.X typ key)).toNat
theorem Jy{s:SServ}{typ key:ByteArray}{k:Nat}(h:Ds s.nx (Cf s.X typ key)=(k:Int)):FX s typ key=true/\Dx s typ key=s.X k:=by
 unfold FX Dx;rw[h,Ae (by omega),Ax];exact⟨Bi (by omega),rfl⟩
theorem Js{s:SServ}{typ key:ByteArray}(h:Ds s.nx (Cf s.X typ key)<0):FX s typ key=false/\Dx s typ key=Hl:=by
 unfold FX Dx;rw[Af h];exact⟨AY (by omega),rfl⟩
end Go.Proofs.YtjjggefmmeminabGreat
namespace Go.Proofs.YtjjggefmmeminabGreat
open Go.RowKit Go.Sort Go.PlainAid Classical
def bump (c:ByteArray->Nat) (s:ByteArray):ByteArray->Nat:=λu=>if eqs u s then c s+1 else c u
def DV (q:ByteArray->Bool) (c:ByteArray->Nat) (l:List ByteArray):ByteArray->Nat:=l.foldl (λc key=>if q key then bump c key else c) c
theorem Kk(q:ByteArray->Bool)(c:ByteArray->Nat)(l:List ByteArray)(x:ByteArray):DV q c (l++[x])=if q x then bump (DV q c l) x else DV q c l:=by unfold DV;rw[Bs];rfl
theorem LJ(c:ByteArray->Nat)(s:ByteArray):bump c s s=c s+1:=by unfold bump;rw[Af (Ch.2 rfl)]
theorem KM{c:ByteArray->Nat}{s u:ByteArray}(h:u≠s):bump c s u=c u:=by unfold bump;rw[Ae (λe=>h (Ch.1 e))]
theorem KH(q:ByteArray->Bool):∀(l:List ByteArray) (c:ByteArray->Nat),l.Nodup->∀s,DV q c l s=c s+if s∈l/\q s=true then 1 else 0
 | [],c,_,s=>by simp[DV]
 | x :: l,c,h,s=>by
  have hx:x∉l:=(List.nodup_cons.1 h).1;have ih:=KH q l (if q x then bump c x else c) (List.nodup_cons.1 h).2 s
  have a:DV q c (x :: l)=DV q (if q x then bump c x else c) l:=rfl
  rw[a,ih]
  by_cases e:s=x
  ·subst e
   rw[Ae (λh:s∈l/\q s=true=>hx h.1)]
   by_cases hq:q s=true
   ·rw[Af hq,LJ,Af ⟨by simp,hq⟩]
   ·rw[Ae hq,Ae (λh=>hq h.2)]
  ·have e1:(if q x then bump c x else c) s=c s:=by
    split
    ·exact KM e
    ·rfl
   rw[e1];have e2:(s∈x :: l/\q s=true)↔(s∈l/\q s=true):=by simp[e]
   simp only[e2]
def Eh (l:List ByteArray):ByteArray->Nat:=l.foldl bump (λ_=>0)
theorem Oz(l:List ByteArray)(x:ByteArray):Eh (l++[x])=bump (Eh l) x:=by unfold Eh;rw[Bs];rfl
theorem Ji:∀(l:List ByteArray) (c:ByteArray->Nat) (s:ByteArray),(l.foldl bump c s=0↔c s=0/\s∉l)/\l.foldl bump c s<=c s+l.length
 | [],c,s=>⟨by simp,Aj _⟩
 | x :: l,c,s=>by
  obtain⟨h1,h2⟩:=Ji l (bump c x) s;rw[By]
  by_cases e:s=x
  ·subst e
   rw[LJ]at h1 h2;refine⟨?_,by rw[AP];omega⟩;rw[h1];simp
  ·rw[KM e]at h1 h2
   refine⟨?_,by rw[AP];omega⟩;rw[h1];simp[e]
theorem Ju{l:List ByteArray}{s:ByteArray}:Eh l s=0↔s∉l:=by
 rw[Eh,(Ji l (λ_=>0) s).1];simp
theorem Rr(l:List ByteArray)(s:ByteArray):Eh l s<=l.length:=by
 have:=(Ji l (λ_=>0) s).2;rw[Eh];omega
theorem Jk(l:List ByteArray)(x:ByteArray):Ep (l++[x])=CP (Ep l) x:=by unfold Ep;rw[Bs];rfl
theorem Sj{l:List ByteArray}{x:ByteArray}(h:x∈l):Ep (l++[x])=Ep l:=by
 rw[Jk];unfold CP;have h1:(Ep l).any (λy=>eqs y x)=true:=List.any_eq_true.2 ⟨x,Fb.2 h,Ch.2 rfl⟩;rw[Af h1]
theorem SH{l:List ByteArray}{x:ByteArray}(h:x∉l):Ep (l++[x])=Ep l++[x]:=by
 rw[Jk];unfold CP;rw[Ae];intro e;obtain⟨y,a,e⟩:=List.any_eq_true.1 e;rw[Ch]at e;subst e;exact h (Fb.1 a)
theorem Gv(l:List ByteArray):(Ep l).length<=l.length:=by
 have key:∀(m a:List ByteArray),(m.foldl CP a).length<=a.length+m.length:=by
  intro m
  induction m with
  |nil=>intro a;exact Aj _
  |cons x m ih =>
   intro a;rw[By];have h1:=ih (CP a x);have h2:(CP a x).length<=a.length+1:=by
    unfold CP;split
    ·omega
    ·simp
   rw[AP];omega
 have:=key l [];unfold Ep;simpa using this
def QM (V:Nat->LServ) (hs:List POwner) (key:ByteArray):Nat:=(hs.filter (λh=>Dk (V h.svc.toNat) h.type key)).length
theorem RV{V:Nat->LServ}{p:PPart}{key:ByteArray}:QM V p.hs key=0↔DY V p key=false:=by
 unfold QM DY;rw[List.length_eq_zero_iff,List.filter_eq_nil_iff,List.any_eq_false]
def Fu (V:Nat->LServ) (keys:List ByteArray) (hs:List POwner):ByteArray->Nat:=hs.foldl (λc h=>DV (Dk (V h.svc.toNat) h.type) c keys) (λ_=>0)
theorem Ns(V:Nat->LServ)(keys:List ByteArray)(hs:List POwner)(h:POwner):Fu V keys (hs++[h])=DV (Dk (V h.svc.toNat) h.type) (Fu V keys hs) keys:=by unfold Fu;rw[Bs];rfl
theorem NL{V:Nat->LServ}{keys:List ByteArray}(hk:keys.Nodup){s:ByteArray}(hs:s∈keys):∀(l:List POwner) (c:ByteArray->Nat),(l.foldl (λc h=>DV (Dk (V h.svc.toNat) h.type) c keys) c) s=c s+QM V l s
 | [],c=>by simp[QM]
 | h :: l,c=>by
  rw[By,NL hk hs l,KH _ _ _ hk];unfold QM
  by_cases e:Dk (V h.svc.toNat) h.type s=true
  ·rw[Af ⟨hs,e⟩,Bp (p:=λh:POwner=>Dk (V h.svc.toNat) h.type s) e,AP];omega
  ·rw[Ae (λh=>e h.2),Bo (p:=λh:POwner=>Dk (V h.svc.toNat) h.type s) e];omega
theorem RG{V:Nat->LServ}{keys:List ByteArray}(hk:keys.Nodup){s:ByteArray}(hs:s∈keys)(l:List POwner):Fu V keys l s=QM V l s:=by
 rw[Fu,NL hk hs];simp
theorem Jt{V:Nat->LServ}{keys:List ByteArray}(hk:keys.Nodup)(s:ByteArray):∀(l:List POwner) (c:ByteArray->Nat),(l.foldl (λc h=>DV (Dk (V h.svc.toNat) h.type) c keys) c) s<=c s+l.length
 | [],c=>Aj _
 | h :: l,c=>by
  rw[By];have h1:=Jt (V:=V) hk s l (DV (Dk (V h.svc.toNat) h.type) c keys);rw[KH _ _ _ hk]at h1;rw[AP];split at h1<;>omega
theorem Rq{V:Nat->LServ}{keys:List ByteArray}(hk:keys.Nodup)(s:ByteArray)(l:List POwner):Fu V keys l s<=l.length:=by
 have:=Jt (V:=V) hk s l (λ_=>0);rw[Fu];omega
def Oy (v:Int->ByteArray->ByteArray->ByteArray->Option LVal) (s:Int) (ty f key:ByteArray) (x:LVal):Int->ByteArray->ByteArray->ByteArray->Option LVal:=λc b d a=>if c=s/\b=ty/\d=f/\a=key then some x else v c b d a
def IM (v:Int->ByteArray->ByteArray->ByteArray->Option LVal) (s:Int) (ty key:ByteArray) (l:List LVal):Int->ByteArray->ByteArray->ByteArray->Option LVal:=l.foldl (λv x=>Oy v s ty x.field key x) v
theorem RI(v:Int->ByteArray->ByteArray->ByteArray->Option LVal)(s:Int)(ty key:ByteArray)(l:List LVal)(x:LVal):IM v s ty key (l++[x])=Oy (IM v s ty key l) s ty x.field key x:=by unfold IM;rw[Bs];rfl
theorem JZ{h:ByteArray->LVal}(s:Int)(ty key:ByteArray):∀(fs:List ByteArray) (v:Int->ByteArray->ByteArray->ByteArray->Option LVal),(∀f,f∈fs->(h f).field=f)->∀e b d a,IM v s ty key (fs.map h) e b d a=if e=s/\b=ty/\a=key/\d∈fs then some (h d) else v e b d a
 | [],v,_,e,b,d,a=>by simp[IM]
 | f :: fs,v,hf,e,b,d,a=>by
  have ih:=JZ (h:=h) s ty key fs (Oy v s ty f key (h f)) (λg hg=>hf g (by simp[hg])) e b d a;have i:IM v s ty key ((f :: fs).map h)=IM (Oy v s ty (h f).field key (h f)) s ty key (fs.map h):=rfl;rw[i,hf f (by simp),ih]
  by_cases c:e=s/\b=ty/\a=key
  ·obtain⟨rfl,rfl,rfl⟩:=c
   by_cases c2:d∈fs
   ·rw[Af ⟨rfl,rfl,rfl,c2⟩,Af ⟨rfl,rfl,rfl,by simp[c2]⟩]
   ·rw[Ae (λh=>c2 h.2.2.2)]
    unfold Oy
    by_cases c3:d=f
    ·subst c3
     rw[Af ⟨rfl,rfl,rfl,rfl⟩,Af ⟨rfl,rfl,rfl,by simp⟩]
    ·rw[Ae (λh=>c3 h.2.2.1),Ae (λh=>by
      have:=h.2.2.2;simp[c3,c2]at this)]
  ·rw[Ae (λh=>c ⟨h.1,h.2.1,h.2.2.1⟩),Ae (λh=>c ⟨h.1,h.2.1,h.2.2.1⟩)]
   unfold Oy;rw[Ae (λh=>c ⟨h.1,h.2.1,h.2.2.2⟩)]
def El (q:ByteArray->Bool) (g:ByteArray->List LVal) (s:Int) (ty:ByteArray) (v:Int->ByteArray->ByteArray->ByteArray->Option LVal) (l:List ByteArray):Int->ByteArray->ByteArray->ByteArray->Option LVal:=l.foldl (λv key=>if q key then IM v s ty key (g key) else v) v
theorem Kd(q:ByteArray->Bool)(g:ByteArray->List LVal)(s:Int)(ty:ByteArray)(v:Int->ByteArray->ByteArray->ByteArray->Option LVal)(l:List ByteArray)(x:ByteArray):El q g s ty v (l++[x])=if q x then IM (El q g s ty v l) s ty x (g x) else El q g s ty v l:=by unfold El;rw[Bs];rfl
theorem Ov{q:ByteArray->Bool}{h:ByteArray->ByteArray->LVal}{fs:List ByteArray}(s:Int)(ty:ByteArray):∀(l:List ByteArray) (v:Int->ByteArray->ByteArray->ByteArray->Option LVal),(∀key,q key=true->∀f,f∈fs->(h key f).field=f)->∀i g j d,El q (λkey=>fs.map (h key)) s ty v l i g j d=if i=s/\g=ty/\d∈l/\q d=true/\j∈fs then some (h d j) else v i g j d
 | [],v,_,i,g,j,d=>by simp[El]
 | x :: l,v,hf,i,g,j,d=>by
  have m:El q (λkey=>fs.map (h key)) s ty v (x :: l)=El q (λkey=>fs.map (h key)) s ty (if q x then IM v s ty x (fs.map (h x)) else v) l:=rfl
  rw[m,Ov s ty l _ hf]
  by_cases c:i=s/\g=ty/\q d=true/\j∈fs
  ·obtain⟨rfl,rfl,c3,c4⟩:=c
   by_cases c5:d∈l
   ·rw[Af ⟨rfl,rfl,c5,c3,c4⟩,Af ⟨rfl,rfl,by simp[c5],c3,c4⟩]
   ·rw[Ae (λh=>c5 h.2.2.1)]
    by_cases k:d=x
    ·subst k
     rw[Af c3,JZ _ _ _ _ _ (hf d c3),Af ⟨rfl,rfl,rfl,c4⟩,Af ⟨rfl,rfl,by simp,c3,c4⟩]
    ·have n1 : ¬(i=i/\g=g/\d∈x :: l/\q d=true/\j∈fs):=λh=>by
      have:=h.2.2.1;simp[k,c5]at this
     rw[Ae n1]
     by_cases hq:q x=true
     ·rw[Af hq,JZ _ _ _ _ _ (hf x hq),Ae (λh=>k h.2.2.1)]
     ·rw[Ae hq]
  ·have n1 : ¬(i=s/\g=ty/\d∈l/\q d=true/\j∈fs):=λh=>c ⟨h.1,h.2.1,h.2.2.2.1,h.2.2.2.2⟩
   have n2 : ¬(i=s/\g=ty/\d∈x :: l/\q d=true/\j∈fs):=λh=>c ⟨h.1,h.2.1,h.2.2.2.1,h.2.2.2.2⟩;rw[Ae n1,Ae n2]
   by_cases hq:q x=true
   ·rw[Af hq,JZ _ _ _ _ _ (hf x hq),Ae]
    rintro⟨a,b,e,f⟩;subst e;exact c ⟨a,b,hq,f⟩
   ·rw[Ae hq]
def IX {d:Nat} (V:Nat->LServ) (p:PPart) (ps:List (Cg (d+1))) (h:POwner) (key:ByteArray):List LVal:=(B1 p h ps).map (F8 (CC (V h.svc.toNat) h.type key))
def EG {d:Nat} (V:Nat->LServ) (p:PPart) (ps:List (Cg (d+1))) (keys:List ByteArray) (hs:List POwner):Int->ByteArray->ByteArray->ByteArray->Option LVal :=
 hs.foldl (λv h=>El (Dk (V h.svc.toNat) h.type) (IX V p ps h) h.svc h.type v keys) (λ_ _ _ _=>none)
theorem MJ{d:Nat}(V:Nat->LServ)(p:PPart)(ps:List (Cg (d+1)))(keys:List ByteArray)(hs:List POwner)(h:POwner):EG V p ps keys (hs++[h])=El (Dk (V h.svc.toNat) h.type) (IX V p ps h) h.svc h.type (EG V p ps keys hs) keys:=by unfold EG;rw[Bs];rfl
structure GPart (n:Nat) (V:Nat->LServ) (p:PPart):Prop where
 r:PartR n V p
 n5:n<=5
 few:p.hs.length<=5
 home:∀f,¬BX p.fs.length (De p) f<0->∃h,h∈p.hs/\h.svc=(Dd p f).svc/\h.type=(Dd p f).type
 req:∀{d:Nat} {keys:List ByteArray} {ps:List (Cg (d+1))},keys.Nodup->keys≠[]->(∀k,k∈ps->¬BX p.fs.length (De p) (BT k)<0)->∀h,h∈p.hs->ReqR n V (CW p keys ps h)
 x60:∀s,s<n->(V s).nx<=60
theorem Ud{n:Nat}{V:Nat->LServ}(h0:(DT n V).1=0){nm:ByteArray}(h : ¬Ca (Cr (CQ V) (BZ V) n).length (DI (Cr (CQ V) (BZ V) n)) nm<0):GPart n V (Du (Cr (CQ V) (BZ V) n) nm):=by
 have a:Char (Cr (CQ V) (BZ V) n) (DZ (CQ V) (BZ V) n):=FD n;obtain⟨c,b,d,-⟩:=Fs h0;refine⟨S4 h0 h,c,?_,λf hf=>?_,λhk hs hf x hx=>?_,λs hs=>?_⟩
 ·rw[G0 a h]
  unfold EL;rw[A6];exact Am (Jb n λj g=>D2 (Dn (b j g)) (V j).nc) c
 ·rw[G0 a h]at hf ⊢
  exact Qd d hf
 ·rw[G0 a h]at hf hx ⊢
  exact PS h0 hk hs hf hx
 ·have:=(E5 (GO h0)).2 s hs
  rcases Nat.eq_zero_or_pos (V s).nx with e|e
  ·omega
  ·exact(GX this.2 e).1
theorem K5{d:Nat}{p:PPart}{h:POwner}{ps:List (Cg (d+1))}{f : ByteArray}(hf:f∈B1 p h ps):∃k,k∈ps/\(Dd p (BT k)).svc=h.svc/\(Dd p (BT k)).type=h.type/\(Dd p (BT k)).field=f:=by
 unfold B1 at hf;obtain⟨k,hk,rfl⟩:=List.mem_map.1 (Fb.1 hf);obtain⟨h1,h2⟩:=List.mem_filter.1 hk;unfold EC at h2;simp only[Bn,decide_eq_true_eq,Ch]at h2;exact⟨k,h1,h2.1,h2.2,rfl⟩
theorem SJ{d:Nat}{p:PPart}{h:POwner}{ps:List (Cg (d+1))}{k:Cg (d+1)}(hk:k∈ps)(h1:h.svc=(Dd p (BT k)).svc)(h2:h.type=(Dd p (BT k)).type):(Dd p (BT k)).field∈B1 p h ps:=by
 unfold B1;refine Fb.2 (List.mem_map.2 ⟨k,List.mem_filter.2 ⟨hk,?_⟩,rfl⟩);unfold EC;simp only[Bn,decide_eq_true_eq,Ch];exact⟨h1.symm,h2.symm⟩
theorem Hv{d:Nat}(p:PPart)(h:POwner)(ps:List (Cg (d+1))):(B1 p h ps).length<=ps.length:=by
 unfold B1;refine Am (Gv _) ?_;rw[A6];exact List.length_filter_le _ _
def Lw {d:Nat} (p:PPart) (ps:List (Cg (d+1))):Prop := ∀k,k∈ps->¬BX p.fs.length (De p) (BT k)<0
theorem Md{n d:Nat}{V:Nat->LServ}{p:PPart}(e:GPart n V p){ps:List (Cg (d+1))}(hf:Lw p ps){h:POwner}{f key:ByteArray}(i:f∈B1 p h ps)(hk:Dk (V h.svc.toNat) h.type key=true) :
  ∃m,m<(CC (V h.svc.toNat) h.type key).nv/\F8 (CC (V h.svc.toNat) h.type key) f=(CC (V h.svc.toNat) h.type key).V m/\((CC (V h.svc.toNat) h.type key).V m).field=f/\(∀b,b<(CC (V h.svc.toNat) h.type key).nv->(eqs ((CC (V h.svc.toNat) h.type key).V b).field f=true↔b=m))/\((CC (V h.svc.toNat) h.type key).V m).nk<=20:=by
 obtain⟨k,c,e1,e2,e3⟩:=K5 i;obtain⟨s,hs,j,ho⟩:=e.r.owner _ (hf k c);have a:h.svc.toNat=s:=by rw[<-e1,j];simp
 rw[a,<-e2]at hk;obtain⟨m,h1,h2,h3,g,-,h4⟩:=ho key hk;rw[a,<-e2,<-e3];exact⟨m,h1,h2,Ch.1 ((h3 m h1).2 rfl),h3,h4.few⟩
theorem Pj{n d:Nat}{V:Nat->LServ}{p:PPart}(a:GPart n V p){ps:List (Cg (d+1))}(hf:Lw p ps){h:POwner}(key:ByteArray)(hk:Dk (V h.svc.toNat) h.type key=true)(f:ByteArray)(b:f∈B1 p h ps):(F8 (CC (V h.svc.toNat) h.type key) f).field=f:=by
 obtain⟨m,-,h2,h3,-⟩:=Md a hf b hk;rw[h2,h3]
theorem J7{n d:Nat}{V:Nat->LServ}{p:PPart}(b:GPart n V p){ps:List (Cg (d+1))}(hf:Lw p ps)(keys:List ByteArray):∀(hs:List POwner) (v:Int->ByteArray->ByteArray->ByteArray->Option LVal) (s:Int) (ty f key:ByteArray),
  (hs.foldl (λv h=>El (Dk (V h.svc.toNat) h.type) (IX V p ps h) h.svc h.type v keys) v) s ty f key=if (∃h,h∈hs/\h.svc=s/\h.type=ty)/\key∈keys/\Dk (V s.toNat) ty key=true/\f∈B1 p ⟨s,ty,⟨#[]⟩⟩ ps then some (F8 (CC (V s.toNat) ty key) f) else v s ty f key
 | [],v,s,ty,f,key=>by simp
 | h :: hs,v,s,ty,f,key=>by
  have hv:=Ov (q:=Dk (V h.svc.toNat) h.type) (h:=λkey=>F8 (CC (V h.svc.toNat) h.type key)) (fs:=B1 p h ps) h.svc h.type keys v (λkey hk f e=>Pj b hf key hk f e) s ty f key;rw[By,J7 b hf keys hs]
  by_cases c:key∈keys/\Dk (V s.toNat) ty key=true/\f∈B1 p ⟨s,ty,⟨#[]⟩⟩ ps
  ·by_cases c2:∃h,h∈hs/\h.svc=s/\h.type=ty
   ·rw[Af ⟨c2,c⟩,Af ⟨let ⟨h,h1,h2⟩:=c2;⟨h,by simp[h1],h2⟩,c⟩]
   ·rw[Ae (λh=>c2 h.1)]
    by_cases c3:h.svc=s/\h.type=ty
    ·obtain⟨e1,e2⟩:=c3
     rw[Af ⟨⟨h,by simp,e1,e2⟩,c⟩];show El _ (λkey=>(B1 p h ps).map (F8 (CC (V h.svc.toNat) h.type key))) h.svc h.type v keys s ty f key=_;rw[hv,Af]
     ·rw[e1,e2]
     ·refine⟨e1.symm,e2.symm,c.1,by rw[e1,e2];exact c.2.1,?_⟩
      have:B1 p h ps=B1 p ⟨s,ty,⟨#[]⟩⟩ ps:=by rw[<-e1,<-e2];rfl
      rw[this];exact c.2.2
    ·rw[Ae (λa=>by
      obtain⟨⟨x,hx,e1,e2⟩,-⟩:=a;rcases List.mem_cons.1 hx with rfl|hx
      ·exact c3 ⟨e1,e2⟩
      ·exact c2 ⟨x,hx,e1,e2⟩)]
     show El _ (λkey=>(B1 p h ps).map (F8 (CC (V h.svc.toNat) h.type key))) h.svc h.type v keys s ty f key=_;rw[hv,Ae (λa=>c3 ⟨a.1.symm,a.2.1.symm⟩)]
  ·rw[Ae (λh=>c h.2),Ae (λh=>c h.2)]
   show El _ (λkey=>(B1 p h ps).map (F8 (CC (V h.svc.toNat) h.type key))) h.svc h.type v keys s ty f key=_;rw[hv,Ae];rintro⟨e1,e2,e3,g,i⟩;refine c ⟨e3,by rw[e1,e2];exact g,?_⟩;have:B1 p h ps=B1 p ⟨s,ty,⟨#[]⟩⟩ ps:=by rw[e1,e2];rfl
   rw[<-this];exact i
theorem Iw{n d:Nat}{V:Nat->LServ}{p:PPart}(b:GPart n V p){ps:List (Cg (d+1))}(hf:Lw p ps){keys:List ByteArray}{k:Cg (d+1)}(hk:k∈ps){key:ByteArray}(a:key∈keys) :
  EG V p ps keys p.hs (Dd p (BT k)).svc (Dd p (BT k)).type (Dd p (BT k)).field key=if Dk (V (Dd p (BT k)).svc.toNat) (Dd p (BT k)).type key=true then some (F8 (CC (V (Dd p (BT k)).svc.toNat) (Dd p (BT k)).type key) (Dd p (BT k)).field) else none:=by
 unfold EG;rw[J7 b hf]
 by_cases c:Dk (V (Dd p (BT k)).svc.toNat) (Dd p (BT k)).type key=true
 ·rw[Af c,Af ⟨b.home _ (hf k hk),a,c,SJ hk rfl rfl⟩]
 ·rw[Ae c,Ae (λh=>c h.2.2.1)]
def KZ (o:Option LVal):List ByteArray:=match o with
 |none=>[]
 |some x=>D3 x
theorem OV{n d:Nat}{V:Nat->LServ}{p:PPart}(b:GPart n V p){ps:List (Cg (d+1))}(hf:Lw p ps){keys:List ByteArray}{k:Cg (d+1)}(hk:k∈ps){key:ByteArray}(a:key∈keys):KZ (EG V p ps keys p.hs (Dd p (BT k)).svc (Dd p (BT k)).type (Dd p (BT k)).field key)=EM V (Dd p (BT k)) key:=by
 rw[Iw b hf hk a];unfold EM;split
 ·rfl
 ·rfl
theorem LU{α:Type}[DecidableEq α]:∀(l m:List α),l.Nodup->(∀x,x∈l->x∈m)->l.length<=m.length
 | [],_,_,_=>Ai _
 | x :: l,m,h,hs=>by
  have hx:=List.nodup_cons.1 h;have h1:=LU l (m.erase x) hx.2 λy a=>(List.mem_erase_of_ne (λe=>by subst e;exact hx.1 a)).2 (hs y (by simp[a]));have h2:=List.length_erase_of_mem (hs x (by simp));have h3:0<m.length:=List.length_pos_of_mem (hs x (by simp));rw[AP];omega
theorem Ol{α β:Type}{f : α->List β}{q:α->Bool}{b:Nat} : ∀(l:List α),(∀x,x∈l->(f x).length<=if q x then b else 0)->(l.flatMap f).length<=(l.filter q).length*b
 | [],_=>Ai _
 | x :: l,h=>by
  have h1:=h x (by simp);have h2:=Ol l λy a=>h y (by simp[a]);rw[List.flatMap_cons,Ay]
  by_cases e:q x=true
  ·rw[Af e]at h1
   rw[Bp e,AP,Nat.add_mul];omega
  ·rw[Ae e]at h1
   rw[Bo e];omega
theorem On{n d:Nat}{V:Nat->LServ}{p:PPart}(j:GPart n V p){ps:List (Cg (d+1))}(hf:Lw p ps){k:Cg (d+1)}(hk:k∈ps){keys:List ByteArray}(hn:keys.Nodup):(keys.flatMap (EM V (Dd p (BT k)))).length<=1200:=by
 obtain⟨s,hs,l,ho⟩:=j.r.owner _ (hf k hk);have a:(Dd p (BT k)).svc.toNat=s:=by rw[l];simp
 have h1:=Ol (f:=EM V (Dd p (BT k))) (q:=λkey=>Dk (V s) (Dd p (BT k)).type key) (b:=20) keys λkey _=>by
  unfold EM;rw[a]
  by_cases c:Dk (V s) (Dd p (BT k)).type key=true
  ·rw[Af c,Af c]
   obtain⟨m,-,e,-,g,-,o⟩:=ho key c;rw[e];unfold D3;rw[A6,Bu];exact o.few
  ·rw[Ae c,Ae c];exact Aj _
 have h2:(keys.filter (λkey=>Dk (V s) (Dd p (BT k)).type key)).length<=((List.range (V s).nx).map (λi=>((V s).X i).key)).length:=LU _ _ (hn.filter _) λx hx=>by
  obtain⟨-,h⟩:=List.mem_filter.1 hx;obtain⟨i,hi,-,-,-,e⟩:=Iz h;exact List.mem_map.2 ⟨i,by simpa using hi,e⟩
 rw[A6,Bu]at h2;have h3:=j.x60 s hs;have h4:(keys.filter (λkey=>Dk (V s) (Dd p (BT k)).type key)).length*20<=60*20:=Nat.mul_le_mul_right 20 (by omega);omega
end Go.Proofs.YtjjggefmmeminabGreat
