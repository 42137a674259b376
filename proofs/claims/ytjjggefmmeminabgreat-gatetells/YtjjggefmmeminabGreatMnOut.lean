import Derived.Test.YtjjggefmmeminabGreatJMg
import Derived.Test.YtjjggefmmeminabGreatMnGot
namespace Go.Proofs.YtjjggefmmeminabGreat
open Go.RowKit Go.Sort Go.PlainAid
def F0 (w:World) (a:Option Addr) (n:Nat) (O:Nat->POwner):Prop:=n<=maxLen/\∀i,i<n->∃b o,a=some ⟨b,o,none⟩/\w.cell? ⟨b,o+i*3,none⟩=some (.int .i64 (O i).svc)/\w.cell? ⟨b,o+i*3+1,none⟩=some (.string (O i).type)/\w.cell? ⟨b,o+i*3+2,none⟩=some (.string (O i).field)/\Jp (O i)
theorem F0.kept{w w':World}{a:Option Addr}{n:Nat}{O:Nat->POwner}(h:F0 w a n O)(hB:Below w.heap.size w w'):F0 w' a n O :=
 ⟨h.1,λi hi=>let ⟨b,o,e,c0,c1,c2,g⟩:=h.2 i hi;⟨b,o,e,BR hB c0,BR hB c1,BR hB c2,g⟩⟩
theorem B9.ownersAt{w:World}{base e n:Nat}{v:Value}{O:Nat->POwner}(h:B9 w base e 3 v n (Cy O))(hn:n<=maxLen)(hg:∀j,j<n->Jp (O j)):∃a cap,v= .slice a n cap/\n<=cap/\F0 w a n O:=by
 rcases h.shape with⟨rfl,rfl⟩|⟨g,cap,rfl,-,hc,-⟩
 ·exact⟨none,0,rfl,Aj _,Ai _,λi hi=>absurd hi (Ak _)⟩
 ·refine⟨_,cap,rfl,hc,hn,λi hi=>⟨g,0,rfl,?_,?_,?_,hg i hi⟩⟩
  ·rw[AL,h.cell (j:=i*3) (by omega)];unfold Cy;rw[Af (by omega),show i*3 / 3=i by omega]
  ·rw[AL,h.cell (j:=i*3+1) (by omega)];unfold Cy;rw[Ae (by omega),Af (by omega),show (i*3+1) / 3=i by omega]
  ·rw[AL,h.cell (j:=i*3+2) (by omega)];unfold Cy;rw[Ae (by omega),Ae (by omega),show (i*3+2) / 3=i by omega]
structure PtAt (w:World) (b o:Nat) (p:PPart) (fa oa ha:Option Addr) (fc oc hc:Nat):Prop where
 c0:w.cell? ⟨b,o,none⟩=some (.string p.name)
 c1:w.cell? ⟨b,o+1,none⟩=some (.slice fa p.fs.length fc)
 c2:w.cell? ⟨b,o+2,none⟩=some (.slice oa p.os.length oc)
 c3:w.cell? ⟨b,o+3,none⟩=some (.slice ha p.hs.length hc)
 name:BY p.name
 fields:Cl w fa p.fs.length (De p)
 owners:F0 w oa p.os.length (D1 p)
 homes:F0 w ha p.hs.length (Eg p)
 fcap:p.fs.length<=fc
 ocap:p.os.length<=oc
 hcap:p.hs.length<=hc
theorem PtAt.kept{w w':World}{b o:Nat}{p:PPart}{fa oa ha:Option Addr}{fc oc hc:Nat}(h:PtAt w b o p fa oa ha fc oc hc)(hB:Below w.heap.size w w'):PtAt w' b o p fa oa ha fc oc hc :=
 ⟨BR hB h.c0,BR hB h.c1,BR hB h.c2,BR hB h.c3,h.name,h.fields.kept hB,h.owners.kept hB,h.homes.kept hB,h.fcap,h.ocap,h.hcap⟩
def S5 (w:World) (a:Option Addr) (L:List PPart):Prop:=L.length<=maxLen/\∀i,i<L.length->∃b o fa oa ha fc oc hc,a=some ⟨b,o,none⟩/\PtAt w b (o+i*4) (Ci L i) fa oa ha fc oc hc
theorem Parts.pts{Z:Nat->Prop}{w:World}{a:Option Addr}{n cap:Nat}{L:List PPart}{b:Nat->Nat->Value}(h:Parts Z w (.slice a n cap) L b):n=L.length/\L.length<=cap/\S5 w a L:=by
 obtain⟨A,c,e,hc⟩:=h.slice;cases e;refine⟨rfl,hc,h.nmax,λi hi=>?_⟩;obtain⟨g,B,k,c1,l,c2,m,c3,hv,e1,e2,e3,o,k1,p,q⟩:=h.aggs hi;cases hv;have hg:=h.good i hi;have r:B9 w 0 113 3 (b 0 i) (Ci L i).fs.length (B2 (De (Ci L i))):=h.rows 0 i (by decide) hi;have s:B9 w 0 92 3 (b 1 i) (Ci L i).os.length (Cy (D1 (Ci L i))):=h.rows 1 i (by decide) hi;have u:B9 w 0 92 3 (b 2 i) (Ci L i).hs.length (Cy (Eg (Ci L i))):=h.rows 2 i (by decide) hi;obtain⟨C,D,f1,v,hF⟩:=r.fieldsAt (hg.len 0) hg.fs;obtain⟨b2,E,d,g2,x⟩:=s.ownersAt (hg.len 1) hg.os;obtain⟨F,G,j,y,z⟩:=u.ownersAt (hg.len 2) hg.hs;rw[e1]at f1;rw[e2]at d;rw[e3]at j;cases f1;cases d;cases j;refine⟨g,0,k,l,m,c1,c2,c3,rfl,?_⟩;rw[AL];exact⟨o,k1,p,q,hg.name,hF,x,z,v,g2,y⟩
theorem S5.check{w:World}{a:Option Addr}{L:List PPart}(h:S5 w a L):∃P,EX w a L.length P/\∀(d:Nat) (type key:ByteArray) (ps:List (Cg d)),cA L.length P d type key ps=cA L.length (DI L) d type key ps:=by
 have g:∀i,∃q:LPart,i<L.length->∃b o,a=some ⟨b,o,none⟩/\w.cell? ⟨b,o+i*4,none⟩=some (.string q.name)/\w.cell? ⟨b,o+i*4+1,none⟩=some (.slice q.fa q.nf q.fcap)/\w.cell? ⟨b,o+i*4+2,none⟩=some (.slice q.oa q.no q.ocap)/\w.cell? ⟨b,o+i*4+3,none⟩=some (.slice q.ha q.nh q.hcap)/\BY q.name/\Cl w q.fa q.nf q.F/\q.name=(Ci L i).name/\q.nf=(Ci L i).fs.length/\q.F=De (Ci L i):=λi=>by
  by_cases hi:i<L.length
  ·obtain⟨b,o,fa,oa,ha,fc,oc,hc,e,c⟩:=h.2 i hi
   exact⟨⟨(Ci L i).name,fa,(Ci L i).fs.length,fc,De (Ci L i),oa,(Ci L i).os.length,oc,ha,(Ci L i).hs.length,hc⟩,λ_=>⟨b,o,e,c.c0,c.c1,c.c2,c.c3,c.name,c.fields,rfl,rfl,rfl⟩⟩
  ·exact⟨DI L i,λl=>absurd l hi⟩
 obtain⟨P,k⟩:=Classical.axiomOfChoice g;refine⟨P,⟨h.1,λi hi=>?_⟩,λd type key ps=>Su (λi hi=>?_) d type key ps⟩
 ·obtain⟨b,o,e,c0,c1,c2,c3,s0,hF,-⟩:=k i hi
  exact⟨b,o,e,c0,c1,c2,c3,s0,hF⟩
 ·obtain⟨b,o,-,-,-,-,-,-,-,e1,e2,e3⟩:=k i hi
  refine⟨e1,e2,λj _=>?_⟩;rw[e3];rfl
theorem Tryz.info26:(Tryz.prog.info? 26).map (λi=>(i.zero,i.size,i.bytes))=some (some (.slice none 0 0),1,24):=by kernel_rfl
theorem Tryz.info56:(Tryz.prog.info? 56).map (λi=>(i.zero,i.size,i.bytes))=some (some (.agg #[.string ⟨#[]⟩,.int .i64 0,.bool false,.string ⟨#[]⟩,.slice none 0 0,.slice none 0 0]),6,96):=by kernel_rfl
def Ev (N0:Nat):(d:Nat)->World->Option Addr->Nat->List (DH d)->Prop
 | 0,_,_,_,_=>True
 | d+1,w,a,c,L=>L.length<=maxLen/\∃b sv,GRow (d:=d) N0 w (.slice a L.length c) L b sv
theorem Ev.free{N0 d:Nat}{w:World}{a:Option Addr}{c:Nat}{L:List (DH d)}(h:Ev N0 d w a c L):EA (λk=>k<N0) w (λw=>Dg w d a L):=by
 cases d with
 |zero=>exact λ_ _=>trivial
 |succ d =>
  obtain⟨b,i,sv,g⟩:=h;obtain⟨j,l,e,-,hf⟩:=g.out b;cases e;exact hf
def CG (X:Nat->Prop) (w w':World):Prop:=Keep (λk=>k<w.heap.size/\¬X k) w w'
theorem CG.refl(X:Nat->Prop)(w:World):CG X w w:=Keep.refl _ _
theorem CG.of{X:Nat->Prop}{w w':World}(h:Below w.heap.size w w'):CG X w w':=Keep.of h λ_ h=>h.1
theorem CG.trans{X Y:Nat->Prop}{w a b:World}(h:CG X w a)(c:CG Y a b)(d:∀k,k<w.heap.size->Y k->X k):CG X w b :=
 Keep.trans h (Keep.mono c λk hk=>⟨Ah hk.1 h.size,λe=>hk.2 (d k hk.1 e)⟩)
theorem CG.cell{X:Nat->Prop}{w w':World}(h:CG X w w'){p:Addr}{v:Value}(a:w.cell? p=some v)(hx : ¬X p.block):w'.cell? p=some v:=(Keep.cell h ⟨An a,hx⟩).trans a
def GS {d:Nat} (g:DH (d+1)) (A:Option Addr) (C:Nat) (A2:Option Addr) (C2:Nat):Array Value:=#[.string (Fp g),.int .i64 (Fq g),.bool (Fo g),.string (Fm g),.slice A (Fr g).length C,.slice A2 (DN g).length C2]
theorem Ra(V:Nat->LServ)(p:PPart)(key:ByteArray):decide (0<=Ds p.hs.length (λi=>Dk (V (Eg p i).svc.toNat) (Eg p i).type key))=DY V p key:=by
 unfold DY;have a:∀i (h:i<p.hs.length),Eg p i=p.hs[i]:=λi h=>by unfold Eg;rw[AT,AU h];rfl
 rcases CE p.hs.length (λi=>Dk (V (Eg p i).svc.toNat) (Eg p i).type key) with⟨h,hb⟩|⟨k,hk,h,b,-⟩
 ·rw[h]
  symm;show _=false;rw[List.any_eq_false];intro x hx;obtain⟨i,hi,rfl⟩:=Bl hx;have:=hb i hi;rw[a i hi]at this;rw[this];decide
 ·rw[h]
  symm;rw[show decide ((0:Int)<=(k:Int))=true by simp,BN];refine⟨p.hs[k],AW hk,?_⟩;have h1:Dk (V (Eg p k).svc.toNat) (Eg p k).type key=true:=b;rw[a k hk]at h1;exact h1
theorem Parts.pt{Z:Nat->Prop}{w:World}{v:Value}{L:List PPart}{a:Nat->Nat->Value}(h:Parts Z w v L a){i:Nat}(hi:i<L.length):∃g cap b c1 c c2 d c3,v= .slice (some ⟨g,0,none⟩) L.length cap/\a 0 i= .slice b (Ci L i).fs.length c1/\a 1 i= .slice c (Ci L i).os.length c2/\a 2 i= .slice d (Ci L i).hs.length c3/\PtAt w g (i*4) (Ci L i) b c d c1 c2 c3:=by
 obtain⟨g,k,b,c1,c,c2,d,c3,hv,e1,e2,e3,l,k1,m,n⟩:=h.aggs hi;have hg:=h.good i hi;have o:B9 w 0 113 3 (a 0 i) (Ci L i).fs.length (B2 (De (Ci L i))):=h.rows 0 i (by decide) hi;have p:B9 w 0 92 3 (a 1 i) (Ci L i).os.length (Cy (D1 (Ci L i))):=h.rows 1 i (by decide) hi;have q:B9 w 0 92 3 (a 2 i) (Ci L i).hs.length (Cy (Eg (Ci L i))):=h.rows 2 i (by decide) hi;obtain⟨y,z,f1,r,hF⟩:=o.fieldsAt (hg.len 0) hg.fs;obtain⟨b2,A,e,g2,s⟩:=p.ownersAt (hg.len 1) hg.os;obtain⟨B,C,j,u,x⟩:=q.ownersAt (hg.len 2) hg.hs;rw[e1]at f1;rw[e2]at e;rw[e3]at j;cases f1;cases e;cases j;exact⟨g,k,b,c1,c,c2,d,c3,hv,e1,e2,e3,l,k1,m,n,hg.name,hF,s,x,r,g2,u⟩
def Rz (L:List PPart) (d:Nat) (fl:LField) (ps:List (Cg d)):Prop:=(fl.kind=1/\ps = [])\/(fl.kind≠1/\ps≠[]/\¬Ca L.length (DI L) fl.type<0/\cR L.length (DI L) d (Du L fl.type).fs.length (De (Du L fl.type)) [] ps=0)
def Um (V:Nat->LServ) (s:Nat) (fl:LField) (o:POwner):Prop := ∀key,Dk (V s) o.type key=true->∃m,m<(CC (V s) o.type key).nv/\F8 (CC (V s) o.type key) o.field=(CC (V s) o.type key).V m /\
 (∀a,a<(CC (V s) o.type key).nv->(eqs ((CC (V s) o.type key).V a).field o.field=true↔a=m))/\∃g:LField,g.kind=fl.kind/\ValR g ((CC (V s) o.type key).V m)
theorem Gb{w:World}{b:Nat}{a:Array Value}{c0 c1 c2 c3 c4 c5:Value}(h:w.heap[b]? = some (.cells a 56 (0,0)))(e:a = #[c0,c1,c2,c3,c4,c5]):(w.cell? ⟨b,0,none⟩=some c0/\w.cell? ⟨b,1,none⟩=some c1/\w.cell? ⟨b,2,none⟩=some c2/\w.cell? ⟨b,3,none⟩=some c3/\w.cell? ⟨b,4,none⟩=some c4/\w.cell? ⟨b,5,none⟩=some c5)/\w.frozen? ⟨b,0,none⟩=false/\w.frozen? ⟨b,1,none⟩=false/\w.frozen? ⟨b,2,none⟩=false/\w.frozen? ⟨b,3,none⟩=false/\w.frozen? ⟨b,4,none⟩=false/\w.frozen? ⟨b,5,none⟩=false:=by
 subst e;simp[World.cell?,World.frozen?,h]
theorem SW{α β:Type}(f:α->β)(l:List α)(k:Nat)(h:k<l.length):(l.map f).take (k+1)=(l.map f).take k++[f l[k]]:=by
 rw[AS (by simpa using h),List.getElem_map]
theorem IW{L:List PPart}{d:Nat}{p:PPart}{ps:List (Cg (d+1))}(h:cR L.length (DI L) (d+1) p.fs.length (De p) [] ps=0){j:Nat}(a:j<ps.length) : ¬BX p.fs.length (De p) (BT (BS ps j))<0/\Rz L d (EQ p (BT (BS ps j))) (subs (BS ps j)):=by
 obtain⟨c,h1⟩:=QE h a;obtain⟨hf,b⟩:=Qt h1;exact⟨hf,b⟩
theorem Vj{L:Nat->Bool}{l:List Oper}(h:∀k,L k=true->k<l.length)(a:l.length<=99):L 99=false:=by
 cases e:L 99 with
 |false=>rfl
 |true=>have:=h 99 e;omega
theorem Ce{L:Nat->Bool}{i j:Nat}(h:L j=true->L i=true)(hi:L i=false):L j=false:=by
 cases e:L j with
 |false=>rfl
 |true=>rw[h e]at hi;cases hi
theorem E7{w:World}{base e size n:Nat}{v:Value}{b:List Value}(h:w.ownsRow base e size v n b):∃a c,v= .slice a n c:=by
 rcases h.2 with⟨rfl,rfl⟩|⟨g,cap,cur,rfl,-⟩
 ·exact⟨_,_,rfl⟩
 ·exact⟨_,_,rfl⟩
theorem Tm{w:World}{b t:Nat}{d:Array Value}(h:w.heap[b]? = some (.cells d t (0,0))):∀a,some (⟨b,0,none⟩:Addr)=some a->∀j u,d.toList[j]? = some u->w.cell? (a.add j)=some u:=by
 intro a c j u e;cases c;rw[AO];simp[World.cell?,h];simpa using e
theorem Pg{P:Program}{o:Oper}{s:Nat->Value}{w:World}{K:(Nat->Value)->World->Prop}(x y:Operand)(t:TypeId)(ho:o.op=Op.call { callee:=Callee.builtin Builtin.append,args:=#[x,y],argTypes:=#[t,t] })(base:Nat)(e:TypeId)(i:TypeInfo)(z:Value)(size bytes:Nat)(F:P.underlying t=some (.slice e))(hi:P.info? e=some i)(G:i.zero=some z)(g:i.size=size)(r:i.bytes=bytes)(A:z.cells.size=size)(B:0<size)(v:Value)(n:Nat)(C:List Value)(hx:BV s x=v)(p:w.ownsRow base e size v n C)(b:Option Addr)(m c:Nat)(a:List Value)(H:BV s y= .slice b m c)(I:a.length=m*size)(h:∀E,b=some E->∀j u,a[j]? = some u->w.cell? (E.add j)=some u)(q:b=none->m=0)(h1:∀u∈a,u.oneCell'=true)(D:n+m<=maxLen)(d:(n+m)*bytes<=140737488355328)(k:base<=w.heap.size)(J:∀l w',w'.ownsRow base e size l (n+m) (C++a)->w.grownBy w' v.ownBlock->(l.ownBlock=v.ownBlock\/l.ownBlock=some w.heap.size)->K (ED s o.dst l) w'):Eb P o s w K:=by
 obtain⟨l,w',L,h2,h3,M⟩:=DG (P:=P) w base t o.type e i z size bytes F hi G g r A B v n C p b m c a I h q h1 D d k;refine BU (v:=l) (w':=w') ?_ (J l w' h2 h3 M);simp[execOp,ho,resolve,invoke,builtin,hx,H,L,Result.andThen]
theorem GRow.base{N0 N1 d:Nat}{w:World}{v:Value}{L:List (DH (d+1))}{a sv:Nat->Value}(h:GRow N1 w v L a sv)(b:N0<=N1):GRow N0 w v L a sv:=by
 refine⟨⟨h.row.1,?_⟩,λi hi=>let ⟨A,C,A2,C2,e1,e2,hf⟩:=h.sub i hi;⟨A,C,A2,C2,e1,e2,hf.step (Aj _) (λ_ _ _=>rfl) λk _ hk=>hk.elim (λh=>.inl (by omega)) .inr⟩⟩;rcases h.row.2 with h|⟨g,cap,cur,e,hg,r⟩
 ·exact .inl h
 ·exact .inr ⟨g,cap,cur,e,Am b hg,r⟩
theorem SRow.base{N0 N1 d:Nat}{w:World}{v:Value}{S:List (List (DH d))}{sv:Nat->Value}(h:SRow N1 w v S sv)(a:N0<=N1):SRow N0 w v S sv :=
 ⟨⟨h.row.1,h.row.2.imp id λ⟨g,cap,cur,e,hg,r⟩=>⟨g,cap,cur,e,Am a hg,r⟩⟩,λi hi=>let ⟨A,C,e1,e2,hf⟩:=h.sub i hi;⟨A,C,e1,e2,hf.less λ_ _ hx=>hx.imp (λhk=>Ah hk a) id⟩⟩
theorem Ev.base{N0 N1 d:Nat}{w:World}{a:Option Addr}{c:Nat}{L:List (DH d)}(h:Ev N1 d w a c L)(b:N0<=N1):Ev N0 d w a c L:=by
 cases d with
 |zero=>trivial
 |succ d =>
  obtain⟨e,g,sv,i⟩:=h;exact⟨e,g,sv,i.base b⟩
theorem Ev.nil(N0 d:Nat)(w:World):Ev N0 d w none 0 []:=by
 cases d with
 |zero=>trivial
 |succ d=>exact⟨Ai _,λ_=>undef,λ_=>undef,GRow.nil _ _ _ _ _⟩
def Qq (N0 d:Nat) (M:List (DH d)) (x:Int) (e:Ending) (w':World):Prop := ∃va vc,e= .returned (.tuple #[.slice va M.length vc,.int .i64 x])/\M.length<=vc/\Ev N0 d w' va vc M
theorem GJ{N0 d:Nat}{M:List (DH d)}{x:Int}{w:World}(h:M = []):Qq N0 d M x (.returned (.tuple #[.slice none 0 0,.int .i64 x])) w:=by
 subst h;exact⟨none,0,rfl,Aj _,Ev.nil _ _ _⟩
end Go.Proofs.YtjjggefmmeminabGreat
