import Derived.Test.YtjjggefmmeminabGreatJGp
import Derived.Test.YtjjggefmmeminabGreatMnOut
namespace Go.Proofs.YtjjggefmmeminabGreat
open Go.RowKit Go.Sort Go.PlainAid
def CH (l:List ByteArray) (i:Nat):ByteArray:=l.getD i ⟨#[]⟩
def DX (w:World) (a:Option Addr) (l:List ByteArray):Prop:=CF w a l.length (CH l)
theorem DX.kept{w w':World}{a:Option Addr}{l:List ByteArray}(h:DX w a l)(hB:Below w.heap.size w w'):DX w' a l:=CF.kept hB h
theorem DX.free{X:Nat->Prop}{w:World}{a:Option Addr}{l:List ByteArray}(h:DX w a l)(hx:∀g,a=some g->¬X g.block):EA X w (λw=>DX w a l):=λw' d=>⟨h.1,λi hi=>by
 obtain⟨b,o,e,c,s⟩:=h.2 i hi;have hb:b<w.heap.size:=An c;exact⟨b,o,e,by rw[Aw (d b hb (hx _ e))];exact c,s⟩⟩
def Vd:PReq:=⟨0,⟨#[]⟩,[],[]⟩
def Ej (L:List PReq) (i:Nat):PReq:=L.getD i Vd
theorem Gz(L M:List PReq)(i:Nat):Ej (L++M) i=if i<L.length then Ej L i else Ej M (i - L.length):=by
 unfold Ej;rw[AT,AT,AT,BM];split<;>rfl
def Ff (w:World) (a:Option Addr) (L:List PReq):Prop:=L.length<=maxLen/\∀i,i<L.length->∃b o A C A2 C2,a=some ⟨b,o,none⟩/\w.cell? ⟨b,o+i*4,none⟩=some (.int .i64 (Ej L i).svc)/\w.cell? ⟨b,o+i*4+1,none⟩=some (.string (Ej L i).type)/\w.cell? ⟨b,o+i*4+2,none⟩=some (.slice A (Ej L i).keys.length C)/\w.cell? ⟨b,o+i*4+3,none⟩=some (.slice A2 (Ej L i).fields.length C2) /\
 (Ej L i).keys.length<=C/\(Ej L i).fields.length<=C2/\DX w A (Ej L i).keys/\DX w A2 (Ej L i).fields
theorem Ff.kept{w w':World}{a:Option Addr}{L:List PReq}(h:Ff w a L)(hB:Below w.heap.size w w'):Ff w' a L :=
 ⟨h.1,λi hi=>let ⟨b,o,A,C,A2,C2,e,c0,c1,c2,c3,l1,l2,h1,h2⟩:=h.2 i hi;⟨b,o,A,C,A2,C2,e,BR hB c0,BR hB c1,BR hB c2,BR hB c3,l1,l2,h1.kept hB,h2.kept hB⟩⟩
theorem Ff.none{w:World}{a:Option Addr}:Ff w a []:=⟨Ai _,λ_ hi=>absurd hi (Ak _)⟩
def Dl (L:List PReq) (kv fv:Nat->Value) (j:Nat):Value:=if j % 4=0 then .int .i64 (Ej L (j / 4)).svc else if j % 4=1 then .string (Ej L (j / 4)).type else if j % 4=2 then kv (j / 4) else fv (j / 4)
def N7 (r:PReq) (v u:Value):List Value:=[.int .i64 r.svc,.string r.type,v,u]
theorem Gr(L M:List PReq)(kv fv a b:Nat->Value):(List.range ((L.length+M.length)*4)).map (Dl (L++M) (λi=>if i<L.length then kv i else a (i - L.length)) (λi=>if i<L.length then fv i else b (i - L.length)))=(List.range (L.length*4)).map (Dl L kv fv)++(List.range (M.length*4)).map (Dl M a b):=by
 rw[Nat.add_mul,List.range_add,AH,List.map_map];congr 1
 ·refine BB λj c=>?_
  have d:j<L.length*4:=by simpa using c
  have e:Ej (L++M) (j / 4)=Ej L (j / 4):=by rw[Gz,Af (by omega)]
  unfold Dl;rw[e];simp only[show j / 4<L.length by omega,BK]
 ·refine BB λj c=>?_
  have d:j<M.length*4:=by simpa using c
  show Dl (L++M) _ _ (L.length*4+j)=_;have e:Ej (L++M) (L.length+j / 4)=Ej M (j / 4):=by rw[Gz,Ae (by omega),show L.length+j / 4 - L.length=j / 4 by omega]
  unfold Dl;rw[show (L.length*4+j) / 4=L.length+j / 4 by omega,show (L.length*4+j) % 4=j % 4 by omega,e];simp only[show ¬L.length+j / 4<L.length by omega,Bd,show L.length+j / 4 - L.length=j / 4 by omega]
structure ReqV (X:Nat->Prop) (w:World) (r:PReq) (A:Option Addr) (C:Nat) (A2:Option Addr) (C2:Nat):Prop where
 c:r.keys.length<=C
 c2:r.fields.length<=C2
 keys:EA X w (λw=>DX w A r.keys)
 fields:EA X w (λw=>DX w A2 r.fields)
theorem ReqV.step{X Y:Nat->Prop}{w w':World}{r:PReq}{A:Option Addr}{C:Nat}{A2:Option Addr}{C2:Nat}(h:ReqV X w r A C A2 C2)(hs:w.heap.size<=w'.heap.size)(hk:∀k,k<w.heap.size->¬X k->w'.heap[k]? = w.heap[k]?)(a:∀k,k<w.heap.size->Y k->X k):ReqV Y w' r A C A2 C2 :=
 ⟨h.c,h.c2,h.keys.step hs hk a,h.fields.step hs hk a⟩
theorem ReqV.kept{X:Nat->Prop}{w w':World}{r:PReq}{A:Option Addr}{C:Nat}{A2:Option Addr}{C2:Nat}(h:ReqV X w r A C A2 C2)(hB:Below w.heap.size w w'):ReqV X w' r A C A2 C2:=h.step hB.size (λk hk _=>hB.block k hk) (λ_ _ hx=>hx)
structure QRow (N0:Nat) (X:Nat->Prop) (w:World) (v:Value) (L:List PReq) (kv fv:Nat->Value):Prop where
 row:B9 w N0 68 4 v L.length (Dl L kv fv)
 sub:∀i,i<L.length->∃A C A2 C2,kv i= .slice A (Ej L i).keys.length C/\fv i= .slice A2 (Ej L i).fields.length C2/\ReqV (λq=>X q\/v.ownBlock=some q) w (Ej L i) A C A2 C2
theorem QRow.nil(N0:Nat)(X:Nat->Prop)(w:World)(kv fv:Nat->Value):QRow N0 X w (.slice none 0 0) [] kv fv:=⟨⟨rfl,.inl ⟨rfl,rfl⟩⟩,λ_ hi=>absurd hi (Ak _)⟩
theorem QRow.kept{N0:Nat}{X:Nat->Prop}{w w':World}{v:Value}{L:List PReq}{kv fv:Nat->Value}(h:QRow N0 X w v L kv fv)(hB:Below w.heap.size w w'):QRow N0 X w' v L kv fv :=
 ⟨h.row.kept hB,λi hi=>let ⟨A,C,A2,C2,e1,e2,hf⟩:=h.sub i hi;⟨A,C,A2,C2,e1,e2,hf.kept hB⟩⟩
theorem QRow.slice{N0:Nat}{X:Nat->Prop}{w:World}{v:Value}{L:List PReq}{kv fv:Nat->Value}(h:QRow N0 X w v L kv fv):∃a cap,v= .slice a L.length cap/\L.length<=cap:=h.row.slice
theorem QRow.join{N0 N1:Nat}{X Y:Nat->Prop}{w w':World}{v u c:Value}{L M:List PReq}{kv fv a b:Nat->Value}(n:QRow N0 X w v L kv fv)(o:QRow N1 Y w u M a b)(d:∀q,q<w.heap.size->X q\/v.ownBlock=some q->Y q\/u.ownBlock=some q)(g:w'.ownsRow N0 68 4 c (L.length+M.length) ((List.range (L.length*4)).map (Dl L kv fv)++(List.range (M.length*4)).map (Dl M a b)))(hg:w.grownBy w' v.ownBlock)(j:c.ownBlock=v.ownBlock\/c.ownBlock=some w.heap.size) :
  QRow N0 X w' c (L++M) (λi=>if i<L.length then kv i else a (i - L.length)) (λi=>if i<L.length then fv i else b (i - L.length)):=by
 have l:(L++M).length=L.length+M.length:=by simp
 have m:∀k,k<w.heap.size->X k\/c.ownBlock=some k->X k\/v.ownBlock=some k:=λk hk hx=>by
  rcases hx with hx|hx
  ·exact .inl hx
  ·rcases j with e|e
   ·exact .inr (by rw[<-e];exact hx)
   ·rw[e]at hx;cases hx;omega
 refine⟨?_,λi hi=>?_⟩
 ·unfold B9;rw[l,Gr];exact g
 ·rw[l]at hi
  rw[Gz]
  by_cases h:i<L.length
  ·rw[Af h,Af h,Af h]
   obtain⟨A,C,A2,C2,e1,e2,hf⟩:=n.sub i h;exact⟨A,C,A2,C2,e1,e2,hf.step hg.size (λk hk hx=>hg.block k hk (λe=>hx (.inr e.symm))) m⟩
  ·rw[Ae h,Ae h,Ae h]
   obtain⟨A,C,A2,C2,e1,e2,hf⟩:=o.sub (i - L.length) (by omega);exact⟨A,C,A2,C2,e1,e2,hf.step hg.size (λk hk hx=>hg.block k hk (λe=>hx (d k hk (.inr e.symm)))) λk hk hx=>d k hk (m k hk hx)⟩
theorem QRow.app{N0:Nat}{X:Nat->Prop}{w w':World}{v b:Value}{L:List PReq}{kv fv:Nat->Value}{r:PReq}{A:Option Addr}{C:Nat}{A2:Option Addr}{C2:Nat}(h:QRow N0 X w v L kv fv)(hf:ReqV (λq=>X q\/v.ownBlock=some q) w r A C A2 C2)(c:w'.ownsRow N0 68 4 b (L.length+1) ((List.range (L.length*4)).map (Dl L kv fv)++N7 r (.slice A r.keys.length C) (.slice A2 r.fields.length C2)))(hg:w.grownBy w' v.ownBlock)(d:b.ownBlock=v.ownBlock\/b.ownBlock=some w.heap.size) :
  ∃g j,QRow N0 X w' b (L++[r]) g j:=by
 have m:(L++[r]).length=L.length+1:=by simp
 have n:∀k,k<w.heap.size->X k\/b.ownBlock=some k->X k\/v.ownBlock=some k:=λk hk hx=>by
  rcases hx with hx|hx
  ·exact .inl hx
  ·rcases d with e|e
   ·exact .inr (by rw[<-e];exact hx)
   ·rw[e]at hx;cases hx;omega
 have o:=Gr L [r] kv fv (λ_=>.slice A r.keys.length C) (λ_=>.slice A2 r.fields.length C2);have e1:(List.range ([r].length*4)).map (Dl [r] (λ_=>.slice A r.keys.length C) (λ_=>.slice A2 r.fields.length C2))=N7 r (.slice A r.keys.length C) (.slice A2 r.fields.length C2):=by
  show (List.range 4).map _=_;rw[show List.range 4 = [0,1,2,3] from by decide];simp[Dl,N7,Ej]
 rw[e1]at o;refine⟨λi=>if i<L.length then kv i else .slice A r.keys.length C,λi=>if i<L.length then fv i else .slice A2 r.fields.length C2,?_,λi hi=>?_⟩
 ·unfold B9;rw[m];exact o ▸ c
 ·rw[m]at hi
  rw[Gz]
  by_cases a:i<L.length
  ·rw[Af a,Af a,Af a]
   obtain⟨A1,p,A3,C3,e1,e2,l⟩:=h.sub i a;exact⟨A1,p,A3,C3,e1,e2,l.step hg.size (λk hk hx=>hg.block k hk (λe=>hx (.inr e.symm))) n⟩
  ·rw[Ae a,Ae a,Ae a,show i - L.length=0 by omega]
   exact⟨A,C,A2,C2,rfl,rfl,hf.step hg.size (λk hk hx=>hg.block k hk (λe=>hx (.inr e.symm))) n⟩
theorem QRow.out{N0:Nat}{X:Nat->Prop}{w:World}{v:Value}{L:List PReq}{kv fv:Nat->Value}(h:QRow N0 X w v L kv fv)(b:L.length<=maxLen):∃a cap,v= .slice a L.length cap/\L.length<=cap/\Ff w a L:=by
 rcases h.row.shape with⟨e,h0⟩|⟨g,cap,e,hg,hc,-⟩
 ·have:L = []:=AC h0
  subst this;exact⟨none,0,e,Aj _,Ff.none⟩
 ·subst e
  refine⟨_,cap,rfl,hc,b,λi hi=>?_⟩;obtain⟨A,C,A2,C2,e1,e2,hf⟩:=h.sub i hi;have c0:=h.row.cell (j:=i*4) (by omega);have c1:=h.row.cell (j:=i*4+1) (by omega);have c2:=h.row.cell (j:=i*4+2) (by omega);have c3:=h.row.cell (j:=i*4+3) (by omega);unfold Dl at c0 c1 c2 c3;rw[Af (by omega),show i*4 / 4=i by omega]at c0;rw[Ae (by omega),Af (by omega),show (i*4+1) / 4=i by omega]at c1;rw[Ae (by omega),Ae (by omega),Af (by omega),show (i*4+2) / 4=i by omega,e1]at c2;rw[Ae (by omega),Ae (by omega),Ae (by omega),show (i*4+3) / 4=i by omega,e2]at c3;exact⟨g,0,A,C,A2,C2,rfl,by rw[AL];exact c0,by rw[AL];exact c1,by rw[AL];exact c2,by rw[AL];exact c3,hf.c,hf.c2,hf.keys.at,hf.fields.at⟩
def PM (d:Nat) (M:List (DH d)) (R:List PReq) (x:Int) (e:Ending) (w':World):Prop := ∃va vc a b,e= .returned (.tuple #[.slice va M.length vc,.slice a R.length b,.int .i64 x])/\M.length<=vc/\R.length<=b/\Dg w' d va M/\Ff w' a R
def Qy (K:Nat):Prop := ∀(la:Option Addr) (n cap:Nat) (V:Nat->LServ) (d:Nat) (type key:ByteArray) (a:Option Addr) (b:Nat) (ps:List (Cg d)) (w:World),Dc w la n V->CB w d a ps->ps.length<=b->BY type->BY key ->
 Calls Tryz.prog K #[.slice la n cap,.agg #[.string type,.string key,.slice a ps.length b]] w λe w'=>PM d (Jx n V d type key ps) (Tt n V d type key ps) (GB n V d type key ps) e w'/\Below w.heap.size w w'
def Hs (s:LServ):SServ:=⟨s.ta,s.nt,s.tcap,s.T,s.ca,s.nc,s.ccap,s.xa,s.nx,s.xcap,s.X⟩
theorem Dc.sv{w:World}{a:Option Addr}{n:Nat}{V:Nat->LServ}(h:Dc w a n V):Gt w a n (λi=>Hs (V i)) :=
 ⟨h.1,λi hi=>let ⟨b,o,e,s⟩:=h.2 i hi;⟨b,o,e,s.c0,s.c1,s.c2,s.ok.types,s.ok.things,s.ok.tcap,s.ok.xcap⟩⟩
theorem LT{l:List ByteArray}(h:l.Nodup){i:Nat}(hi:i<l.length):DU (CH l) i=false:=by
 rw[He];intro j b e;have a:∀k (hk:k<l.length),CH l k=l[k]:=λk hk=>by simp[CH,List.getD,hk]
 rw[a j (by omega),a i hi]at e;exact(List.pairwise_iff_getElem.1 h) j i (by omega) hi b e
def RT (r:PReq) (A:Option Addr) (C:Nat) (A2:Option Addr) (C2:Nat):LReq:=⟨r.svc,r.type,A,r.keys.length,C,CH r.keys,A2,r.fields.length,C2,CH r.fields⟩
theorem Rx{n:Nat}{V:Nat->LServ}{r:PReq}(h:ReqR n V r)(A:Option Addr)(C:Nat)(A2:Option Addr)(C2:Nat):Ee n (λi=>Hs (V i)) (RT r A C A2 C2)=0:=by
 obtain⟨c,t,e1,hc,d,hf,-,a⟩:=h.ex;have he:DQ ((V c).T t).nf ((V c).T t).F r.fields.length (CH r.fields)=0:=Ey.2 λi hi=>by
  unfold FJ;have b:CH r.fields i∈r.fields:=by
   have:CH r.fields i=r.fields[i]:=by simp[CH,List.getD,hi]
   rw[this];exact AW hi
  rw[Ae (a _ b).1,LT h.fields hi];rfl
 have e:=Hc (n:=n) (V:=λi=>Hs (V i)) (q:=RT r A C A2 C2) (c:=c) (t:=t) e1 hc hf he;have h2:Hg (RT r A C A2 C2).nk (RT r A C A2 C2).K=false:=JH.2 λi hi=>LT h.keys hi;rw[h2]at e;exact e
theorem Ox{c:Nat}(h:c<5):(Lit.int .i64 (c:Int)).wf=true:=by
 have:c=0\/c=1\/c=2\/c=3\/c=4:=by omega
 rcases this with rfl|rfl|rfl|rfl|rfl<;>decide
theorem ReqR.ok{w:World}{a:Option Addr}{n:Nat}{V:Nat->LServ}{r:PReq}{A:Option Addr}{C:Nat}{A2:Option Addr}{C2:Nat}(h:ReqR n V r)(hS:Dc w a n V)(hn:n<=5)(e:DX w A r.keys)(g:DX w A2 r.fields)(l1:r.keys.length<=C)(l2:r.fields.length<=C2):ReqOk w (RT r A C A2 C2):=by
 obtain⟨c,t,e1,hc,j,hf,-,-⟩:=h.ex;refine⟨e,g,?_,l1,l2,?_⟩
 ·show (Lit.int .i64 r.svc).wf=true
  rw[e1];exact Ox (by omega)
 ·obtain⟨b,o,-,hs⟩:=hS.2 c hc
  obtain⟨b2,o2,-,d⟩:=hs.ok.types.2 t j;have h1:Ds (V c).nt (λi=>eqs ((V c).T i).name r.type)=(t:Int):=hf;have h2:=(E4 (p:=λi=>eqs ((V c).T i).name r.type) (n:=(V c).nt) (by rw[h1];omega)).2;rw[h1,Ax,Ch]at h2;show BY r.type;rw[<-h2];exact d.2.2.2.1
theorem ND{n:Nat}{V:Nat->LServ}(h0:(DT n V).1=0):∀i,i<n->Jd (Hs (V i)):=λi hi j h=>by
 obtain⟨-,a⟩:=E5 (GO h0);obtain⟨-,c,-,-⟩:=Fs h0;obtain⟨-,⟨t,b⟩,-⟩:=GX (a i hi).2 (i:=j) h;have d:=Dn (c i hi);have e:=(d.fld t b.lt).few;have g:((V i).T t).nf<=10:=e;show ((V i).X j).nv*56<=_/\∀k,k<((V i).X j).nv->(((V i).X j).V k).nk*16<=_;refine⟨by rw[b.nv];omega,λk hk=>?_⟩;have:=(b.vals k (by rw[<-b.nv];exact hk)).few;omega
end Go.Proofs.YtjjggefmmeminabGreat
