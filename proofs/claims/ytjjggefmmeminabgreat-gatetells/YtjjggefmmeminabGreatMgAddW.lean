import Derived.Test.YtjjggefmmeminabGreatMgIns
import Derived.Deep.CutRange
set_option maxRecDepth 100000
set_option maxHeartbeats 4000000
namespace Go.Proofs.YtjjggefmmeminabGreat
open Go.RowKit Go.Sort
theorem Parts.one{Z:Nat->Prop}{w:World}{v:Value}{L:List PPart}{b:Nat->Nat->Value}(h:Parts Z w v L b):∀q,q<L.length*4->(C5 L b q).oneCell'=true:=λq hq=>by
 unfold C5;split
 ·rfl
 ·obtain⟨a,c,e,-⟩:=(h.rows (q % 4 - 1) (q / 4) (by omega) (by omega)).slice
  rw[e];rfl
def N2 (a:Nat->Nat->Value) (k:Nat) (c i:Nat):Value:=if i<k then a c i else if i=k then .slice none 0 0 else a c (i - 1)
theorem Tf{L:List PPart}{a:Nat->Nat->Value}{name:ByteArray}(hh:Fx L name=false)(q:Nat):C4 (C5 L a) (pos L name) [.string name,.slice none 0 0,.slice none 0 0,.slice none 0 0] q=C5 (ins L name) (N2 a (pos L name)) q:=by
 unfold C4
 by_cases c1:q<pos L name*4
 ·have e1:q / 4<pos L name:=by omega
  simp only[C5,N2,EU hh,e1,c1,BK]
 ·have e1 : ¬q / 4<pos L name:=by omega
  by_cases c2:q<pos L name*4+4
  ·have e2:q / 4=pos L name:=by omega
   simp only[C5,N2,EU hh,c1,c2,e2,Nat.lt_irrefl,BK,Bd];obtain⟨k,rfl⟩:∃k,q=pos L name*4+k:=⟨q - pos L name*4,by omega⟩;rw[show pos L name*4+k - pos L name*4=k by omega];have hk:k<4:=by omega
   match k,hk with
   | 0,_=>rw[Af (by omega)];rfl
   | 1,_=>rw[Ae (by omega)];rfl
   | 2,_=>rw[Ae (by omega)];rfl
   | 3,_=>rw[Ae (by omega)];rfl
  ·have e2 : ¬q / 4=pos L name:=by omega
   simp only[C5,N2,EU hh,c1,c2,e1,e2,Bd,show (q - 4) % 4=q % 4 by omega,show (q - 4) / 4=q / 4 - 1 by omega]
theorem Parts.put{Z:Nat->Prop}{w w':World}{v m:Value}{L:List PPart}{n:Nat->Nat->Value}{name:ByteArray}(h:Parts Z w v L n)(hh:Fx L name=false)(hs:BY name)(y:L.length+1<=maxLen)(u:∀b,Z b->b<w.heap.size)(z:B9 w' 0 99 4 m (L.length+1) (C4 (C5 L n) (pos L name) [.string name,.slice none 0 0,.slice none 0 0,.slice none 0 0]))(hg:w.grownBy w' v.ownBlock)(p:m.ownBlock=v.ownBlock\/∃b,m.ownBlock=some b/\w.heap.size<=b) :
  Parts Z w' m (ins L name) (N2 n (pos L name))/\Keep Z w w':=by
 have C:=F2 L name;have j:=Gj hh;have A:∀i,i<(ins L name).length->¬i<pos L name->¬i=pos L name->i - 1<L.length:=λi hi h1 h2=>by omega
 have d:∀c i,c<3->i<L.length->B9 w' 0 (et c) 3 (n c i) (len c (Ci L i)) (ET c (Ci L i)):=λc i hc hi=>(h.rows c i hc hi).grown hg (λb hb e=>h.ne hc hi e hb);refine⟨⟨by rw[j];exact y,?_,λc i hc hi=>?_,λc i o g hc hi a r s b hb=>?_,λb hb x=>?_,λc i hc hi b hb=>?_,λi hi=>?_⟩,Keep.grown hg u h.freeV⟩
 ·rw[j]
  exact z.congr λq _=>Tf hh q
 ·rw[j]at hi
  rw[EU hh];unfold N2
  by_cases c1:i<pos L name
  ·rw[Af c1,Af c1];exact d c i hc (by omega)
  ·rw[Ae c1,Ae c1]
   by_cases c2:i=pos L name
   ·rw[Af c2,Af c2]
    have e1:len c (Mv name)=0:=by
     unfold len Mv;split
     ·rfl
     ·split<;>rfl
    rw[e1];exact A4 _ _ _ _
   ·rw[Ae c2,Ae c2];exact d c (i - 1) hc (by omega)
 ·rw[j]at hi r
  unfold N2 at hb ⊢
  by_cases c1:i<pos L name
  ·rw[Af c1]at hb
   by_cases k:g<pos L name
   ·rw[Af k];exact h.apart c i o g hc (by omega) a (by omega) s b hb
   ·rw[Ae k]
    by_cases l:g=pos L name
    ·rw[Af l];exact λe=>(by cases e)
    ·rw[Ae l];exact h.apart c i o (g - 1) hc (by omega) a (by omega) (by omega) b hb
  ·rw[Ae c1]at hb
   by_cases c2:i=pos L name
   ·rw[Af c2]at hb;cases hb
   ·rw[Ae c2]at hb
    by_cases k:g<pos L name
    ·rw[Af k];exact h.apart c (i - 1) o g hc (by omega) a (by omega) (by omega) b hb
    ·rw[Ae k]
     by_cases l:g=pos L name
     ·rw[Af l];exact λe=>(by cases e)
     ·rw[Ae l];exact h.apart c (i - 1) o (g - 1) hc (by omega) a (by omega) (by omega) b hb
 ·rcases p with e|⟨D,e,B⟩
  ·exact h.freeV b (by rw[<-e];exact hb) x
  ·rw[e]at hb;cases hb
   have:=u _ x;omega
 ·rw[j]at hi
  unfold N2 at hb
  by_cases c1:i<pos L name
  ·rw[Af c1]at hb;exact h.free c i hc (by omega) b hb
  ·rw[Ae c1]at hb
   by_cases c2:i=pos L name
   ·rw[Af c2]at hb;cases hb
   ·rw[Ae c2]at hb;exact h.free c (i - 1) hc (by omega) b hb
 ·rw[j]at hi
  rw[EU hh]
  by_cases c1:i<pos L name
  ·rw[Af c1];exact h.good i (by omega)
  ·rw[Ae c1]
   by_cases c2:i=pos L name
   ·rw[Af c2];exact Sl hs
   ·rw[Ae c2];exact h.good (i - 1) (by omega)
theorem Nd(Z:Nat->Prop)(v:Value)(L:List PPart)(n:Nat->Nat->Value)(name:ByteArray)(w:World)(m:Parts Z w v L n)(x:∀b,Z b->b<w.heap.size)(y:Ik L)(J:L.length<=900)(hs:BY name) :
  Calls Tryz.prog 57 #[v,.string name] w λe w'=>(∃o p,e= .returned (.tuple #[o,.int .i64 (pos L name:Nat)])/\Parts Z w' o (ins L name) p)/\Keep Z w w':=by
 obtain⟨a,cap,hv,z⟩:=m.slice;have F:=Aa m;have A:=Aa x;have c:=PP Z v L n name w m y (by omega);clear m x y;subst hv
 go_enter Tryz.func57,Tryz.ntmps57
 go_wp2_with fail
 refine c.mono ?_;clear c;rintro e i ⟨rfl,d⟩;have h:=Aa (F.out.kept' d);have j:Hid (Keep Z w i):=Keep.of d A.out;have k:Hid (∀b,Z b->b<i.heap.size):=λb hb=>Ah (A.out b hb) d.size;clear d
 cases hh:Fx L name with
 |true =>
  have hf:=Aa (GF hh);clear hh
  go_wp2_with fail
  go_ret2
  exact⟨⟨_,n,rfl,by rw[hf.out];exact h.out⟩,j.out⟩
 |false =>
  have G:=Aa hh;clear hh;have hB:=BW i (Obj.cells #[.string name,.slice none 0 0,.slice none 0 0,.slice none 0 0] 99);have g:=h.out.kept' hB;have c:=O7 L.length (pos L name) i.heap.size _ _ [.string name,.slice none 0 0,.slice none 0 0,.slice none 0 0] rfl _ g.row g.one (F2 L name) (by omega) (Ap _ _) (λe=>by have:=(h.out.row.lt e).2;omega) (by intro u B;simp at B;rcases B with rfl|rfl<;>rfl)
  have q:=Aa g;have r:Hid (∀b,Z b->b<(i.alloc (Obj.cells #[.string name,.slice none 0 0,.slice none 0 0,.slice none 0 0] 99)).heap.size):=λb hb=>Ah (k.out b hb) hB.size;have s:Hid (Keep Z w (i.alloc (Obj.cells #[.string name,.slice none 0 0,.slice none 0 0,.slice none 0 0] 99))):=j.out.trans (Keep.of hB k.out);clear hB g
  go_wp2_with fail
  refine c.mono ?_;clear c;rintro e K ⟨o,rfl,C,hg,l⟩;obtain⟨D,E⟩:=q.out.put G.out hs (by unfold maxLen;omega) r.out C hg l;have H:=Aa D;have I:=Aa (s.out.trans E);clear D E C hg l
  go_wp2_with fail
  go_ret2
  exact⟨⟨_,_,rfl,H.out⟩,I.out⟩
end Go.Proofs.YtjjggefmmeminabGreat
namespace Go.Proofs.YtjjggefmmeminabGreat
open Go.RowKit Go.Sort Go.PlainAid
theorem Ex{P:Program}{q:Array Oper}{o:Oper}{a:Act}{w:World}{K:Act->World->Prop}{Q:Exit->Act->World->Prop}{E:Prop}(hgd:o.guard=none)(s x:Operand)(t:TypeId)(ho:o.op=Op.call { callee:=Callee.builtin Builtin.append,args:=#[s,x],argTypes:=#[t,t] })(base:Nat)(e:TypeId)(i:TypeInfo)(z:Value)(size bytes:Nat)(H:P.underlying t=some (.slice e))(hi:P.info? e=some i)(I:i.zero=some z)(h:i.size=size)(A:i.bytes=bytes)(B:z.cells.size=size)(C:0<size)(v:Value)(n:Nat)(D:List Value)(hs:a.eval s=v)(r:w.ownsRow base e size v n D)(d:Option Addr)(m c:Nat)(b:List Value)(hx:a.eval x= .slice d m c)(J:b.length=m*size)(k:∀G,d=some G->∀j u,b[j]? = some u->w.cell? (G.add j)=some u)(y:d=none->m=0)(h1:∀u∈b,u.oneCell'=true)(F:n+m<=maxLen)(g:(n+m)*bytes<=140737488355328)(l:base<=w.heap.size)(L:∀p w',w'.ownsRow base e size p (n+m) (D++b)->w.grownBy w' v.ownBlock->(p.ownBlock=v.ownBlock\/p.ownBlock=some w.heap.size)->K (a.put o.dst p) w') :
  if Region.wanted o (yielded q a.tmps)=true then Oper.wp P o a w K Q else E:=by
 have M:Region.wanted o (yielded q a.tmps)=true:=by simp[Region.wanted,hgd]
 rw[Af M];obtain⟨p,w',N,h2,h3,O⟩:=DG (P:=P) w base t o.type e i z size bytes H hi I h A B C v n D r d m c b J k y h1 F g l;unfold Oper.wp;simp[execOp,ho,resolve,invoke,builtin,hs,hx,N,Result.andThen];exact L p w' h2 h3 O
structure App (c:Nat) (p p':PPart) (cells:List Value):Prop where
 name:p'.name=p.name
 other:∀c',c' < 3->c'≠c->len c' p'=len c' p/\ET c' p'=ET c' p
 len:len c p'=len c p+1
 cells:(List.range (Go.Proofs.YtjjggefmmeminabGreat.len c p' * 3)).map (ET c p')=(List.range (Go.Proofs.YtjjggefmmeminabGreat.len c p*3)).map (ET c p)++cells
def pH (p:PPart) (o:POwner):PPart:=⟨p.name,p.fs,p.os,p.hs++[o]⟩
def pF (p:PPart) (f:LField):PPart:=⟨p.name,p.fs++[f],p.os,p.hs⟩
def pO (p:PPart) (o:POwner):PPart:=⟨p.name,p.fs,p.os++[o],p.hs⟩
def Hd (f:LField):List Value:=[.string f.name,.int .i64 f.kind,.string f.type]
def Fy (o:POwner):List Value:=[.int .i64 o.svc,.string o.type,.string o.field]
theorem Iq{α:Type}{l:List α}{x d:α}{q:Nat}(h:q<l.length):(l++[x]).getD q d=l.getD q d:=by simp[List.getD,List.getElem?_append,h]
theorem Io{α:Type}{l:List α}{x d:α}:(l++[x]).getD l.length d=x:=by simp[List.getD]
theorem Kz(l:List LField)(x:LField):(List.range ((l.length+1)*3)).map (B2 (λj=>(l++[x]).getD j dF))=(List.range (l.length*3)).map (B2 (λj=>l.getD j dF))++Hd x:=by
 rw[show (l.length+1)*3=l.length*3+1+1+1 by omega,AA,AA,AA];simp only[AH,AG,AI,AR];rw[FW,Ih,show l.length*3+1+1=l.length*3+2 by omega,F1,Io];have e:(List.range (l.length*3)).map (B2 (λj=>(l++[x]).getD j dF))=(List.range (l.length*3)).map (B2 (λj=>l.getD j dF)):=CX λj a=>by
  have e3:(l++[x]).getD (j / 3) dF=l.getD (j / 3) dF:=Iq (by omega);unfold B2;simp only[e3]
 rw[e];rfl
theorem G2(l:List POwner)(x:POwner):(List.range ((l.length+1)*3)).map (Cy (λj=>(l++[x]).getD j dO))=(List.range (l.length*3)).map (Cy (λj=>l.getD j dO))++Fy x:=by
 rw[show (l.length+1)*3=l.length*3+1+1+1 by omega,AA,AA,AA];simp only[AH,AG,AI,AR];rw[P3,Pz,show l.length*3+1+1=l.length*3+2 by omega,PY,Io];have e:(List.range (l.length*3)).map (Cy (λj=>(l++[x]).getD j dO))=(List.range (l.length*3)).map (Cy (λj=>l.getD j dO)):=CX λj a=>by
  have e3:(l++[x]).getD (j / 3) dO=l.getD (j / 3) dO:=Iq (by omega);unfold Cy;simp only[e3]
 rw[e];rfl
theorem T9(p:PPart)(f:LField):App 0 p (pF p f) (Hd f):=by
 refine⟨rfl,λa h1 h2=>?_,by simp[len,pF],?_⟩
 ·match a,h1,h2 with
  | 0,_,h=>exact absurd rfl h
  | 1,_,_=>exact⟨rfl,rfl⟩
  | 2,_,_=>exact⟨rfl,rfl⟩
 ·show (List.range ((p.fs++[f]).length*3)).map (B2 (λj=>(p.fs++[f]).getD j dF))=_
  rw[Ay,Bw];exact Kz p.fs f
theorem T5(p:PPart)(o:POwner):App 1 p (pO p o) (Fy o):=by
 refine⟨rfl,λa h1 h2=>?_,by simp[len,pO],?_⟩
 ·match a,h1,h2 with
  | 0,_,_=>exact⟨rfl,rfl⟩
  | 1,_,h=>exact absurd rfl h
  | 2,_,_=>exact⟨rfl,rfl⟩
 ·show (List.range ((p.os++[o]).length*3)).map (Cy (λj=>(p.os++[o]).getD j dO))=_
  rw[Ay,Bw];exact G2 p.os o
theorem Ua(p:PPart)(o:POwner):App 2 p (pH p o) (Fy o):=by
 refine⟨rfl,λa h1 h2=>?_,by simp[len,pH],?_⟩
 ·match a,h1,h2 with
  | 0,_,_=>exact⟨rfl,rfl⟩
  | 1,_,_=>exact⟨rfl,rfl⟩
  | 2,_,h=>exact absurd rfl h
 ·show (List.range ((p.hs++[o]).length*3)).map (Cy (λj=>(p.hs++[o]).getD j dO))=_
  rw[Ay,Bw];exact G2 p.hs o
theorem KL{α:Type}{l:List α}{x d:α}{G:α->Prop}(h:∀j,j<l.length->G (l.getD j d))(hx:G x):∀j,j<(l++[x]).length->G ((l++[x]).getD j d):=λj a=>by
 rw[Ay,Bw]at a
 by_cases e:j<l.length
 ·rw[Iq e];exact h j e
 ·have:j=l.length:=by omega
  subst this;rw[Io];exact hx
theorem Qc{p:PPart}{m:Nat}(h1:p.fs.length<=m)(h2:p.os.length<=m)(h3:p.hs.length<=m)(c:Nat):len c p<=m:=by
 unfold len;split
 ·exact h1
 ·split
  ·exact h2
  ·exact h3
theorem Sg{p:PPart}{f : LField}(h:GoodP p)(hf:IA f)(a:p.fs.length<maxLen):GoodP (pF p f) :=
 ⟨h.name,KL h.fs hf,h.os,h.hs,Qc (by simp[pF];omega) (h.len 1) (h.len 2)⟩
theorem SG{p:PPart}{o:POwner}(h:GoodP p)(hf:Jp o)(a:p.os.length<maxLen):GoodP (pO p o) :=
 ⟨h.name,h.fs,KL h.os hf,h.hs,Qc (h.len 0) (by simp[pO];omega) (h.len 2)⟩
theorem Sn{p:PPart}{o:POwner}(h:GoodP p)(hf:Jp o)(a:p.hs.length<maxLen):GoodP (pH p o) :=
 ⟨h.name,h.fs,h.os,KL h.hs hf,Qc (h.len 0) (h.len 1) (by simp[pH];omega)⟩
theorem KB(p:PPart)(svc:Int)(S:PSeen):Cc p svc S 0=pH p ⟨svc,S.own,⟨#[]⟩⟩:=by
 unfold Cc pH;simp
theorem KN(p:PPart)(svc:Int)(S:PSeen)(k:Nat):Cc p svc S (k+1)=pO (pF (Cc p svc S k) (S.F k)) ⟨svc,S.own,S.O k⟩:=by
 unfold Cc pO pF;simp[List.range_succ]
theorem Ft{Z:Nat->Prop}{W X:World}{g cap:Nat}{L:List PPart}{l:Nat->Nat->Value}(h:Parts Z W (.slice (some ⟨g,0,none⟩) L.length cap) L l)(u:∀b,Z b->b<W.heap.size){c t:Nat}(hc:c<3)(v:t<L.length){p':PPart}{a:List Value}(n:App c (Ci L t) p' a)(i:GoodP p')(o:Below W.heap.size W X){j:Value}{w':World}(m:w'.ownsRow 0 (et c) 3 j (len c (Ci L t)+1) ((List.range (len c (Ci L t)*3)).map (ET c (Ci L t))++a))(hg:X.grownBy w' (l c t).ownBlock)(p:j.ownBlock=(l c t).ownBlock\/j.ownBlock=some X.heap.size) :
  (∃q,Parts Z (w'.setCell ⟨g,t*4+1+c,none⟩ j) (.slice (some ⟨g,0,none⟩) L.length cap) (L.set t p') q)/\Keep Z W (w'.setCell ⟨g,t*4+1+c,none⟩ j)/\w'.cell? ⟨g,t*4+1+c,none⟩=some (l c t)/\w'.frozen? ⟨g,t*4+1+c,none⟩=false:=by
 have r:=h.kept' o;have s:∀b,Z b->b<X.heap.size:=λb hb=>Ah (u b hb) o.size;have w:B9 w' 0 (et c) 3 j (len c p') (ET c p'):=by
  unfold B9;rw[n.cells,n.len];exact m
 obtain⟨x,y⟩:=r.app hc v n.name n.other s hg w (p.imp id λe=>⟨_,e,Aj _⟩) i;have d:B9 w' 0 99 4 (.slice (some ⟨g,0,none⟩) L.length cap) L.length (C5 L l):=r.row.grown hg (λk hk e=>r.ne hc v hk e);refine⟨⟨_,x⟩,(Keep.of o u).trans y,?_,d.free _⟩;rw[d.cell (by omega),Ho _ _ _ _ hc]
theorem Tryz.info92:(Tryz.prog.info? 92).map (λi=>(i.zero,i.size,i.bytes))=some (some (.agg #[.int .i64 0,.string ⟨#[]⟩,.string ⟨#[]⟩]),3,40):=by kernel_rfl
theorem Mg{p:PPart}{svc:Int}{S:PSeen}{k:Nat}:Fj p S k=true ↔ ¬BX (Cc p svc S k).fs.length (De (Cc p svc S k)) (S.F k).name<0:=by
 have e:(Cc p svc S k).fs=p.fs++(List.range k).map S.F:=rfl;unfold Fj De;rw[e];generalize p.fs++(List.range k).map S.F=l;rw[BN];constructor
 ·rintro⟨f,hf,he⟩ hn
  obtain⟨i,hi,rfl⟩:=Bl hf;have:=Dq.1 hn i hi;simp only[List.getD,AU hi,Option.getD_some]at this;rw[this]at he;cases he
 ·intro hn
  obtain⟨h1,h2,-⟩:=Gy hn;generalize (BX l.length (λj=>l.getD j dF) (S.F k).name).toNat=q at h1 h2;refine⟨l[q],AW h1,Ch.2 ?_⟩;simpa[List.getD,h1] using h2
theorem Og{p:PPart}{S:PSeen}{k:Nat}(hk:k<S.nf)(h:Fj p S k=true):JP p S=6:=by
 unfold JP;rw[Af (List.any_eq_true.2 ⟨k,by simpa using hk,h⟩)]
theorem LP{p:PPart}{S:PSeen}(h:∀k,k<S.nf->Fj p S k=false):JP p S=0:=by
 unfold JP;rw[Ae];intro a;obtain⟨k,hk,e⟩:=List.any_eq_true.1 a;rw[h k (by simpa using hk)]at e;cases e
theorem J1(L:List PPart)(t:Nat)(p q:PPart):(L.set t p).set t q=L.set t q:=by simp
theorem D8{L:List PPart}{t : Nat}{p:PPart}(h:t<L.length):Ci (L.set t p) t=p:=by rw[Gc h,Af rfl]
theorem Fw{w:World}{base e size n:Nat}{v:Value}{b:List Value}(h:w.ownsRow base e size v n b):∃a c,v= .slice a n c:=by
 rcases h.2 with⟨rfl,rfl⟩|⟨g,cap,cur,rfl,-⟩
 ·exact⟨_,_,rfl⟩
 ·exact⟨_,_,rfl⟩
theorem OE(Z:Nat->Prop)(g cap t:Nat)(L:List PPart)(rv:Nat->Nat->Value)(svc:Int)(S:PSeen)(fa oa:Option Addr)(fc oc:Nat)(w:World)(hP:Parts Z w (.slice (some ⟨g,0,none⟩) L.length cap) L rv)(hZ:∀b,Z b->b<w.heap.size)(ht:t<L.length)(hF:∀w',Keep Z w w'->Cl w' fa S.nf S.F/\CF w' oa S.nf S.O)(hown:BY S.own)(hsvc:(Lit.int .i64 svc).wf=true)(hnf:S.nf<=10)(hfs:(Ci L t).fs.length<=900)(hos:(Ci L t).os.length<=900)(hhs:(Ci L t).hs.length<=900) :
  Calls Tryz.prog 58 #[.pointer (some ⟨g,t*4,none⟩),.int .i64 svc,.agg #[.string S.name,.slice fa S.nf fc,.string S.own,.slice oa S.nf oc]] w λe w'=>e= .returned (.int .i64 (JP (Ci L t) S))/\(JP (Ci L t) S=0->∃l,Parts Z w' (.slice (some ⟨g,0,none⟩) L.length cap) (L.set t (Cc (Ci L t) svc S S.nf)) l)/\Keep Z w w':=by
 obtain⟨iO,oi,oz0,oz1,oz2⟩:=Cd Tryz.info92;obtain⟨iF,fi,fz0,fz1,fz2⟩:=Cd Tryz.info113;have hGp:=hP.good t ht;generalize hW:w.alloc (Obj.cells #[.string S.name,.slice fa S.nf fc,.string S.own,.slice oa S.nf oc] 140)=W;have hBW:Below w.heap.size w W:=by rw[<-hW];exact BW _ _
 have I:W.heap[w.heap.size]? = some (.cells #[.string S.name,.slice fa S.nf fc,.string S.own,.slice oa S.nf oc] 140 (0,0)):=by rw[<-hW];exact Ap _ _
 have hbl:w.heap.size<W.heap.size:=Ag I;obtain⟨Y,D⟩:∃Y:Nat->Prop,Y=λb=>Z b\/(w.heap.size<=b/\b<W.heap.size):=⟨_,rfl⟩;have J:Parts Y W (.slice (some ⟨g,0,none⟩) L.length cap) L rv:=by rw[D];exact hP.kept hBW
 have hYW:∀b,Y b->b<W.heap.size:=λb hb=>by
  rw[D]at hb;rcases hb with hb|hb
  ·have:=hZ b hb;omega
  ·exact hb.2
 have hYx:Y w.heap.size:=by rw[D];exact .inr ⟨Aj _,hbl⟩
 have HKW:Hid (Keep Z w W):=Keep.of hBW hZ;have HYZ:Hid (∀{a b:World},Keep Y a b->Keep Z a b):=λh=>h.mono λb hb=>by rw[D];exact .inl hb
 have HPZ:Hid (∀{a:World} {v:Value} {L':List PPart} {r:Nat->Nat->Value},Parts Y a v L' r->Parts Z a v L' r):=λh=>h.less λb hb=>by rw[D];exact .inl hb
 have b1:W.cell? ⟨w.heap.size,1,none⟩=some (.slice fa S.nf fc):=by simp[World.cell?,I]
 have b2:W.cell? ⟨w.heap.size,2,none⟩=some (.string S.own):=by simp[World.cell?,I]
 obtain⟨g',cap',a1,c1,a2,c2,a3,c3,hv,e1,e2,e3,k0,k1,k2,k3⟩:=J.aggs ht;cases hv;have R2:=J.rows 2 t (by decide) ht;have HF:=Aa hF;have K:Hid (∀{X w':World} {n:Value},Below W.heap.size W X->w'.ownsRow 0 92 3 n ((Ci L t).hs.length+1) ((List.range ((Ci L t).hs.length*3)).map (Cy (Eg (Ci L t)))++Fy ⟨svc,S.own,⟨#[]⟩⟩)->X.grownBy w' (Value.slice a3 (Ci L t).hs.length c3).ownBlock->(n.ownBlock=(Value.slice a3 (Ci L t).hs.length c3).ownBlock\/n.ownBlock=some X.heap.size) ->
   (∃l,Parts Y (w'.setCell ⟨g,t*4+3,none⟩ n) (.slice (some ⟨g,0,none⟩) L.length cap) (L.set t (Cc (Ci L t) svc S 0)) l)/\Keep Y W (w'.setCell ⟨g,t*4+3,none⟩ n)/\w'.cell? ⟨g,t*4+3,none⟩=some (.slice a3 (Ci L t).hs.length c3)/\w'.frozen? ⟨g,t*4+3,none⟩=false):=λhX h1 h2 h3=>by
  rw[<-e3]at h2 h3 ⊢;rw[KB];exact Ft J hYW (c:=2) (by decide) ht (Ua (Ci L t) ⟨svc,S.own,⟨#[]⟩⟩) (Sn hGp ⟨hown,Ai _,hsvc⟩ (by unfold maxLen;omega)) hX h1 h2 h3
 rw[e3]at R2;have HR2:Hid (B9 W 0 92 3 (.slice a3 (Ci L t).hs.length c3) (Ci L t).hs.length (Cy (Eg (Ci L t)))):=R2;have HYW:=Aa hYW;have HPW:=Aa J;have HBX:=Aa I;have HYX:=Aa hYx;have HBW:=Aa hBW;have HGP:=Aa hGp;clear hP hZ J hYW hYx I hBW R2 hF e1 e2 e3 D hGp;have hg0:g<W.heap.size:=An k3
 go_enter Tryz.func58,Tryz.ntmps58
 go_wp2_with fail
 go_cut [] from 9 to 21 (λwx=>(∃l,Parts Y wx (.slice (some ⟨g,0,none⟩) L.length cap) (L.set t (Cc (Ci L t) svc S 0)) l)/\Keep Y W wx)
 case first =>
  go_region_law (refine Ex rfl (.tmp 13) (.tmp 18) 97 rfl 0 92 iO _ 3 40 Tryz.underlying97 oi oz0 oz1 oz2 rfl (by decide) (.slice a3 (Ci L t).hs.length c3) (Ci L t).hs.length _ (by simp[Act.eval]) ((HR2.out.kept (BW W (Obj.cells #[.int .i64 svc,.string S.own,.string ⟨#[]⟩] 92))).at (λ_ _=>rfl)) (some ⟨W.heap.size,0,none⟩) 1 1 (Fy ⟨svc,S.own,⟨#[]⟩⟩) (by simp[Act.eval]) rfl (CI W #[.int .i64 svc,.string S.own,.string ⟨#[]⟩] _) (λh=>by cases h) (by intro u hu;simp[Fy]at hu;rcases hu with rfl|rfl|rfl<;>rfl) (by unfold maxLen;omega) (by omega) (Ai _) ?_;intro n w' m o q;obtain⟨va,vc,M⟩:=Fw m;subst M;obtain⟨s,x,hcc,hff⟩:=K.out (X:=(W.alloc (Obj.cells #[.int .i64 svc,.string S.own,.string ⟨#[]⟩] 92)).drew) (BW W _).drew m o q;have N:=Aa s;have P:=Aa x;clear s x m o q)
  all_goals (try go_wp2_with fail)
  all_goals go_meet
  all_goals exact⟨N.out,P.out⟩
 case rest =>
  obtain⟨hP0,hK0⟩:=hcut;have HP0:=Aa hP0;have HK0:=Aa hK0;have E:=(hK0.block _ HYX.out).trans HBX.out;have b1':wc.cell? ⟨w.heap.size,1,none⟩=some (.slice fa S.nf fc):=by simp[World.cell?,E]
  clear hP0 hK0 E K HR2 k0 k1 k2 k3 b1 b2 hW HPW
  go_wp2_with fail
  go_loopw [26] (λi wr => ∃k:Nat,k<=S.nf/\i= .int .i64 k/\Hid (∀j,j<k->Fj (Ci L t) S j=false)/\Keep Y W wr/\∃l,Parts Y wr (.slice (some ⟨g,0,none⟩) L.length cap) (L.set t (Cc (Ci L t) svc S k)) l) (λi _=>S.nf - (intOf i).toNat)
  case atStart=>exact⟨0,Ai _,rfl,(λj hj=>absurd hj (Ak _)),HK0.out,HP0.out⟩
  case round =>
   clear HP0 HK0 b1';obtain⟨k,hk,rfl,hcl,G,rk,hPr⟩:=hrel;have HCL:=Aa hcl;have HKR:=Aa G;clear hcl
   by_cases hlt:k<S.nf
   ·obtain⟨hFA,hKA⟩:=HF.out wr (HKW.out.trans (HYZ.out G))
    obtain⟨fb,fo,rfl,f0,f1,f2,hs0,hs2,hkw⟩:=hFA.2 k hlt;have HGF:Hid (IA (S.F k)):=⟨hs0,hs2,hkw⟩;have hlt':(k:Int)<(S.nf:Int):=by omega
    have hk0:(0:Int)<=(k:Int):=by omega
    have htl:t<(L.set t (Cc (Ci L t) svc S k)).length:=by rw[Be];exact ht
    generalize hV:wr.alloc (Obj.cells #[.string (S.F k).name,.int .i64 (S.F k).kind,.string (S.F k).type] 113)=V;have hBV:Below wr.heap.size wr V:=by rw[<-hV];exact BW _ _
    have m0:V.cell? ⟨wr.heap.size,0,none⟩=some (.string (S.F k).name):=by rw[<-hV,Ac _ _ _ _ rfl];rfl
    have m1:V.cell? ⟨wr.heap.size,1,none⟩=some (.int .i64 (S.F k).kind):=by rw[<-hV,Ac _ _ _ _ rfl];rfl
    have m2:V.cell? ⟨wr.heap.size,2,none⟩=some (.string (S.F k).type):=by rw[<-hV,Ac _ _ _ _ rfl];rfl
    have hYr:∀b,Y b->b<wr.heap.size:=λb hb=>Ah (HYW.out b hb) G.size;have H:=hPr.kept' hBV;have hKV:Keep Y W V:=G.trans (Keep.of hBV hYr);have hlS:(L.set t (Cc (Ci L t) svc S k)).length=L.length:=Be;rw[<-hlS]at H;obtain⟨g',cap',Q,R,a2',c2',a3',c3',hv,e1,e2,e3,k0,k1,k2,k3⟩:=H.aggs htl;cases hv;have R0:=H.rows 0 t (by decide) htl;have hgd:=H.good t htl;rw[D8 ht]at e1 e2 e3 k0 k1 k2 k3 R0 hgd;have R0':B9 V 0 113 3 (rk 0 t) (Cc (Ci L t) svc S k).fs.length (B2 (De (Cc (Ci L t) svc S k))):=R0;obtain⟨a9,c9,e9,-,hFA9⟩:=R0'.fieldsAt (hgd.len 0) hgd.fs;rw[e1]at e9;cases e9;have hfl:(Cc (Ci L t) svc S k).fs.length<=910:=by unfold Cc;simp;omega
    have hol:(Cc (Ci L t) svc S k).os.length<=910:=by unfold Cc;simp;omega
    have cA:∀d os,Calls Tryz.prog 64 #[.slice Q (Cc (Ci L t) svc S k).fs.length R,.string (S.F k).name] (grow (redrawn V d) os) λe w''=>e= .returned (.int .i64 (BX (Cc (Ci L t) svc S k).fs.length (De (Cc (Ci L t) svc S k)) (S.F k).name))/\∃p:Regrown,w''=grow (redrawn V p.d) p.os:=λd os=>AF (E9 _ _ _ _ _ _ (hFA9.kept (Av V d os)));have HCI:=Aa (Mg (p:=Ci L t) (svc:=svc) (S:=S) (k:=k));rw[e1]at R0';have HR0:=Aa R0';have HPV:=Aa H;have HKV:=Aa hKV;have HYV:Hid (∀b,Y b->b<V.heap.size):=λb hb=>Ah (hYr b hb) hBV.size;have HGD:=Aa hgd;have E1:=Aa e1;have p1:=As k1;have p0:=As m0;clear H hKV hYr hBV R0 R0' hgd e1 e2 e3 k0 k2 k3 hFA9 hFA hKA G hPr hs0 hs2 hkw;generalize BX (Cc (Ci L t) svc S k).fs.length (De (Cc (Ci L t) svc S k)) (S.F k).name=fx at *
    go_wp2_with fail
    clear hV f0 f1 f2;refine Ar (by kernel_rfl) (by kernel_rfl) ?_
    repeat (go_big_quiet_step (first|exact cA _ _))
    refine AK ?_;intro _ hw';obtain⟨⟨dq,osq⟩,hw''⟩:=hw';subst hw'';have T:=Av V dq osq;have k1:=As k1 dq osq;have m0:=As m0 dq osq;have m1:=As m1 dq osq;have m2:=As m2 dq osq;have HKU:Hid (Keep Y W (grow (redrawn V dq) osq)):=HKV.out.trans (Keep.of T HYV.out);have HPU:=Aa (HPV.out.kept' T);have HR0U:=Aa (HR0.out.kept T);have HYU:Hid (∀b,Y b->b<(grow (redrawn V dq) osq).heap.size):=λb hb=>Ah (HYV.out b hb) T.size;clear T cA p0 p1 HPV HR0 HKV HYV;generalize grow (redrawn V dq) osq=U at *
    by_cases aa:fx<0
    case neg =>
     have hge:(0:Int)<=fx:=by omega
     have HE:Hid (JP (Ci L t) S=6):=Og hlt (HCI.out.2 (by first|exact aa|omega))
     clear aa
     go_wp2_with fail
     go_ret;exact⟨by rw[HE.out];rfl,λh=>by rw[HE.out]at h;exact absurd h (by decide),HKW.out.trans (HYZ.out HKU.out)⟩
    have hge : ¬(0:Int)<=fx:=by omega
    have HCL2:Hid (∀j,j<k+1->Fj (Ci L t) S j=false):=λj hj=>by
     rcases Nat.lt_succ_iff_lt_or_eq.1 hj with h|h
     ·exact HCL.out j h
     ·rw[h]
      cases hc:Fj (Ci L t) S k with
      |false=>rfl
      |true=>have:=HCI.out.1 hc;omega
    clear aa HCI HCL;have K:Hid (∀{X w':World} {n:Value},Below U.heap.size U X->w'.ownsRow 0 113 3 n ((Cc (Ci L t) svc S k).fs.length+1) ((List.range ((Cc (Ci L t) svc S k).fs.length*3)).map (B2 (De (Cc (Ci L t) svc S k)))++Hd (S.F k))->X.grownBy w' (Value.slice Q (Cc (Ci L t) svc S k).fs.length R).ownBlock->(n.ownBlock=(Value.slice Q (Cc (Ci L t) svc S k).fs.length R).ownBlock\/n.ownBlock=some X.heap.size) ->
      (∃l,Parts Y (w'.setCell ⟨g,t*4+1,none⟩ n) (.slice (some ⟨g,0,none⟩) (L.set t (Cc (Ci L t) svc S k)).length cap) ((L.set t (Cc (Ci L t) svc S k)).set t (pF (Cc (Ci L t) svc S k) (S.F k))) l)/\Keep Y U (w'.setCell ⟨g,t*4+1,none⟩ n)/\w'.cell? ⟨g,t*4+1,none⟩=some (.slice Q (Cc (Ci L t) svc S k).fs.length R)/\w'.frozen? ⟨g,t*4+1,none⟩=false):=λhX h1 h2 h3=>by
     rw[<-E1.out]at h2 h3 ⊢;have e:=D8 (p:=Cc (Ci L t) svc S k) ht;exact Ft HPU.out HYU.out (c:=0) (by decide) htl (by rw[e];exact T9 _ _) (Sg HGD.out HGF.out (by unfold maxLen;omega)) hX (by rw[e];exact h1) h2 h3
    have hgU:g<U.heap.size:=An k1;have hbU:wr.heap.size<U.heap.size:=An m0
    go_wp2_with fail
    go_cut [26] from 26 to 70 (λi wx=>i= .int .i64 k/\(∃l,Parts Y wx (.slice (some ⟨g,0,none⟩) (L.set t (Cc (Ci L t) svc S k)).length cap) ((L.set t (Cc (Ci L t) svc S k)).set t (pF (Cc (Ci L t) svc S k) (S.F k))) l)/\Keep Y U wx)
    case first =>
     go_region_law (refine Ex rfl (.tmp 45) (.tmp 47) 94 rfl 0 113 iF _ 3 40 Tryz.underlying94 fi fz0 fz1 fz2 rfl (by decide) (.slice Q (Cc (Ci L t) svc S k).fs.length R) (Cc (Ci L t) svc S k).fs.length _ (by simp[Act.eval]) ((HR0U.out.kept (BW U (Obj.cells #[.string (S.F k).name,.int .i64 (S.F k).kind,.string (S.F k).type] 113))).at (λ_ _=>rfl)) (some ⟨U.heap.size,0,none⟩) 1 1 (Hd (S.F k)) (by simp[Act.eval]) rfl (CI U #[.string (S.F k).name,.int .i64 (S.F k).kind,.string (S.F k).type] _) (λh=>by cases h) (by intro u hu;simp[Hd]at hu;rcases hu with rfl|rfl|rfl<;>rfl) (by unfold maxLen;omega) (by omega) (Ai _) ?_;intro n w' m o q;obtain⟨va,vc,M⟩:=Fw m;subst M;obtain⟨s,x,hcc,hff⟩:=K.out (X:=(U.alloc (Obj.cells #[.string (S.F k).name,.int .i64 (S.F k).kind,.string (S.F k).type] 113)).drew) (BW U _).drew m o q;have N:=Aa s;have P:=Aa x;clear s x m o q)
     all_goals (try go_wp2_with fail)
     all_goals go_meet
     all_goals exact⟨rfl,N.out,P.out⟩
    case rest =>
     obtain⟨rfl,⟨rk2,B⟩,hK2⟩:=hcut;have y:Keep Y W wc:=HKU.out.trans hK2;have hY2:∀b,Y b->b<wc.heap.size:=λb hb=>Ah (HYW.out b hb) y.size;rw[J1]at B;have ab:(L.set t (pF (Cc (Ci L t) svc S k) (S.F k))).length=L.length:=Be;rw[hlS,<-ab]at B;have C:t<(L.set t (pF (Cc (Ci L t) svc S k) (S.F k))).length:=by rw[ab];exact ht
     obtain⟨g',cap',b1',d1',z,A,b3',d3',hv,e1,e2,e3,k0,k1,k2,k3⟩:=B.aggs C;cases hv;have E:=(y.block _ HYX.out).trans HBX.out;have x2:wc.cell? ⟨w.heap.size,2,none⟩=some (.string S.own):=by simp[World.cell?,E]
     have x3:wc.cell? ⟨w.heap.size,3,none⟩=some (.slice oa S.nf oc):=by simp[World.cell?,E]
     obtain⟨-,hKA⟩:=HF.out wc (HKW.out.trans (HYZ.out y));obtain⟨ob,oo,rfl,o0,hso⟩:=hKA.2 k hlt;have R1:=B.rows 1 t (by decide) C;have hgd:=B.good t C;rw[D8 ht]at e1 e2 e3 k0 k1 k2 k3 R1 hgd;have HAP2:Hid (∀{X w':World} {n:Value},Below wc.heap.size wc X->w'.ownsRow 0 92 3 n ((Cc (Ci L t) svc S k).os.length+1) ((List.range ((Cc (Ci L t) svc S k).os.length*3)).map (Cy (D1 (Cc (Ci L t) svc S k)))++Fy ⟨svc,S.own,S.O k⟩)->X.grownBy w' (Value.slice z (Cc (Ci L t) svc S k).os.length A).ownBlock->(n.ownBlock=(Value.slice z (Cc (Ci L t) svc S k).os.length A).ownBlock\/n.ownBlock=some X.heap.size) ->
       (∃l,Parts Y (w'.setCell ⟨g,t*4+2,none⟩ n) (.slice (some ⟨g,0,none⟩) L.length cap) (L.set t (Cc (Ci L t) svc S (k+1))) l)/\Keep Y wc (w'.setCell ⟨g,t*4+2,none⟩ n)/\w'.cell? ⟨g,t*4+2,none⟩=some (.slice z (Cc (Ci L t) svc S k).os.length A)/\w'.frozen? ⟨g,t*4+2,none⟩=false):=λhX h1 h2 h3=>by
      have e2':rk2 1 t= .slice z (Cc (Ci L t) svc S k).os.length A:=e2;rw[<-e2']at h2 h3 ⊢;have e:=D8 (p:=pF (Cc (Ci L t) svc S k) (S.F k)) ht;have hh:=Ft B hY2 (c:=1) (by decide) C (p':=pO (pF (Cc (Ci L t) svc S k) (S.F k)) ⟨svc,S.own,S.O k⟩) (by rw[e];exact T5 _ _) (SG hgd ⟨hown,hso,hsvc⟩ (by show (Cc (Ci L t) svc S k).os.length<maxLen;unfold maxLen;omega)) hX (by rw[e];exact h1) h2 h3;rw[J1,ab,<-KN]at hh;exact hh
     have HR1:Hid (B9 wc 0 92 3 (.slice z (Cc (Ci L t) svc S k).os.length A) (Cc (Ci L t) svc S k).os.length (Cy (D1 (Cc (Ci L t) svc S k)))):=by
      have e2':rk2 1 t= .slice z (Cc (Ci L t) svc S k).os.length A:=e2;have R1':B9 wc 0 92 3 (rk2 1 t) (Cc (Ci L t) svc S k).os.length (Cy (D1 (Cc (Ci L t) svc S k))):=R1;rw[e2']at R1';exact R1'
     have k2':wc.cell? ⟨g,t*4+2,none⟩=some (.slice z (Cc (Ci L t) svc S k).os.length A):=k2;have hgC:g<wc.heap.size:=An k2';have hxC:w.heap.size<wc.heap.size:=An x2;have hoC:ob<wc.heap.size:=An o0;have HK2:=Aa y;clear B hK2 y hY2 e1 e2 e3 k0 k1 k2 k3 E hKA R1 hgd K HR0U HPU m0 m1 m2
     go_wp2_with fail
     go_region_law (refine Ex rfl (.tmp 56) (.tmp 66) 97 rfl 0 92 iO _ 3 40 Tryz.underlying97 oi oz0 oz1 oz2 rfl (by decide) (.slice z (Cc (Ci L t) svc S k).os.length A) (Cc (Ci L t) svc S k).os.length _ (by simp[Act.eval]) ((HR1.out.kept (BW wc (Obj.cells #[.int .i64 svc,.string S.own,.string (S.O k)] 92))).at (λ_ _=>rfl)) (some ⟨wc.heap.size,0,none⟩) 1 1 (Fy ⟨svc,S.own,S.O k⟩) (by simp[Act.eval]) rfl (CI wc #[.int .i64 svc,.string S.own,.string (S.O k)] _) (λh=>by cases h) (by intro u hu;simp[Fy]at hu;rcases hu with rfl|rfl|rfl<;>rfl) (by unfold maxLen;omega) (by omega) (Ai _) ?_;intro n w' m o q;obtain⟨va,vc,M⟩:=Fw m;subst M;obtain⟨s,x,hcc,hff⟩:=HAP2.out (X:=(wc.alloc (Obj.cells #[.int .i64 svc,.string S.own,.string (S.O k)] 92)).drew) (BW wc _).drew m o q;have N:=Aa s;have P:=Aa x;clear s x m o q)
     all_goals (
      have HK3:=Aa (HK2.out.trans P.out)
      go_wp2_with fail
      go_roundw
      case rel=>exact⟨k+1,by omega,by go_num,HCL2,HK3.out,N.out⟩
      case measure=>simp[intOf];omega)
   ·have hkn:k=S.nf:=by omega
    subst hkn;have HE:Hid (JP (Ci L t) S=0):=LP HCL.out;have HPR:=Aa hPr;clear hPr G
    go_wp2_with fail
    go_ret;exact⟨by rw[HE.out];rfl,λ_=>⟨rk,HPZ.out HPR.out⟩,HKW.out.trans (HYZ.out HKR.out)⟩
end Go.Proofs.YtjjggefmmeminabGreat
