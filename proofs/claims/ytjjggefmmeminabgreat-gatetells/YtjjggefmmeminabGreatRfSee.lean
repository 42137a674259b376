import Derived.Test.YtjjggefmmeminabGreatRfDo
import Derived.Test.YtjjggefmmeminabGreatRefWrong
set_option maxRecDepth 100000
set_option maxHeartbeats 4000000
namespace Go.Proofs.YtjjggefmmeminabGreat
open Go.RowKit Go.Sort
theorem Ek{P:Program}{o:Oper}{s:Nat->Value}{w:World}{K:(Nat->Value)->World->Prop}(x y:Operand)(t:TypeId)(ho:o.op=Op.call { callee:=Callee.builtin Builtin.append,args:=#[x,y],argTypes:=#[t,t] })(base:Nat)(e:TypeId)(i:TypeInfo)(z:Value)(size bytes:Nat)(F:P.underlying t=some (.slice e))(hi:P.info? e=some i)(G:i.zero=some z)(g:i.size=size)(r:i.bytes=bytes)(A:z.cells.size=size)(B:0<size)(v:Value)(n:Nat)(C:List Value)(hx:BV s x=v)(p:w.ownsRow base e size v n C)(b:Option Addr)(m c:Nat)(a:List Value)(H:BV s y= .slice b m c)(I:a.length=m*size)(h:∀E,b=some E->∀j u,a[j]? = some u->w.cell? (E.add j)=some u)(q:b=none->m=0)(h1:∀u∈a,u.oneCell'=true)(D:n+m<=maxLen)(d:(n+m)*bytes<=140737488355328)(k:base<=w.heap.size)(J:∀l w',w'.ownsRow base e size l (n+m) (C++a)->w.grownBy w' v.ownBlock->(l.ownBlock=v.ownBlock\/l.ownBlock=some w.heap.size)->K (ED s o.dst l) w'):Eb P o s w K:=by
 obtain⟨l,w',L,h2,h3,M⟩:=DG (P:=P) w base t o.type e i z size bytes F hi G g r A B v n C p b m c a I h q h1 D d k;refine BU (v:=l) (w':=w') ?_ (J l w' h2 h3 M);simp[execOp,ho,resolve,invoke,builtin,hx,H,L,Result.andThen]
def Cj (n:Nat) (T:Nat->LType) (k:Nat):Nat:=if k<2 then n else (T (k - 2)).nf
def Co (T:Nat->LType) (k j:Nat):ByteArray:=if k<2 then (T j).name else ((T (k - 2)).F j).name
def II (n:Nat) (len:Nat->Nat) (txt:Nat->Nat->ByteArray) (C:Nat->PChange):Nat->(Nat->Nat->ByteArray)
 | 0=>txt
 | k+1=>(GW n len (II n len txt C k) (C k)).2
def Sa (n:Nat) (len:Nat->Nat) (txt:Nat->Nat->ByteArray) (C:Nat->PChange) (k:Nat):Int:=(GW n len (II n len txt C k) (C k)).1
def JK (n:Nat) (T:Nat->LType) (m:Nat) (C:Nat->PChange):Int × Int:=if (CD n T).1≠0 then CD n T else if 12<m then (4,0) else CA m (Sa n (Cj n T) (Co T) C)
structure G10 (W:World) (base bs k:Nat) (fv:Value) (rows:Nat->Value) (T:Nat->LType) (L:Nat->Bool) (s:Nat->Value) (w:World):Prop where
 os:w.os=W.os
 tape:w.tape=W.tape
 output:w.output=W.output
 size:W.heap.size<=w.heap.size
 keep:∀b,b<W.heap.size->(rows 0).ownBlock≠some b->(rows 1).ownBlock≠some b->b≠bs->w.heap[b]? = W.heap[b]?
 box:∃x0 x1,w.heap[bs]? = some (.cells #[x0,x1,fv] 107 (0,0))/\(L 13=false->x0=rows 0)/\(L 15=false->x1=rows 1)/\(L 13=true->x0=s 39)/\(L 15=true->x1=s 45)
 old0:L 5=false->B9 w base 9 1 (rows 0) k (B3 (Co T 0))
 old1:L 11=false->B9 w base 9 1 (rows 1) k (B3 (Co T 1))
 cross:L 5=true->L 11=true->∀b,(s 39).ownBlock=some b->(s 45).ownBlock≠some b
theorem G10.next{W:World}{base i k:Nat}{fv:Value}{a:Nat->Value}{T:Nat->LType}{L c:Nat->Bool}{s j:Nat->Value}{w w':World}(h:G10 W base i k fv a T L s w)(hb:Below w.heap.size w w')(m:c 5=L 5)(d:c 11=L 11)(e:c 13=L 13)(g:c 15=L 15)(e1:j 39=s 39)(e2:j 45=s 45)(l:i<W.heap.size):G10 W base i k fv a T c j w':=by
 refine⟨hb.os.trans h.os,hb.tape.trans h.tape,hb.output.trans h.output,Am h.size hb.size,λb h1 h2 h3 h4=>(hb.block b (Ah h1 h.size)).trans (h.keep b h1 h2 h3 h4),?_,?_,?_,?_⟩
 ·obtain⟨n,o,p,r,u,v,x⟩:=h.box
  exact⟨n,o,(hb.block i (Ah l h.size)).trans p,by rw[e];exact r,by rw[g];exact u,by rw[e,e1];exact v,by rw[g,e2];exact x⟩
 ·rw[m];exact λq=>(h.old0 q).kept hb
 ·rw[d];exact λq=>(h.old1 q).kept hb
 ·rw[m,d,e1,e2];exact h.cross
def M8 (B:Nat) (name:ByteArray) (x:Value) (w:World):Prop := ∃b,x= .slice (some ⟨b,0,none⟩) 1 1/\B<=b/\w.heap[b]? = some (.cells #[.string name] 9 (0,0))
def IC (B base k:Nat) (old:Value) (K:Nat->ByteArray) (x:Value) (w:World):Prop:=B9 w base 9 1 x (k+1) (B3 K)/\(x.ownBlock=old.ownBlock\/∃b,x.ownBlock=some b/\B<=b)
theorem M8.kept{B:Nat}{name:ByteArray}{x:Value}{w w':World}(h:M8 B name x w)(hb:Below w.heap.size w w'):M8 B name x w':=let ⟨b,e,hB,ho⟩:=h;⟨b,e,hB,IB hb ho⟩
theorem IC.kept{B base k:Nat}{old:Value}{K:Nat->ByteArray}{x:Value}{w w':World}(h:IC B base k old K x w)(hb:Below w.heap.size w w'):IC B base k old K x w':=⟨h.1.kept hb,h.2⟩
def UV (k:Nat):Nat:=if k=4 then 5 else if k=10 then 11 else 99
def U8 (B base b bt k:Nat) (a:Nat->Value) (T:Nat->LType) (name:ByteArray) (_:Nat->Bool) (i:Nat) (x:Value) (w:World):Prop:=match i with
 | 0=>x= .pointer (some ⟨b,0,none⟩)
 | 1=>x=a 0
 | 2=>x= .pointer (some ⟨bt,0,none⟩)
 | 3=>x= .string name
 | 4=>M8 B name x w
 | 5=>IC B base k (a 0) (Co T 0) x w
 | 6=>x= .pointer (some ⟨b,1,none⟩)
 | 7=>x=a 1
 | 8=>x= .pointer (some ⟨bt,0,none⟩)
 | 9=>x= .string name
 | 10=>M8 B name x w
 | 11=>IC B base k (a 1) (Co T 1) x w
 | 12=>x= .pointer (some ⟨b,0,none⟩)
 | 14=>x= .pointer (some ⟨b,1,none⟩)
 | _=>True
theorem DM{B base d bt k:Nat}{a:Nat->Value}{T:Nat->LType}{name:ByteArray}{L e:Nat->Bool}(i:Nat){x:Value}{w w':World}(b:U8 B base d bt k a T name L i x w)(h4:M8 B name x w->M8 B name x w')(g:i=5->IC B base k (a 0) (Co T 0) x w->IC B base k (a 0) (Co T 0) x w')(c:i=11->IC B base k (a 1) (Co T 1) x w->IC B base k (a 1) (Co T 1) x w'):U8 B base d bt k a T name e i x w':=by
 unfold U8 at *;split
 ·exact b
 ·exact b
 ·exact b
 ·exact b
 ·exact h4 b
 ·exact g rfl b
 ·exact b
 ·exact b
 ·exact b
 ·exact b
 ·exact h4 b
 ·exact c rfl b
 ·exact b
 ·exact b
 ·trivial
structure FB2 (w wr:World):Prop where
 below:Below w.heap.size w wr
 hrs:wr.heap[w.heap.size]? = some (.cells #[.slice none 0 0,.slice none 0 0,.slice none 0 0] 107 (0,0))
 hrf:wr.heap[w.heap.size+1]? = some (.cells #[.int .i64 0,.int .i64 0] 39 (0,0))
theorem FB2.next{w wr w':World}{B:Nat}(h:FB2 w wr)(hb:Below B wr w')(hB:w.heap.size+1<B):FB2 w w' :=
 ⟨h.below.trans (hb.mono (by omega)),(hb.block _ (by omega)).trans h.hrs,(hb.block _ hB).trans h.hrf⟩
theorem FB2.lt{w wr:World}(h:FB2 w wr):w.heap.size+1<wr.heap.size:=Ag h.hrf
theorem FB2.start(w:World):FB2 w ((w.alloc (.cells #[.slice none 0 0,.slice none 0 0,.slice none 0 0] 107)).alloc (.cells #[.int .i64 0,.int .i64 0] 39)) :=
 ⟨CN _ _ _,(A5 _ _ _ (by simp)).trans (Ap _ _),(show w.heap.size+1=(w.alloc (.cells #[.slice none 0 0,.slice none 0 0,.slice none 0 0] 107)).heap.size by simp) ▸ Ap _ _⟩
theorem FB2.cells{w wr:World}(h:FB2 w wr):wr.cell? ⟨w.heap.size,0,none⟩=some (.slice none 0 0)/\wr.cell? ⟨w.heap.size,1,none⟩=some (.slice none 0 0)/\wr.cell? ⟨w.heap.size,2,none⟩=some (.slice none 0 0)/\wr.frozen? ⟨w.heap.size,0,none⟩=false/\wr.frozen? ⟨w.heap.size,1,none⟩=false/\wr.frozen? ⟨w.heap.size,2,none⟩=false:=by
 simp[World.cell?,World.frozen?,h.hrs]
theorem FB2.set{w wr:World}(h:FB2 w wr)(a b c d e:Value):Below w.heap.size w (((((wr.setCell ⟨w.heap.size,0,none⟩ a).setCell ⟨w.heap.size,1,none⟩ b).setCell ⟨w.heap.size,2,none⟩ c).setCell ⟨w.heap.size+1,0,none⟩ d).setCell ⟨w.heap.size+1,1,none⟩ e) :=
 ((((h.below.setCell (Aj _) _).setCell (Aj _) _).setCell (Aj _) _).setCell (BI _) _).setCell (BI _) _
theorem RS.low{w:World}{base b n:Nat}{fv:Value}{a:Nat->Value}{len:Nat->Nat}{txt:Nat->Nat->ByteArray}(h:RS w base b n fv a len txt){p:Addr}(c:p.block<base)(u:Value):RS (w.setCell p u) base b n fv a len txt :=
 ⟨h.hbs,(Al _ _ _ _ (by have:=h.hbs;omega)).trans h.box,h.frow.set_other (λe=>by have:=(h.frow.lt e).1;omega) _,λk hk=>(h.texts k hk).set_other (λe=>by have:=((h.texts k hk).lt e).1;omega) _,h.apart,h.lens,h.good,h.nmax⟩
theorem SO(w:World)(T:Nat->LType):RS (w.alloc (.cells #[.slice none 0 0,.slice none 0 0,.slice none 0 0] 107)) w.heap.size w.heap.size 0 (.slice none 0 0) (λ_=>.slice none 0 0) (Cj 0 T) (Co T):=by
 refine⟨Aj _,Ap _ _,A4 _ _ _ _,λk hk=>?_,λj k _ _ _ b hb=>(by cases hb),λk hk=>?_,λk hk j a=>?_,Ai _⟩
 ·have:Cj 0 T k=0:=by unfold Cj;rw[Af (by omega)]
  rw[this];exact A4 _ _ _ _
 ·unfold Cj;rw[Af (by omega)];exact Ai _
 ·unfold Cj at a;rw[Af (by omega)]at a;exact absurd a (Ak _)
theorem EV{k:Nat}{T:Nat->LType}{i:Nat}(h:i<2):Cj (k+1) T i=k+1:=by unfold Cj;rw[Af h]
theorem Ii{k a:Nat}{T:Nat->LType}{i:Nat}(h : ¬i<2):Cj a T i=Cj k T i:=by unfold Cj;rw[Ae h,Ae h]
theorem Ul{W w:World}{base q k:Nat}{fv:Value}{a:Nat->Value}{T:Nat->LType}{L:Nat->Bool}{s:Nat->Value}(h:RS W base q k fv a (Cj k T) (Co T))(x:BY (T k).name)(y:G10 W base q k fv a T L s w)(z:L 13=true)(A:L 15=true)(R:L 5=true)(B:L 11=true)(n:B9 w base 9 1 (s 39) (k+1) (B3 (Co T 0)))(C:(s 39).ownBlock=(a 0).ownBlock\/∃b,(s 39).ownBlock=some b/\W.heap.size<=b)(D:B9 w base 9 1 (s 45) (k+1) (B3 (Co T 1)))(E:(s 45).ownBlock=(a 1).ownBlock\/∃b,(s 45).ownBlock=some b/\W.heap.size<=b) :
  RS w base q k fv (λj=>if j=0 then s 39 else if j=1 then s 45 else a j) (Cj (k+1) T) (Co T):=by
 obtain⟨x0,x1,J,-,-,S,U⟩:=y.box;rw[S z,U A]at J;have V:=h.texts 0 (by omega);have X:=h.texts 1 (by omega);have c:∀{e K m:Nat} {u:Value} {f : Nat->Value},B9 W base e K u m f->(∀b,u.ownBlock=some b->(a 0).ownBlock≠some b/\(a 1).ownBlock≠some b/\b≠q)->B9 w base e K u m f:=λM o=>M.at λb hb=>y.keep b (M.lt hb).2 (o b hb).1 (o b hb).2.1 (o b hb).2.2;have old:∀i,2<=i->i<k+2->∀b,(a i).ownBlock=some b->b<W.heap.size/\(a 0).ownBlock≠some b/\(a 1).ownBlock≠some b/\b≠q:=λi h2 hi b hb=>⟨((h.texts i hi).lt hb).2,h.apart i 0 hi (by omega) (by omega) b hb,h.apart i 1 hi (by omega) (by omega) b hb,λe=>(h.texts i hi).box_ne hb h.box (by decide) e.symm⟩;have N:∀i,2<=i->i<k+2->∀b,(a i).ownBlock=some b->(s 39).ownBlock≠some b:=λi h2 hi b hb e=>by
  obtain⟨Y,o2,O,Z⟩:=old i h2 hi b hb;rcases C with d|⟨b',d,hB⟩
  ·exact o2 (by rw[<-d];exact e)
  ·rw[e]at d;cases d;omega
 have n1:∀i,2<=i->i<k+2->∀b,(a i).ownBlock=some b->(s 45).ownBlock≠some b:=λi h2 hi b hb e=>by
  obtain⟨Y,o2,O,Z⟩:=old i h2 hi b hb;rcases E with d|⟨b',d,hB⟩
  ·exact O (by rw[<-d];exact e)
  ·rw[e]at d;cases d;omega
 have hc:=y.cross R B;refine⟨h.hbs,by simpa using J,(c h.frow λb hb=>⟨h.frow.ne V (by decide) hb,h.frow.ne X (by decide) hb,λe=>h.frow.box_ne hb h.box (by decide) e.symm⟩).congr λj l=>?_,λi hi=>?_,λi j hi l F b hb=>?_,λi hi=>?_,λi hi j l=>?_,h.nmax⟩
 ·simp[show ¬2+j=1 by omega]
 ·by_cases P:i=0
  ·subst P;rw[EV (by decide)];exact n
  ·by_cases e1:i=1
   ·subst e1;rw[EV (by decide)];exact D
   ·simp only[P,e1,Bd]
    rw[Ii (k:=k) (by omega)];exact c (h.texts i hi) λb hb=>(old i (by omega) hi b hb).2
 ·by_cases i0:i=0
  ·subst i0
   by_cases r:j=1
   ·subst r
    simp only[Af,show ¬(1:Nat)=0 by decide,Bd]at hb ⊢;exact hc b hb
   ·simp only[Af,show ¬j=0 by omega,r,Bd]at hb ⊢
    exact λe=>N j (by omega) l b e hb
  ·by_cases Q:i=1
   ·subst Q
    by_cases v:j=0
    ·subst v
     simp only[Af,show ¬(1:Nat)=0 by decide,Bd]at hb ⊢;exact λe=>hc b e hb
    ·simp only[Af,show ¬(1:Nat)=0 by decide,v,show ¬j=1 by omega,Bd]at hb ⊢
     exact λe=>n1 j (by omega) l b e hb
   ·simp only[i0,Q,Bd]at hb
    by_cases v:j=0
    ·subst v;simp only[Af];exact N i (by omega) hi b hb
    ·by_cases r:j=1
     ·subst r;simp only[show ¬(1:Nat)=0 by decide,Bd,Af];exact n1 i (by omega) hi b hb
     ·simp only[v,r,Bd];exact h.apart i j hi l F b hb
 ·by_cases p:i<2
  ·rw[EV p]
   have:=h.nmax;have h0:=n.1;rcases n.shape with⟨-,d⟩|⟨g,cap,-,-,G,H⟩
   ·omega
   ·exact Am G H
  ·rw[Ii (k:=k) p];exact h.lens i hi
 ·by_cases p:i<2
  ·rw[EV p]at l
   by_cases I:j<k
   ·exact h.good i hi j (by unfold Cj;rw[Af p];exact I)
   ·have:j=k:=by omega
    subst this;unfold Co;rw[Af p];exact x
  ·rw[Ii (k:=k) p]at l;exact h.good i hi j l
theorem FB2.two{d W w:World}{base i k:Nat}{fv:Value}{a:Nat->Value}{T:Nat->LType}{L:Nat->Bool}{s:Nat->Value}(hF:FB2 d W)(h:RS W base i k fv a (Cj k T) (Co T))(c:G10 W base i k fv a T L s w)(hb:d.heap.size+1<base):FB2 d w:=by
 have hk:∀b,b<base->w.heap[b]? = W.heap[b]?:=λb g=>c.keep b (by have:=Ag h.box;have:=h.hbs;omega) (λe=>by have:=((h.texts 0 (by omega)).lt e).1;omega) (λe=>by have:=((h.texts 1 (by omega)).lt e).1;omega) (by have:=h.hbs;omega);exact⟨hF.below.trans ⟨c.os,c.tape,c.output,c.size,λb g=>hk b (by omega)⟩,(hk _ (by omega)).trans hF.hrs,(hk _ hb).trans hF.hrf⟩
theorem Tryz.info65:(Tryz.prog.info? 65).map (λi=>(i.zero,i.size,i.bytes))=some (some (.slice none 0 0),1,24):=by kernel_rfl
theorem TB{w wr l:World}{base n k:Nat}{fv d v:Value}{a:Nat->Value}{T:Nat->LType}{X:Obj}(h:RS w base n k fv a (Cj (k+1) T) (Co T))(hk:k<1000)(r:base<=w.heap.size)(hb:Below w.heap.size w wr)(hv:B9 wr w.heap.size 9 1 v (T k).nf (B3 (λq=>((T k).F q).name)))(D:(T k).nf<=maxLen)(s:∀j,j<(T k).nf->BY ((T k).F j).name)(hg:(wr.alloc X).grownBy l fv.ownBlock)(C:l.ownsRow base 65 1 d (k+1) ((List.range (k*1)).map (λi=>a (2+i))++[v])) :
  RS (l.setCell ⟨n,2,none⟩ d) base n (k+1) d (λj=>if j=k+2 then v else a j) (Cj (k+1) T) (Co T):=by
 have h1:=(h.kept hb).kept (BW wr X);have x:=hv.kept (BW wr X);have o:l.heap[n]? = some (.cells #[a 0,a 1,fv] 107 (0,0)):=(hg.block n (Ag h1.box) (λe=>h1.frow.box_ne e.symm h1.box (by decide) rfl)).trans h1.box;have y:=Ao l n 2 _ 107 d o;have z:∀{B' e G m:Nat} {u:Value} {f : Nat->Value},e≠107->B9 l B' e G u m f->B9 (l.setCell ⟨n,2,none⟩ d) B' e G u m f:=λhe C=>C.set_other (p:=⟨n,2,none⟩) (λH=>C.box_ne H o he rfl) _;have A:B9 l base 65 1 d (k+1) (λi=>if 2+i=k+2 then v else a (2+i)):=by
  unfold B9;rw[show (k+1)*1=k*1+1 by omega,AA,AH];have e:(List.range (k*1)).map (λi=>if 2+i=k+2 then v else a (2+i))=(List.range (k*1)).map (λi=>a (2+i)):=CX λj B=>by rw[Ae (by omega)]
  rw[e];simp only[AG,AI];rw[Af (by omega)];exact C
 have g:∀i,i<k+2->∀b,(a i).ownBlock=some b->v.ownBlock≠some b:=λi hi b c e=>by
  have I:=((h.texts i hi).lt c).2;have J:=(hv.lt e).1;omega
 refine⟨h.hbs,?_,z (by decide) A,λi hi=>z (by decide) ?_,λi j hi B E b c=>?_,λi hi=>?_,λi hi j B=>?_,by unfold maxLen;omega⟩
 ·rw[y]
  simp
 ·by_cases e:i=k+2
  ·subst e
   rw[Af rfl,show Cj (k+1) T (k+2)=(T k).nf by unfold Cj;rw[Ae (by omega)];rfl];refine((x.grown hg λb c=>x.ne h1.frow (by decide) c).base r).congr λq hq=>?_;unfold B3 Co;rw[Ae (by omega)];rfl
  ·rw[Ae e]
   exact(h1.texts i (by omega)).grown hg λb c=>(h1.texts i (by omega)).ne h1.frow (by decide) c
 ·by_cases e:i=k+2
  ·have e2 : ¬j=k+2:=by omega
   simp only[e,e2,Af,Bd]at c ⊢;exact λe3=>g j (by omega) b e3 c
  ·by_cases e2:j=k+2
   ·simp only[e,e2,Af,Bd]at c ⊢
    exact g i (by omega) b c
   ·simp only[e,e2,Bd]at c ⊢
    exact h.apart i j (by omega) (by omega) E b c
 ·by_cases e:i=k+2
  ·subst e
   rw[show Cj (k+1) T (k+2)=(T k).nf by unfold Cj;rw[Ae (by omega)];rfl];exact D
  ·exact h.lens i (by omega)
 ·by_cases e:i=k+2
  ·subst e
   rw[show Cj (k+1) T (k+2)=(T k).nf by unfold Cj;rw[Ae (by omega)];rfl]at B;unfold Co;rw[Ae (by omega)];exact s j B
  ·exact h.good i (by omega) j B
def FY (a b fv:Value) (h:Int × Int):Value:=.tuple #[.agg #[a,b,fv],.agg #[.int .i64 h.1,.int .i64 h.2]]
theorem KR(a ca:Option Addr)(n cap m ccap:Nat)(T:Nat->LType)(C:Nat->PChange)(w:World)(hT:Cs w a n T)(hC:EI w ca m C)(hcap:n<=cap) :
  Calls Tryz.prog 39 #[.slice a n cap,.slice ca m ccap] w λe w'=>(∃x0 x1 fv,e= .returned (FY x0 x1 fv (JK n T m C))/\((JK n T m C).1=0->∃base bs d,d 0=x0/\d 1=x1/\RS w' base bs n fv d (Cj n T) (II n (Cj n T) (Co T) C m))/\(∃b l c,x0= .slice b l c)/\(∃b l c,x1= .slice b l c)/\∃b l c,fv= .slice b l c)/\Below w.heap.size w w':=by
 have hm:m<=9223372036854775807:=hC.1;have HT:Hid (Cs w a n T):=hT;have HC:Hid (EI w ca m C):=hC;have hfd:=FZ;clear hT hC
 go_enter Tryz.func39,Tryz.ntmps39
 go_wp2_with fail
 have hF0:=FB2.start w;generalize (w.alloc (Obj.cells #[.slice none 0 0,.slice none 0 0,.slice none 0 0] 107)).alloc (Obj.cells #[.int .i64 0,.int .i64 0] 39)=W0 at *;refine(MV a n cap T W0 (HT.out.kept hF0.below) hcap).mono ?_;rintro e w1 ⟨rfl,hw1⟩;have hF1:=hF0.next hw1 hF0.lt
 clear hw1 hF0;unfold Dj;generalize hr:CD n T=r at *;have HR:Hid (CD n T=r):=hr;clear hr;have hF2:=hF1.next (BW w1 (Obj.cells #[.int .i64 r.1,.int .i64 r.2] 39)) hF1.lt
 generalize hW2:w1.alloc (Obj.cells #[.int .i64 r.1,.int .i64 r.2] 39)=W2 at *;have k0:W2.cell? ⟨w1.heap.size,0,none⟩=some (.int .i64 r.1):=by rw[<-hW2,Ac _ _ _ _ rfl];rfl
 have k1:W2.cell? ⟨w1.heap.size,1,none⟩=some (.int .i64 r.2):=by rw[<-hW2,Ac _ _ _ _ rfl];rfl
 obtain⟨p0,p1,p2,p3,p4,p5⟩:=hF2.cells;obtain⟨v0,v1,z0,z1⟩:=Dz hF2.hrf;have HF2:Hid (FB2 w W2):=hF2;have hlt1:w.heap.size+1<w1.heap.size:=hF1.lt;have ne1 : ¬w1.heap.size=w.heap.size:=by omega
 have ne2 : ¬w.heap.size=w1.heap.size:=by omega
 have ne3 : ¬w1.heap.size=w.heap.size+1:=by omega
 have ne4 : ¬w.heap.size+1=w1.heap.size:=by omega
 clear hF1 hF2
 by_cases h1:r.1=0
 case neg =>
  have h1b:(r.1 != 0)=true:=by simpa using h1
  have H:Hid (JK n T m C=r):=by unfold Hid JK;rw[HR.out,Af h1]
  have H1:Hid (¬r.1=0):=h1;clear h1
  go_wp2_with fail
  clear hW2
  go_region
  go_wp2_with fail
  exact At (v:=FY (.slice none 0 0) (.slice none 0 0) (.slice none 0 0) r) (by unfold FY;simp[results,Tryz.results39,go_sem,p0,p1,p2,v0,v1]) rfl ⟨⟨_,_,_,by rw[H.out],λh=>absurd (by rw[H.out]at h;exact h) H1.out,⟨_,_,_,rfl⟩,⟨_,_,_,rfl⟩,⟨_,_,_,rfl⟩⟩,(HF2.out.set _ _ _ _ _).drew⟩
 have h1b:(r.1 != 0)=false:=by simpa using h1
 have H1:Hid (r.1=0):=h1;clear h1
 by_cases h2:12<(m:Int)
 ·have H:Hid (JK n T m C=(4,0)):=by unfold Hid JK;rw[HR.out,Ae (by rw[H1.out];simp),Af (by omega)]
  go_wp2_with fail
  exact At (v:=FY (.slice none 0 0) (.slice none 0 0) (.slice none 0 0) (4,0)) (by unfold FY;simp[results,Tryz.results39,go_sem,p0,p1,p2,v0,v1]) rfl ⟨⟨_,_,_,by rw[H.out],λh=>(by rw[H.out]at h;simp at h),⟨_,_,_,rfl⟩,⟨_,_,_,rfl⟩,⟨_,_,_,rfl⟩⟩,HF2.out.set _ _ _ _ _⟩
 have HM:Hid (m<=12):=by unfold Hid;omega
 have HFE:Hid (JK n T m C=CA m (Sa n (Cj n T) (Co T) C)):=by unfold Hid JK;rw[HR.out,Ae (by rw[H1.out];simp),Ae (by omega)]
 have R:=Hj.1 (show (CD n T).1=0 by rw[HR.out];exact H1.out);have HRT:=Aa R;have hn8:n<=8:=R.few;clear R
 go_wp2_with fail
 clear hW2 k0 k1 p0 p1 p2 p3 p4 p5 v0 v1 z0 z1 ne1 ne2 ne3 ne4;have hRS:=SO W2 T;have hF3:=HF2.out.next (BW W2 (Obj.cells #[.slice none 0 0,.slice none 0 0,.slice none 0 0] 107)) HF2.out.lt
 have hbl:w.heap.size+1<W2.heap.size:=HF2.out.lt;have hz3:W2.heap.size<=(W2.alloc (Obj.cells #[.slice none 0 0,.slice none 0 0,.slice none 0 0] 107)).heap.size:=by simp
 generalize W2.alloc (Obj.cells #[.slice none 0 0,.slice none 0 0,.slice none 0 0] 107)=W3 at *;generalize W2.heap.size=base at *;have HRS:=Aa hRS;have HF3:=Aa hF3;clear hRS hF3 HF2
 go_loopw [30] (λi wr => ∃k:Nat,k<=n/\i= .int .i64 k/\FB2 w wr/\base<=wr.heap.size/\∃fv d,RS wr base base k fv d (Cj k T) (Co T)) (λi _=>n - (intOf i).toNat)
 case atStart=>exact⟨0,Ai _,rfl,HF3.out,hz3,_,_,HRS.out⟩
 case round =>
  obtain⟨k,hk,rfl,hFr,hzr,fv,d,hSr⟩:=hrel
  by_cases hlt:k<n
  ·obtain⟨b,o,rfl,t0,t1,hfc,hsn,hF⟩:=(HT.out.kept hFr.below).2 k hlt
   have hlt':(k:Int)<(n:Int):=by omega
   have hk0:(0:Int)<=(k:Int):=by omega
   have hnf:(T k).nf<=10:=(HRT.out.fld k hlt).few;generalize hY:wr.alloc (Obj.cells #[.string (T k).name,.slice (T k).fa (T k).nf (T k).fcap] 96)=Y;have hBY:Below wr.heap.size wr Y:=by rw[<-hY];exact BW _ _
   have hby:Y.heap[wr.heap.size]? = some (.cells #[.string (T k).name,.slice (T k).fa (T k).nf (T k).fcap] 96 (0,0)):=by rw[<-hY];exact Ap _ _
   have W:=hFr.next hBY hFr.lt
   have hSY:=hSr.kept hBY;have hFY:=hF.kept hBY;have hzY:base<=Y.heap.size:=Am hzr hBY.size;have HFY:=Aa hFY;have I:=Aa hSY;have X:=Aa W;have P:=Aa hby
   clear hFr hSr hBY hby W hSY hFY hF
   go_wp2_with fail
   clear hY t0 t1;generalize wr.heap.size=bt at *;obtain⟨i0,hi,hz0,hz1,hz2⟩:=Cd Tryz.info9;have M:base<Y.heap.size:=Ag I.out.box;have hbt:bt<Y.heap.size:=Ag P.out;refine Cq (by kernel_rfl) (by kernel_rfl) [34,35,36,37,38,39,40,41,42,43,44,45,46,47] (by kernel_rfl) (by kernel_rfl) (by kernel_rfl) UV (U8 Y.heap.size base base bt k d T (T k).name) (G10 Y base base k fv d T) ?_ ?_ ?_
   ·exact⟨rfl,rfl,rfl,Aj _,λ_ _ _ _ _=>rfl,⟨d 0,d 1,I.out.box,λ_=>rfl,λ_=>rfl,λh=>(by cases h),λh=>(by cases h)⟩,λ_=>(I.out.texts 0 (by omega)).at (λ_ _=>rfl),λ_=>(I.out.texts 1 (by omega)).at (λ_ _=>rfl),λh=>(by cases h)⟩
   ·intro L s x i o y hL Q S hF A hl ha
    have B:L 99=false:=by
     cases h:L 99 with
     |false=>rfl
     |true=>exact absurd (hL 99 h) (by decide)
    have up11:L 11=true->L 5=true:=λh=>Q 11 _ h rfl ⟨5,.chain⟩ (by simp) rfl;have up13_1:L 13=true->L 1=true:=λh=>Q 13 _ h rfl ⟨1,.phase⟩ (by simp) rfl;have ad:L 13=true->L 5=true:=λh=>Q 13 _ h rfl ⟨5,.data⟩ (by simp) rfl;have up13_11:L 13=true->L 11=true:=λh=>Q 13 _ h rfl ⟨11,.chain⟩ (by simp) rfl;have up15:L 15=true->L 13=true:=λh=>Q 15 _ h rfl ⟨13,.chain⟩ (by simp) rfl;have up15_7:L 15=true->L 7=true:=λh=>Q 15 _ h rfl ⟨7,.phase⟩ (by simp) rfl;have R0:=Aa (I.out.texts 0 (by omega));have R1:=Aa (I.out.texts 1 (by omega));have U:x.heap[bt]? = some (.cells #[.string (T k).name,.slice (T k).fa (T k).nf (T k).fcap] 96 (0,0)):=(y.keep bt hbt (λe=>R0.out.box_ne e P.out (by decide) rfl) (λe=>R1.out.box_ne e P.out (by decide) rfl) (λe=>by have h1:=I.out.box;rw[<-e,P.out]at h1;simp at h1)).trans P.out;obtain _|i:=i
    ·obtain rfl:=Ab A
     have z:Below x.heap.size x x:=Aq _ _;have e1:s 7= .pointer (some ⟨base,0,none⟩):=hF 7 (by decide);refine BU (v:=.pointer (some ⟨base,0,none⟩)) (w':=x) ?_ ⟨(y.next z rfl rfl rfl rfl rfl rfl M),rfl,λq _ _ _ h=>DM q h (λh=>h.kept z) (λ_ h=>h.kept z) (λ_ h=>h.kept z)⟩
     simp only[execOp,BV,e1];go_simp
    obtain _|i:=i
    ·obtain rfl:=Ab A
     have z:Below x.heap.size x x:=Aq _ _;have e1:s 34= .pointer (some ⟨base,0,none⟩):=S 0 (ha ⟨0,.data⟩ (by simp) rfl) B;have J:L 13=false:=by
      cases h:L 13 with
      |false=>rfl
      |true =>
       have h2:L 1=true:=up13_1 h;have h3:L 1=false:=hl;rw[h2]at h3;cases h3
     obtain⟨x0,x1,N,q1,q2,-,-⟩:=y.box;have hc:x.cell? ⟨base,0,none⟩=some (d 0):=by rw[<-q1 J];simp[World.cell?,N]
     refine BU (v:=d 0) (w':=x) ?_ ⟨(y.next z rfl rfl rfl rfl rfl rfl M),rfl,λq _ _ _ h=>DM q h (λh=>h.kept z) (λ_ h=>h.kept z) (λ_ h=>h.kept z)⟩
     simp only[execOp,BV,e1];go_simp
    obtain _|i:=i
    ·obtain rfl:=Ab A
     have z:Below x.heap.size x x:=Aq _ _;have e1:s 9= .pointer (some ⟨bt,0,none⟩):=hF 9 (by decide);refine BU (v:=.pointer (some ⟨bt,0,none⟩)) (w':=x) ?_ ⟨(y.next z rfl rfl rfl rfl rfl rfl M),rfl,λq _ _ _ h=>DM q h (λh=>h.kept z) (λ_ h=>h.kept z) (λ_ h=>h.kept z)⟩
     simp only[execOp,BV,e1];go_simp
    obtain _|i:=i
    ·obtain rfl:=Ab A
     have z:Below x.heap.size x x:=Aq _ _;have e1:s 36= .pointer (some ⟨bt,0,none⟩):=S 2 (ha ⟨2,.data⟩ (by simp) rfl) B;have hc:x.cell? ⟨bt,0,none⟩=some (.string (T k).name):=by simp[World.cell?,U]
     refine BU (v:=.string (T k).name) (w':=x) ?_ ⟨(y.next z rfl rfl rfl rfl rfl rfl M),rfl,λq _ _ _ h=>DM q h (λh=>h.kept z) (λ_ h=>h.kept z) (λ_ h=>h.kept z)⟩
     simp only[execOp,BV,e1];go_simp
    obtain _|i:=i
    ·obtain rfl:=Ab A
     have e1:s 37= .string (T k).name:=S 3 (ha ⟨3,.data⟩ (by simp) rfl) B;have z:=BW x (Obj.cells #[.string (T k).name] 9);refine BU (v:=.slice (some ⟨x.heap.size,0,none⟩) 1 1) (w':=x.alloc (.cells #[.string (T k).name] 9)) ?_ ⟨(y.next z rfl rfl rfl rfl rfl rfl M),⟨x.heap.size,rfl,y.size,Ap _ _⟩,λq _ _ _ h=>DM q h (λh=>h.kept z) (λ_ h=>h.kept z) (λ_ h=>h.kept z)⟩
     simp only[execOp,AJ,AG,AI,BV,e1];go_simp
    obtain _|i:=i
    ·obtain rfl:=Ab A
     have hl5:L 5=false:=hl;have e1:s 35=d 0:=S 1 (ha ⟨1,.data⟩ (by simp) rfl) B;obtain⟨b4,e2,hb4,ho4⟩:M8 Y.heap.size (T k).name (s 38) x:=S 4 (ha ⟨4,.data⟩ (by simp) rfl) hl;have hr0:=y.old0 hl5;have h11f:L 11=false:=by
      cases h:L 11 with
      |false=>rfl
      |true=>have h2:=up11 h;rw[hl5]at h2;cases h2
     have hr1:=y.old1 h11f;refine Ek (.tmp 35) (.tmp 38) 65 rfl base 9 i0 _ 1 16 Tryz.underlying65 hi hz0 hz1 hz2 rfl (by decide) (d 0) k _ e1 hr0 (some ⟨b4,0,none⟩) 1 1 [.string (T k).name] e2 rfl (IQ ho4) (λh=>by cases h) (by intro u hu;simp at hu;subst hu;rfl) (by unfold maxLen;omega) (by omega) (Am hzY y.size) ?_;intro v' w' hown D hat;have E:B9 w' base 9 1 v' (k+1) (B3 (Co T 0)):=by unfold B9;rw[ES];exact hown
     have ae:∀b,(d 1).ownBlock=some b->(d 0).ownBlock≠some b:=I.out.apart 1 0 (by omega) (by omega) (by decide);obtain⟨x0,x1,N,q1,q2,q3,q4⟩:=y.box;refine⟨⟨D.os.trans y.os,D.tape.trans y.tape,D.output.trans y.output,Am y.size D.size,λb c1 c2 c3 c4=>(D.block b (Ah c1 y.size) (λe=>c2 e.symm)).trans (y.keep b c1 c2 c3 c4),⟨x0,x1,(D.block base (Ag N) (λe=>hr0.box_ne e.symm N (by decide) rfl)).trans N,q1,q2,λh=>?_,λh=>?_⟩,λh=>(by cases h),λ_=>hr1.grown D (λb hb e=>ae b hb e),λ_ h=>?_⟩,⟨E,?_⟩,λq hq hLq hlv Z=>DM q Z (λh=>?_) (λe=>absurd e hq) (λe=>?_)⟩
     ·have h2:=ad h;rw[hl5]at h2;cases h2
     ·have h2:=ad (up15 h);rw[hl5]at h2;cases h2
     ·have h2:L 11=true:=h;rw[h11f]at h2;cases h2
     ·rcases hat with h|h
      ·exact .inl h
      ·exact .inr ⟨_,h,y.size⟩
     ·obtain⟨b,e,hB,ho⟩:=h
      refine⟨b,e,hB,(D.block b (Ag ho) (λe'=>?_)).trans ho⟩;have:=(R0.out.lt e'.symm).2;omega
     ·subst e
      rw[h11f]at hLq;cases hLq
    obtain _|i:=i
    ·obtain rfl:=Ab A
     have z:Below x.heap.size x x:=Aq _ _;have e1:s 7= .pointer (some ⟨base,0,none⟩):=hF 7 (by decide);refine BU (v:=.pointer (some ⟨base,1,none⟩)) (w':=x) ?_ ⟨(y.next z rfl rfl rfl rfl rfl rfl M),rfl,λq _ _ _ h=>DM q h (λh=>h.kept z) (λ_ h=>h.kept z) (λ_ h=>h.kept z)⟩
     simp only[execOp,BV,e1];go_simp
    obtain _|i:=i
    ·obtain rfl:=Ab A
     have z:Below x.heap.size x x:=Aq _ _;have e1:s 40= .pointer (some ⟨base,1,none⟩):=S 6 (ha ⟨6,.data⟩ (by simp) rfl) B;have J:L 15=false:=by
      cases h:L 15 with
      |false=>rfl
      |true =>
       have h2:L 7=true:=up15_7 h;have h3:L 7=false:=hl;rw[h2]at h3;cases h3
     obtain⟨x0,x1,N,q1,q2,-,-⟩:=y.box;have hc:x.cell? ⟨base,1,none⟩=some (d 1):=by rw[<-q2 J];simp[World.cell?,N]
     refine BU (v:=d 1) (w':=x) ?_ ⟨(y.next z rfl rfl rfl rfl rfl rfl M),rfl,λq _ _ _ h=>DM q h (λh=>h.kept z) (λ_ h=>h.kept z) (λ_ h=>h.kept z)⟩
     simp only[execOp,BV,e1];go_simp
    obtain _|i:=i
    ·obtain rfl:=Ab A
     have z:Below x.heap.size x x:=Aq _ _;have e1:s 9= .pointer (some ⟨bt,0,none⟩):=hF 9 (by decide);refine BU (v:=.pointer (some ⟨bt,0,none⟩)) (w':=x) ?_ ⟨(y.next z rfl rfl rfl rfl rfl rfl M),rfl,λq _ _ _ h=>DM q h (λh=>h.kept z) (λ_ h=>h.kept z) (λ_ h=>h.kept z)⟩
     simp only[execOp,BV,e1];go_simp
    obtain _|i:=i
    ·obtain rfl:=Ab A
     have z:Below x.heap.size x x:=Aq _ _;have e1:s 42= .pointer (some ⟨bt,0,none⟩):=S 8 (ha ⟨8,.data⟩ (by simp) rfl) B;have hc:x.cell? ⟨bt,0,none⟩=some (.string (T k).name):=by simp[World.cell?,U]
     refine BU (v:=.string (T k).name) (w':=x) ?_ ⟨(y.next z rfl rfl rfl rfl rfl rfl M),rfl,λq _ _ _ h=>DM q h (λh=>h.kept z) (λ_ h=>h.kept z) (λ_ h=>h.kept z)⟩
     simp only[execOp,BV,e1];go_simp
    obtain _|i:=i
    ·obtain rfl:=Ab A
     have e1:s 43= .string (T k).name:=S 9 (ha ⟨9,.data⟩ (by simp) rfl) B;have z:=BW x (Obj.cells #[.string (T k).name] 9);refine BU (v:=.slice (some ⟨x.heap.size,0,none⟩) 1 1) (w':=x.alloc (.cells #[.string (T k).name] 9)) ?_ ⟨(y.next z rfl rfl rfl rfl rfl rfl M),⟨x.heap.size,rfl,y.size,Ap _ _⟩,λq _ _ _ h=>DM q h (λh=>h.kept z) (λ_ h=>h.kept z) (λ_ h=>h.kept z)⟩
     simp only[execOp,AJ,AG,AI,BV,e1];go_simp
    obtain _|i:=i
    ·obtain rfl:=Ab A
     have hl11:L 11=false:=hl;have p5:L 5=true:=ha ⟨5,.chain⟩ (by simp) rfl;have e1:s 41=d 1:=S 7 (ha ⟨7,.data⟩ (by simp) rfl) B;obtain⟨b4,e2,hb4,ho4⟩:M8 Y.heap.size (T k).name (s 44) x:=S 10 (ha ⟨10,.data⟩ (by simp) rfl) hl;obtain⟨hn5,hat5⟩:IC Y.heap.size base k (d 0) (Co T 0) (s 39) x:=S 5 p5 B;have hr1:=y.old1 hl11;refine Ek (.tmp 41) (.tmp 44) 65 rfl base 9 i0 _ 1 16 Tryz.underlying65 hi hz0 hz1 hz2 rfl (by decide) (d 1) k _ e1 hr1 (some ⟨b4,0,none⟩) 1 1 [.string (T k).name] e2 rfl (IQ ho4) (λh=>by cases h) (by intro u hu;simp at hu;subst hu;rfl) (by unfold maxLen;omega) (by omega) (Am hzY y.size) ?_;intro v' w' hown D hat;have E:B9 w' base 9 1 v' (k+1) (B3 (Co T 1)):=by unfold B9;rw[ES];exact hown
     have ae:∀b,(d 0).ownBlock=some b->(d 1).ownBlock≠some b:=I.out.apart 0 1 (by omega) (by omega) (by decide);have hx39:∀b,(s 39).ownBlock=some b->(d 1).ownBlock≠some b:=λb hb e=>by
      rcases hat5 with h|⟨b',h,hB⟩
      ·exact ae b (by rw[<-h];exact hb) e
      ·rw[hb]at h;cases h
       have:=(R1.out.lt e).2;omega
     obtain⟨x0,x1,N,q1,q2,q3,q4⟩:=y.box;refine⟨⟨D.os.trans y.os,D.tape.trans y.tape,D.output.trans y.output,Am y.size D.size,λb c1 c2 c3 c4=>(D.block b (Ah c1 y.size) (λe=>c3 e.symm)).trans (y.keep b c1 c2 c3 c4),⟨x0,x1,(D.block base (Ag N) (λe=>hr1.box_ne e.symm N (by decide) rfl)).trans N,q1,q2,q3,λh=>?_⟩,λh=>?_,λh=>(by cases h),λ_ _ b hb hb'=>?_⟩,⟨E,?_⟩,λq hq hLq hlv Z=>DM q Z (λh=>?_) (λ_ h=>⟨h.1.grown D (λb hb e=>?_),h.2⟩) (λe=>absurd e hq)⟩
     ·have h2:=up13_11 (up15 h);rw[hl11]at h2;cases h2
     ·have h2:L 5=false:=h;rw[p5]at h2;cases h2
     ·have hb1:(s 39).ownBlock=some b:=hb
      have hb2:v'.ownBlock=some b:=hb';rcases hat with h|h
      ·exact hx39 b hb1 (by rw[<-h];exact hb2)
      ·rw[hb2]at h;cases h
       have:=(hn5.lt hb1).2;omega
     ·rcases hat with h|h
      ·exact .inl h
      ·exact .inr ⟨_,h,y.size⟩
     ·obtain⟨b,e,hB,ho⟩:=h
      refine⟨b,e,hB,(D.block b (Ag ho) (λe'=>?_)).trans ho⟩;have:=(R1.out.lt e'.symm).2;omega
     ·rcases h.2 with h'|⟨b',h',hB⟩
      ·exact ae b (by rw[<-h'];exact hb) e
      ·rw[hb]at h';cases h'
       have:=(R1.out.lt e).2;omega
    obtain _|i:=i
    ·obtain rfl:=Ab A
     have z:Below x.heap.size x x:=Aq _ _;have e1:s 7= .pointer (some ⟨base,0,none⟩):=hF 7 (by decide);refine BU (v:=.pointer (some ⟨base,0,none⟩)) (w':=x) ?_ ⟨(y.next z rfl rfl rfl rfl rfl rfl M),rfl,λq _ _ _ h=>DM q h (λh=>h.kept z) (λ_ h=>h.kept z) (λ_ h=>h.kept z)⟩
     simp only[execOp,BV,e1];go_simp
    obtain _|i:=i
    ·obtain rfl:=Ab A
     have hl13:L 13=false:=hl;have e1:s 46= .pointer (some ⟨base,0,none⟩):=S 12 (ha ⟨12,.data⟩ (by simp) rfl) B;have hpn:IC Y.heap.size base k (d 0) (Co T 0) (s 39) x:=S 5 (ha ⟨5,.data⟩ (by simp) rfl) B;obtain⟨a',c',e2,-⟩:=hpn.1.slice;obtain⟨x0,x1,N,q1,q2,q3,q4⟩:=y.box;have hc:x.cell? ⟨base,0,none⟩=some x0:=by simp[World.cell?,N]
     have hz:x.frozen? ⟨base,0,none⟩=false:=by simp[World.frozen?,N]
     have hset:=Ao x base 0 _ 107 (s 39) N;have J:∀{B' e sz m:Nat} {u:Value} {f : Nat->Value},e≠107->B9 x B' e sz u m f->B9 (x.setCell ⟨base,0,none⟩ (s 39)) B' e sz u m f:=λhe hr=>hr.set_other (p:=⟨base,0,none⟩) (λe'=>hr.box_ne e' N he rfl) _;refine CV (w':=x.setCell ⟨base,0,none⟩ (s 39)) ?_ ⟨⟨y.os,y.tape,y.output,by simpa using y.size,λb c1 c2 c3 c4=>(Al _ _ _ _ c4).trans (y.keep b c1 c2 c3 c4),⟨s 39,x1,by rw[hset];rfl,λh=>(by cases h),q2,λ_=>rfl,q4⟩,λh=>J (by decide) (y.old0 h),λh=>J (by decide) (y.old1 h),y.cross⟩,AM,λq hq hLq hlv Z=>DM q Z (λh=>?_) (λ_ h=>⟨J (by decide) h.1,h.2⟩) (λ_ h=>⟨J (by decide) h.1,h.2⟩)⟩
     ·simp only[execOp,BV,e1,e2]
      go_simp
     ·obtain⟨b,e,hB,ho⟩:=h
      exact⟨b,e,hB,(Al _ _ _ _ (show b≠base by omega)).trans ho⟩
    obtain _|i:=i
    ·obtain rfl:=Ab A
     have z:Below x.heap.size x x:=Aq _ _;have e1:s 7= .pointer (some ⟨base,0,none⟩):=hF 7 (by decide);refine BU (v:=.pointer (some ⟨base,1,none⟩)) (w':=x) ?_ ⟨(y.next z rfl rfl rfl rfl rfl rfl M),rfl,λq _ _ _ h=>DM q h (λh=>h.kept z) (λ_ h=>h.kept z) (λ_ h=>h.kept z)⟩
     simp only[execOp,BV,e1];go_simp
    obtain _|i:=i
    ·obtain rfl:=Ab A
     have hl15:L 15=false:=hl;have e1:s 47= .pointer (some ⟨base,1,none⟩):=S 14 (ha ⟨14,.data⟩ (by simp) rfl) B;have hpn:IC Y.heap.size base k (d 1) (Co T 1) (s 45) x:=S 11 (ha ⟨11,.data⟩ (by simp) rfl) B;obtain⟨a',c',e2,-⟩:=hpn.1.slice;obtain⟨x0,x1,N,q1,q2,q3,q4⟩:=y.box;have hc:x.cell? ⟨base,1,none⟩=some x1:=by simp[World.cell?,N]
     have hz:x.frozen? ⟨base,1,none⟩=false:=by simp[World.frozen?,N]
     have hset:=Ao x base 1 _ 107 (s 45) N;have J:∀{B' e sz m:Nat} {u:Value} {f : Nat->Value},e≠107->B9 x B' e sz u m f->B9 (x.setCell ⟨base,1,none⟩ (s 45)) B' e sz u m f:=λhe hr=>hr.set_other (p:=⟨base,1,none⟩) (λe'=>hr.box_ne e' N he rfl) _;refine CV (w':=x.setCell ⟨base,1,none⟩ (s 45)) ?_ ⟨⟨y.os,y.tape,y.output,by simpa using y.size,λb c1 c2 c3 c4=>(Al _ _ _ _ c4).trans (y.keep b c1 c2 c3 c4),⟨x0,s 45,by rw[hset];rfl,q1,λh=>(by cases h),q3,λ_=>rfl⟩,λh=>J (by decide) (y.old0 h),λh=>J (by decide) (y.old1 h),y.cross⟩,AM,λq hq hLq hlv Z=>DM q Z (λh=>?_) (λ_ h=>⟨J (by decide) h.1,h.2⟩) (λ_ h=>⟨J (by decide) h.1,h.2⟩)⟩
     ·simp only[execOp,BV,e1,e2]
      go_simp
     ·obtain⟨b,e,hB,ho⟩:=h
      exact⟨b,e,hB,(Al _ _ _ _ (show b≠base by omega)).trans ho⟩
    ·exfalso
     have hlen:i+1+1+1+1+1+1+1+1+1+1+1+1+1+1+1+1<16:=(List.getElem?_eq_some_iff.1 A).1;omega
   ·intro L s x y hL O S
    have B:L 99=false:=by
     cases h:L 99 with
     |false=>rfl
     |true=>exact absurd (hL 99 h) (by decide)
    obtain⟨hn0,ht0⟩:IC Y.heap.size base k (d 0) (Co T 0) (s 39) x:=S 5 (O 5 (by decide)) B;obtain⟨hn1,ht1⟩:IC Y.heap.size base k (d 1) (Co T 1) (s 45) x:=S 11 (O 11 (by decide)) B;have hRS:=Ul I.out hsn y (O 13 (by decide)) (O 15 (by decide)) (O 5 (by decide)) (O 11 (by decide)) hn0 ht0 hn1 ht1;have hF6:FB2 w x:=X.out.two I.out y hbl;have U:x.heap[bt]? = some (.cells #[.string (T k).name,.slice (T k).fa (T k).nf (T k).fcap] 96 (0,0)):=(y.keep bt hbt (λe=>(I.out.texts 0 (by omega)).box_ne e P.out (by decide) rfl) (λe=>(I.out.texts 1 (by omega)).box_ne e P.out (by decide) rfl) (λe=>by have h1:=I.out.box;rw[<-e,P.out]at h1;simp at h1)).trans P.out;have hz6:base<=x.heap.size:=Am hzY y.size;have HRS6:=Aa hRS;have HF6:=Aa hF6;have b1:x.cell? ⟨bt,1,none⟩=some (.slice (T k).fa (T k).nf (T k).fcap):=by simp[World.cell?,U]
    have hFz:=(HT.out.kept hF6.below).2 k hlt;have HFz:Hid (Cl x (T k).fa (T k).nf (T k).F):=by obtain⟨_,_,_,_,_,_,_,q⟩:=hFz;exact q
    simp only[Cn,Act.put,Au,AD,AE];clear S O hL B hn0 ht0 hn1 ht1 hRS hF6 y hFz U I X P HFY;generalize s 34=x34;generalize s 35=x35;generalize s 36=x36;generalize s 37=x37;generalize s 38=x38;generalize s 40=x40;generalize s 41=x41;generalize s 42=x42;generalize s 43=x43;generalize s 44=x44;generalize s 46=x46;generalize s 47=x47;generalize s 39=x39 at *;generalize s 45=x45 at *;generalize (λj=>if j=0 then x39 else if j=1 then x45 else d j)=G at *
    go_wp2_with fail
    clear b1;have hnf':(T k).nf<=9223372036854775807:=by omega
    go_loopw [10,51] (λv i w3 => ∃j:Nat,j<=(T k).nf/\i= .int .i64 j/\B9 w3 x.heap.size 9 1 v j (B3 (λq=>((T k).F q).name))/\Below x.heap.size x w3) (λ_ i _=>(T k).nf - (intOf i).toNat)
    case atStart=>exact⟨0,Ai _,rfl,A4 _ _ _ _,Aq _ _⟩
    case round =>
     obtain⟨j,hj,rfl,E,hw⟩:=hrel
     by_cases hjl:j<(T k).nf
     ·obtain⟨b2,o2,ha2,f0,f1,f2,-⟩:=(HFz.out.kept hw).2 j hjl
      rw[ha2];have hjl':(j:Int)<((T k).nf:Int):=by omega
      have hj0:(0:Int)<=(j:Int):=by omega
      generalize hV:wr.alloc (Obj.cells #[.string ((T k).F j).name,.int .i64 ((T k).F j).kind,.string ((T k).F j).type] 113)=V;have hBV:Below wr.heap.size wr V:=by rw[<-hV];exact BW _ _
      have k0:V.cell? ⟨wr.heap.size,0,none⟩=some (.string ((T k).F j).name):=by rw[<-hV,Ac _ _ _ _ rfl];rfl
      have HO:Hid (B9 (V.alloc (Obj.cells #[.string ((T k).F j).name] 9)) x.heap.size 9 1 _ j (B3 (λq=>((T k).F q).name))):=(E.kept hBV).kept (BW _ _);have HBV:Hid (Below x.heap.size x V):=hw.trans (hBV.mono hw.size);have HL:Hid (∀k',Value.ownBlock _=some k'->x.heap.size<=k'):=λk' hk'=>(E.lt hk').1;have hzv:x.heap.size<=V.heap.size:=HBV.out.size;clear E hw hBV
      go_wp2_with (at_builtin;refine Ck _ rfl _ _ 65 rfl x.heap.size 9 i0 _ 1 16 Tryz.underlying65 hi hz0 hz1 hz2 rfl (by decide) _ j _ rfl HO.out (some ⟨V.heap.size,0,none⟩) 1 1 [.string ((T k).F j).name] rfl rfl (CI V #[.string ((T k).F j).name] _) (λh=>by cases h) (by intro u hu;simp at hu;subst hu;rfl) (by unfold maxLen;omega) (by omega) (by simp;omega) ?_)
      intro v2 w6 K aa _;have HRw:Hid (B9 w6 x.heap.size 9 1 v2 (j+1) (B3 (λq=>((T k).F q).name))):=by unfold Hid B9;rw[ES,Bk];exact K
      have HB6:Hid (Below x.heap.size x w6):=(HBV.out.trans ((BW V _).mono hzv)).grown aa (by simp;omega) (λk' hk'=>HL.out k' hk');clear K aa HO HL HBV hV k0 f0 f1 f2 ha2
      go_wp2_with fail
      go_roundw
      case rel=>exact⟨j+1,by omega,by go_num,HRw.out,HB6.out⟩
      case measure=>simp[intOf];omega
     ·have hjn:j=(T k).nf:=by omega
      rw[hjn]at E;obtain⟨av,cv,hv,-⟩:=E.slice;subst hv;obtain⟨i1,ji,jz0,jz1,jz2⟩:=Cd Tryz.info65;have ab:=HRS6.out.kept hw;obtain⟨af,cf,hfv,-⟩:=ab.frow.slice;have c2:wr.cell? ⟨base,2,none⟩=some fv:=by simp[World.cell?,ab.box]
      have z2:wr.frozen? ⟨base,2,none⟩=false:=by simp[World.frozen?,ab.box]
      subst hfv;have ag:∀j,j<(T k).nf->BY ((T k).F j).name:=λj hj=>by obtain⟨_,_,_,_,_,_,q,_⟩:=HFz.out.2 j hj;exact q
      have HGN:=Aa ag;have HVR:Hid (B9 wr x.heap.size 9 1 (.slice av (T k).nf cv) (T k).nf (B3 (λq=>((T k).F q).name))):=E;have HO:Hid (B9 (wr.alloc (Obj.cells #[.slice av (T k).nf cv] 65)) base 65 1 (.slice af k cf) k (λi=>G (2+i))):=ab.frow.kept (BW _ _);have HWr:=Aa hw;have hzr2:base<=wr.heap.size:=Am hz6 hw.size;have HLf:Hid (∀b,(Value.slice af k cf).ownBlock=some b->base<=b):=λb hb=>(ab.frow.lt hb).1;have hbox:wr.heap[base]? = some (.cells #[G 0,G 1,.slice af k cf] 107 (0,0)):=ab.box;have HBX:=Aa hbox;clear E hw ab ag hjn hbox
      go_wp2_with (at_builtin;refine Ck _ rfl _ _ 105 rfl base 65 i1 _ 1 24 Tryz.underlying105 ji jz0 jz1 jz2 rfl (by decide) _ k _ rfl HO.out (some ⟨wr.heap.size,0,none⟩) 1 1 [.slice av (T k).nf cv] rfl rfl (CI wr #[.slice av (T k).nf cv] _) (λh=>by cases h) (by intro u hu;simp at hu;subst hu;rfl) (by unfold maxLen;omega) (by omega) (by simp;omega) ?_)
      intro v2 w6 K aa _;have ac:w6.heap[base]? = some (.cells #[G 0,G 1,.slice af k cf] 107 (0,0)):=(aa.block base (by have:=Ag HBX.out;simp;omega) (λe=>HO.out.box_ne e.symm ((BW wr _).block base (Ag HBX.out) |>.trans HBX.out) (by decide) rfl)).trans ((BW wr _).block base (Ag HBX.out) |>.trans HBX.out);have hrs:=TB HRS6.out (by omega) hz6 HWr.out HVR.out (by unfold maxLen;omega) HGN.out aa (by simpa using K);have HRS7:=Aa hrs;have d2:w6.cell? ⟨base,2,none⟩=some (.slice af k cf):=by simp[World.cell?,ac]
      have y2:w6.frozen? ⟨base,2,none⟩=false:=by simp[World.frozen?,ac]
      have HB6:Hid (Below base x w6):=((HWr.out.mono hz6).trans ((BW wr _).mono hzr2)).grown aa (by simp;omega) (λb hb=>HLf.out b hb);obtain⟨a7,c7,hv7,-⟩:=(show B9 w6 base 65 1 v2 (k+1) (λi=>if i=k then .slice av (T k).nf cv else G (2+i)) from by
       unfold B9;rw[show (k+1)*1=k*1+1 by omega,AA,AH];have e:(List.range (k*1)).map (λi=>if i=k then Value.slice av (T k).nf cv else G (2+i))=(List.range (k*1)).map (λi=>G (2+i)):=CX λj hj=>by rw[Ae (by omega)]
       rw[e];simpa using K).slice
      subst hv7;clear hrs K aa HO HLf c2 z2 ac
      go_wp2_with fail
      go_roundw
      case rel=>exact⟨k+1,by omega,by go_num,(HF6.out.next HB6.out hbl).next ((Aq base _).setCell (Aj _) _) hbl,by simpa using Am hz6 HB6.out.size,_,_,HRS7.out⟩
      case measure=>simp[intOf];omega
  ·have hkn:k=n:=by omega
   rw[hkn]at hSr;have HSn:=Aa hSr;have HFn:=Aa hFr;clear hkn hSr hFr
   go_wp2_with fail
   go_loopw [70] (λi w3 => ∃q:Nat,q<=m/\i= .int .i64 q/\Hid (∀j,j<q->Sa n (Cj n T) (Co T) C j=0)/\FB2 w w3/\base<=w3.heap.size/\RS w3 base base n fv d (Cj n T) (II n (Cj n T) (Co T) C q)) (λi _=>m - (intOf i).toNat)
   case atStart=>exact⟨0,Ai _,rfl,(λj hj=>absurd hj (Ak _)),HFn.out,hzr,HSn.out⟩
   case round =>
    obtain⟨q,hq,rfl,hb,hF,hz,hS⟩:=hrel
    by_cases hql:q<m
    ·obtain⟨b,o,rfl,N,q1,q2,q3,-,-,hsm⟩:=(HC.out.kept hF.below).2 q hql
     have hql':(q:Int)<(m:Int):=by omega
     have hq0:(0:Int)<=(q:Int):=by omega
     generalize hW:wr.alloc (Obj.cells #[.int .i64 (C q).kind,.string (C q).type,.string (C q).field,.string (C q).to] 160)=W4;have hB:Below wr.heap.size wr W4:=by rw[<-hW];exact BW _ _
     have m0:W4.cell? ⟨wr.heap.size,0,none⟩=some (.int .i64 (C q).kind):=by rw[<-hW,Ac _ _ _ _ rfl];rfl
     have m1:W4.cell? ⟨wr.heap.size,1,none⟩=some (.string (C q).type):=by rw[<-hW,Ac _ _ _ _ rfl];rfl
     have m2:W4.cell? ⟨wr.heap.size,2,none⟩=some (.string (C q).field):=by rw[<-hW,Ac _ _ _ _ rfl];rfl
     have m3:W4.cell? ⟨wr.heap.size,3,none⟩=some (.string (C q).to):=by rw[<-hW,Ac _ _ _ _ rfl];rfl
     have hF4:=hF.next hB hF.lt
     have Q:=UB base base n fv d (Cj n T) (II n (Cj n T) (Co T) C q) (C q) W4 (hS.kept hB) rfl hsm (Am hz hB.size);unfold Hq at Q;have HF4:=Aa hF4;have hz4:base<=W4.heap.size:=Am hz hB.size;clear hF4 hF hS hB
     go_wp2_with fail
     clear hW;refine Q.mono ?_;clear Q;rintro e w5 ⟨rfl,hS5,hb5⟩;have W:=HF4.out.next hb5 hbl
     have hz5:base<=w5.heap.size:=Am hz4 hb5.size;have HS5:Hid (RS w5 base base n fv d (Cj n T) (II n (Cj n T) (Co T) C (q+1))):=hS5;obtain⟨p0,p1,p2,p3,p4,p5⟩:=W.cells;obtain⟨v0,v1,z0,z1⟩:=Dz W.hrf;have X:=Aa W;clear hS5 hb5 W HF4 hz4 m0 m1 m2 m3 N q1 q2 q3;have HEk:Hid ((GW n (Cj n T) (II n (Cj n T) (Co T) C q) (C q)).1=Sa n (Cj n T) (Co T) C q):=rfl;generalize (GW n (Cj n T) (II n (Cj n T) (Co T) C q) (C q)).1=ek at *
     by_cases h5:ek=0
     ·have h5b:(ek != 0)=false:=by simpa using h5
      have hb2:Hid (∀j,j<q+1->Sa n (Cj n T) (Co T) C j=0):=λj hj=>by
       rcases Nat.lt_succ_iff_lt_or_eq.1 hj with h|h
       ·exact hb j h
       ·rw[h,<-HEk.out];exact h5
      clear h5
      go_wp2_with fail
      go_roundw
      case rel=>exact⟨q+1,by omega,by go_num,hb2,X.out,hz5,HS5.out⟩
      case measure=>simp[intOf];omega
     ·have h5b:(ek != 0)=true:=by simpa using h5
      have H:Hid (JK n T m C=(ek,(q:Int))):=by
       unfold Hid;rw[HFE.out,Do (g:=Sa n (Cj n T) (Co T) C) hql (by rw[<-HEk.out];exact h5) hb.out,<-HEk.out]
      have H5:Hid (¬ek=0):=h5;clear h5
      go_wp2_with fail
      exact At (v:=FY (.slice none 0 0) (.slice none 0 0) (.slice none 0 0) (ek,(q:Int))) (by unfold FY;simp[results,Tryz.results39,go_sem,p0,p1,p2,v0,v1]) rfl ⟨⟨_,_,_,by rw[H.out],λh=>absurd (by rw[H.out]at h;exact h) H5.out,⟨_,_,_,rfl⟩,⟨_,_,_,rfl⟩,⟨_,_,_,rfl⟩⟩,X.out.set _ _ _ _ _⟩
    ·have hqm:q=m:=by omega
     have H:Hid (JK n T m C=(0,0)):=by unfold Hid;rw[HFE.out];exact Dm λj hj=>hb j (by omega)
     rw[hqm]at hS;obtain⟨p0,p1,p2,p3,p4,p5⟩:=hF.cells;obtain⟨v0,v1,z0,z1⟩:=Dz hF.hrf;obtain⟨a0,c0,e0,-⟩:=(hS.texts 0 (by omega)).slice;obtain⟨a1,c1,e1,-⟩:=(hS.texts 1 (by omega)).slice;obtain⟨af,cf,ef,-⟩:=hS.frow.slice;subst ef;have d0:wr.cell? ⟨base,0,none⟩=some (.slice a0 (Cj n T 0) c0):=by simp[World.cell?,hS.box,e0]
     have d1:wr.cell? ⟨base,1,none⟩=some (.slice a1 (Cj n T 1) c1):=by simp[World.cell?,hS.box,e1]
     have d2:wr.cell? ⟨base,2,none⟩=some (.slice af n cf):=by simp[World.cell?,hS.box]
     have HS5:=Aa hS;have X:=Aa hF;have HE0:=Aa e0;have HE1:=Aa e1;have ne1 : ¬base=w.heap.size:=by omega
     have ne2 : ¬w.heap.size=base:=by omega
     clear hqm hS hF e0 e1
     go_wp2_with fail
     exact At (v:=FY (.slice a0 (Cj n T 0) c0) (.slice a1 (Cj n T 1) c1) (.slice af n cf) (0,0)) (by unfold FY;simp[results,Tryz.results39,go_sem,p0,p1,p2,v0,v1]) rfl ⟨⟨_,_,_,by rw[H.out],λ_=>⟨base,base,d,HE0.out,HE1.out,((((HS5.out.low (p:=⟨w.heap.size,0,none⟩) (by show w.heap.size<base;omega) _).low (p:=⟨w.heap.size,1,none⟩) (by show w.heap.size<base;omega) _).low (p:=⟨w.heap.size,2,none⟩) (by show w.heap.size<base;omega) _).low (p:=⟨w.heap.size+1,0,none⟩) hbl _).low (p:=⟨w.heap.size+1,1,none⟩) hbl _⟩,⟨_,_,_,rfl⟩,⟨_,_,_,rfl⟩,⟨_,_,_,rfl⟩⟩,X.out.set _ _ _ _ _⟩
end Go.Proofs.YtjjggefmmeminabGreat
