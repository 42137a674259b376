import Derived.Test.YtjjggefmmeminabGreatJMg
import Derived.Lib.Overlaps
import Derived.Lib.AppendZerosOnto
import Derived.Laws.IdiomCopy
set_option maxRecDepth 100000
set_option maxHeartbeats 4000000
namespace Go.Proofs.YtjjggefmmeminabGreat
open Go.RowKit Go.Sort Go.Lib
theorem GK(w:World)(n p ty c:TypeId)(size b o d h:Nat)(a:Addr)(e k:Nat)(g:List Value)(q:Tryz.prog.underlying n=some (.slice c))(hs:(Tryz.prog.info? c).map (·.size)=some size)(hn:g.length=Nat.min e d*size)(l:∀j v,g[j]? = some v->w.cell? (a.add j)=some v)(hc:∀j,j<g.length->(w.cell? ⟨b,o+j,none⟩).isSome=true)(hf:∀j,j<g.length->w.frozen? ⟨b,o+j,none⟩=false)(h1:∀v∈g,v.oneCell'=true) :
  (Builtin.copy_ #[n,p] ty #[.slice (some ⟨b,o,none⟩) d h,.slice (some a) e k]).run Tryz.prog w= .ok (goInt (Nat.min e d)) (w.setCells b o g):=by
 have r:=run_loadCells_list (P:=Tryz.prog) w a g l;have m:=run_storeCells_cells (P:=Tryz.prog) b o g 0 w (by simpa using hc) (by simpa using hf) h1
 cases hq:Tryz.prog.info? c with
 |none=>simp[hq]at hs
 |some i =>
  have hi:i.size=size:=by simpa[hq] using hs
  simp[Builtin.copy_,run_underlying q,Builtin.lenOf,Builtin.firstCells,sizeOf,typeInfo,hq,hi,<-hn,r,m]
theorem Jz{b:Array Oper}{o:Oper}{a:Act}{w:World}{K:Act->World->Prop}{Q:Exit->Act->World->Prop}{E:Prop}(hg:o.guard=none)(d x:Operand)(e g:TypeId)(c:o.op=Op.call { callee:=Callee.builtin Builtin.copy,args:=#[d,x],argTypes:=#[e,g] })(v u:Value)(i:a.eval d=v)(hx:a.eval x=u){h:Value}{w':World}(j:(Builtin.copy_ #[e,g] o.type #[v,u]).run Tryz.prog w= .ok h w')(k:K (a.put o.dst h) w') :
  if Region.wanted o (yielded b a.tmps)=true then Oper.wp Tryz.prog o a w K Q else E:=by
 have l:Region.wanted o (yielded b a.tmps)=true:=by simp[Region.wanted,hg]
 rw[Af l];unfold Oper.wp;simp[execOp,c,resolve,invoke,builtin,i,hx,j,Result.andThen];exact k
theorem B9.stretch{w:World}{base e size n m g cap:Nat}{f : Nat->Value}(h:B9 w base e size (.slice (some ⟨g,0,none⟩) n cap) n f)(j:m<=cap):∃k,B9 w base e size (.slice (some ⟨g,0,none⟩) m cap) m k/\∀q,q<n*size->k q=f q:=by
 rcases h.2 with⟨c,_⟩|⟨v,o,cur,c,hb,hg,p,d,b,a⟩
 ·simp at c
 ·cases c
  refine⟨λq=>(cur.toList[q]?).getD undef,⟨by simp,.inr ⟨g,cap,cur,rfl,hb,hg,j,d,b,?_⟩⟩,λq hq=>?_⟩
  ·have r:m*size<=cur.toList.length:=by rw[Array.length_toList,b];exact Nat.mul_le_mul_right _ j
   apply BH;intro i;rw[BO,AV]
   by_cases hi:i<m*size
   ·have s:i<cur.toList.length:=by omega
    rw[Af hi,AQ hi];show cur.toList[i]? = some ((cur.toList[i]?).getD undef);rw[AU s];rfl
   ·have u:(List.range (m*size))[i]? = none:=Bg (by rw[Bu];omega)
    rw[Ae hi,u];rfl
  ·have h2:=congrArg (λl=>l[q]?) a
   simp only[BO,AV]at h2;rw[Af hq,AQ hq]at h2;show (cur.toList[q]?).getD undef=f q;rw[h2];rfl
theorem Gq(b:Nat):∀(a:List Value) (o:Nat) (w:World),w.drew.setCells b o a=(w.setCells b o a).drew
 | [],_,_=>rfl
 | v :: r,o,w=>by rw[World.setCells,World.setCells,<-Gq b r];rfl
theorem Jo{a b c:World}{r:Option Nat}(h:a.grownBy b r)(k:b.grownBy c r):a.grownBy c r :=
 ⟨k.os.trans h.os,k.tape.trans h.tape,k.output.trans h.output,Am h.size k.size,λq hq d=>(k.block q (Ah hq h.size) d).trans (h.block q hq d)⟩
theorem Ou{a b c:World}{r:Option Nat}{g:Nat}(h:a.grownBy b r)(k:b.grownBy c (some g))(hg:a.heap.size<=g):a.grownBy c r :=
 ⟨k.os.trans h.os,k.tape.trans h.tape,k.output.trans h.output,Am h.size k.size,λq hq d=>(k.block q (Ah hq h.size) (λe=>by cases e;omega)).trans (h.block q hq d)⟩
def C4 (f:Nat->Value) (i:Nat) (a:List Value) (q:Nat):Value:=if q<i*4 then f q else if q<i*4+4 then a.getD (q - i*4) undef else f (q - 4)
theorem B9.inserted{w:World}{base e n i g cap:Nat}{f f1:Nat->Value}{b a:List Value}(h:B9 w base e 4 (.slice (some ⟨g,0,none⟩) (n+1) cap) (n+1) f1)(hi:i<n)(hx:b.length=4)(hf:∀q,q<i*4->f1 q=f q)(hn:∀q,q<(n - i)*4->a[q]? = some (f (i*4+q))) :
  (B9 ((w.setCells g ((i+1)*4) a).setCells g (i*4) b) base e 4 (.slice (some ⟨g,0,none⟩) (n+1) cap) (n+1) (C4 f i b)/\w.grownBy ((w.setCells g ((i+1)*4) a).setCells g (i*4) b) (some g)) /\
  (B9 ((w.setCells g (i*4) b).setCells g ((i+1)*4) a) base e 4 (.slice (some ⟨g,0,none⟩) (n+1) cap) (n+1) (C4 f i b)/\w.grownBy ((w.setCells g (i*4) b).setCells g ((i+1)*4) a) (some g)):=by
 have c:∀q,i*4<=q->q<i*4+4->b[q - i*4]? = some (b.getD (q - i*4) undef):=λq h1 h2=>by rw[AU (by omega)];simp[List.getD,show q - i*4<b.length by omega]
 constructor
 ·obtain⟨fa,h1,j,p,k,l⟩:=B9.setCells a w f1 ((i+1)*4) h
  obtain⟨fb,h2,d,b2,m,o⟩:=B9.setCells b _ fa (i*4) h1;refine⟨h2.congr λq hq=>?_,Jo l o⟩;unfold C4
  by_cases c1:q<i*4
  ·rw[Af c1,d q c1,j q (by omega),hf q c1]
  ·rw[Ae c1]
   by_cases c2:q<i*4+4
   ·rw[Af c2]
    have:=m (q - i*4) _ (c q (by omega) c2);rwa[show i*4+(q - i*4)=q by omega]at this
   ·rw[Ae c2,b2 q (by omega)]
    have:=k (q - (i+1)*4) _ (hn _ (by omega));rw[show (i+1)*4+(q - (i+1)*4)=q by omega]at this;rw[this];congr 1;omega
 ·obtain⟨fa,h1,j,p,k,l⟩:=B9.setCells b w f1 (i*4) h
  obtain⟨fb,h2,d,b2,m,o⟩:=B9.setCells a _ fa ((i+1)*4) h1;refine⟨h2.congr λq hq=>?_,Jo l o⟩;unfold C4
  by_cases c1:q<i*4
  ·rw[Af c1,d q (by omega),j q c1,hf q c1]
  ·rw[Ae c1]
   by_cases c2:q<i*4+4
   ·rw[Af c2,d q (by omega)]
    have:=k (q - i*4) _ (c q (by omega) c2);rwa[show i*4+(q - i*4)=q by omega]at this
   ·rw[Ae c2]
    have:=m (q - (i+1)*4) _ (hn _ (by omega));rw[show (i+1)*4+(q - (i+1)*4)=q by omega]at this;rw[this];congr 1;omega
theorem Tryz.info99:(Tryz.prog.info? 99).map (λi=>(i.zero,i.size,i.bytes))=some (some (.agg #[.string ⟨#[]⟩,.slice none 0 0,.slice none 0 0,.slice none 0 0]),4,88):=by kernel_rfl
theorem OK(n o:Nat)(v:Value)(f:Nat->Value)(d:List Value)(hx:d.length=4)(w:World)(h:B9 w 0 99 4 v n f)(I:n<=1000)(l:w.heap[o]? = some (.cells d.toArray 99 (0,0)))(h1:∀u∈d,u.oneCell'=true) :
  Calls Tryz.prog 88 #[v,.int .i64 (n:Int),.slice (some ⟨o,0,none⟩) 1 1] w λe w' => ∃i,e= .returned i/\B9 w' 0 99 4 i (n+1) (C4 f n d)/\w.grownBy w' v.ownBlock/\(i.ownBlock=v.ownBlock\/∃b,i.ownBlock=some b/\w.heap.size<=b):=by
 obtain⟨i0,p,r,s,x⟩:=Cd Tryz.info99;obtain⟨a,cap,rfl,B⟩:=h.slice;have H:=Aa h;have C:Hid (∀y,some (⟨o,0,none⟩:Addr)=some y->∀j u,d[j]? = some u->w.cell? (y.add j)=some u):=λy z j u D=>by
  cases z;rw[AO];simp[World.cell?,l,D]
 have m:Hid ((List.range (n*4)).map f++d=(List.range ((n+1)*4)).map (C4 f n d)):=by
  apply BH;intro q;unfold C4
  by_cases c1:q<n*4
  ·rw[Bt (by simpa using c1)]
   simp[c1,show q<(n+1)*4 by omega]
  ·rw[BJ (by simp;omega)]
   simp only[A6,Bu]
   by_cases c2:q<(n+1)*4
   ·rw[AV,AQ c2,AU (by omega)]
    simp[c1,show q<n*4+4 by omega,List.getD,show q - n*4<d.length by omega]
   ·rw[Bg (by omega),Bg (by simp;omega)]
 clear h l;have A:∀c,(Value.slice a n c).ownBlock=(Value.slice a n cap).ownBlock:=λc=>by cases a<;>rfl
 have J : ¬((n:Int)<0):=by omega
 go_enter Tryz.func88,Tryz.ntmps88
 go_wp2_with (at_builtin;refine Ck _ rfl _ _ 37 rfl 0 99 i0 _ 4 88 Tryz.underlying37 p r s x rfl (by decide) _ n _ rfl H.out (some ⟨o,0,none⟩) 1 1 d rfl hx C.out (λh=>by cases h) h1 (by unfold maxLen;omega) (by omega) (Ai _) ?_)
 all_goals (
  intro i w' g hg k;rw[A]at hg k;have E:Hid (B9 w' 0 99 4 i (n+1) (C4 f n d)):=by
   unfold B9;rw[<-m.out];exact g
  have F:=Aa hg;have G:=Aa (k.imp id λe=>(⟨_,e,Aj _⟩:∃b,i.ownBlock=some b/\w.heap.size<=b));clear g hg k
  go_wp2_with fail
  go_ret;exact⟨_,rfl,E.out,F.out,G.out⟩)
theorem Mo(n i g cap r:Nat)(f:Nat->Value)(x:List Value)(hx:x.length=4)(w:World)(h:B9 w 0 99 4 (.slice (some ⟨g,0,none⟩) n cap) n f)(hf:∀q,q<n*4->(f q).oneCell'=true)(hi:i<n)(W:n+1<=cap)(U:cap<=9223372036854775807)(d:w.heap[r]? = some (.cells x.toArray 99 (0,0)))(H:r≠g)(h1:∀u∈x,u.oneCell'=true) :
  Calls Tryz.prog 88 #[.slice (some ⟨g,0,none⟩) n cap,.int .i64 (i:Int),.slice (some ⟨r,0,none⟩) 1 1] w λe w'=>e= .returned (.slice (some ⟨g,0,none⟩) (n+1) cap)/\B9 w' 0 99 4 (.slice (some ⟨g,0,none⟩) (n+1) cap) (n+1) (C4 f i x)/\w.grownBy w' (some g):=by
 obtain⟨i0,I,N,J,O⟩:=Cd Tryz.info99;have B:(Tryz.prog.info? 99).map (·.size)=some 4:=by rw[I];simp[J]
 have K:∀w,(Go.sizeOf 99).run Tryz.prog w= .ok 4 w:=λw=>by kernel_rfl
 obtain⟨f1,s,P⟩:=h.stretch (m:=n+1) W;obtain⟨cur,l⟩:=h.obj (k:=g) rfl;have L:cur.size≠0:=λe=>by
  have:=h.cell (j:=0) (by omega);simp[World.cell?,l,Array.eq_empty_of_size_eq_zero e]at this
 have Q:∀R cb,(callFunc 124 #[.slice (some ⟨r,0,none⟩) 1 1,.slice (some ⟨g,(i+1)*4,none⟩) R cb]).run Tryz.prog w= .ok (.value (.bool false)) w:=λR cb=>by
  rw[run_callFunc_extern Tryz.func124 (by kernel_rfl) (by kernel_rfl) (by kernel_rfl) (e:=Extern.SlicesOverlaps.overlaps #[37,37] #[4]) (by kernel_rfl),
   Lib.run_overlaps_apart w 37 4 99 Tryz.underlying37 4 K ⟨r,0,none⟩ ⟨g,(i+1)*4,none⟩ 1 1 R cb H 99 99 x.toArray.size cur.size (by simp[World.shape?,d]) (by simp[World.shape?,l]) L (by simp[World.frozen?,d]) (by simp[World.frozen?,d])]
  rfl
 obtain⟨a,b⟩:∃a,a=(List.range ((n - i)*4)).map (λq=>f (i*4+q)):=⟨_,rfl⟩;have c:a.length=(n - i)*4:=by rw[b];simp
 have o:∀q,q<(n - i)*4->a[q]? = some (f (i*4+q)):=λq hq=>by rw[b];simp[hq]
 have y:∀ty C sc,(Builtin.copy_ #[37,37] ty #[.slice (some ⟨g,(i+1)*4,none⟩) (n - i) C,.slice (some ⟨g,i*4,none⟩) (n+1 - i) sc]).run Tryz.prog w.drew= .ok (goInt (Nat.min (n+1 - i) (n - i))) (w.drew.setCells g ((i+1)*4) a):=λty C sc =>
  GK w.drew _ _ ty 99 4 g ((i+1)*4) _ C ⟨g,i*4,none⟩ _ sc a Tryz.underlying37 B (by rw[c];congr 1;simp only[Nat.min_def];split<;>omega)
   (λj u z=>by
    have S:j<(n - i)*4:=by have:=(List.getElem?_eq_some_iff.1 z).1;rwa[c]at this
    rw[o j S]at z;rw[AO];exact(h.cell (j:=i*4+j) (by omega)).trans z)
   (λj z=>by rw[c]at z;show (w.cell? _).isSome=true;rw[s.cell (j:=(i+1)*4+j) (by omega)];rfl) (λj _=>s.free _)
   (λu V=>by
    rw[b]at V;obtain⟨q,hq,rfl⟩:=List.mem_map.1 V;have:q<(n - i)*4:=by simpa using hq
    exact hf _ (by omega))
 have T:B9 w.drew 0 99 4 (.slice (some ⟨g,0,none⟩) (n+1) cap) (n+1) f1:=s.at λk _=>rfl;have p:=(B9.inserted T hi hx (λq hq=>P q (by omega)) o).1;obtain⟨F,D⟩:∃F,F=w.drew.setCells g ((i+1)*4) a:=⟨_,rfl⟩;rw[<-D]at y p;obtain⟨Y,v,-,-,-,E⟩:=B9.setCells a w.drew f1 ((i+1)*4) T;rw[<-D]at v E;have A:F.heap[r]? = some (.cells x.toArray 99 (0,0)):=(E.block r (Ag d) (λe=>H (by cases e;rfl))).trans d;have M:∀ty C,(Builtin.copy_ #[37,37] ty #[.slice (some ⟨g,i*4,none⟩) (n+1 - i) C,.slice (some ⟨r,0,none⟩) 1 1]).run Tryz.prog F= .ok (goInt (Nat.min 1 (n+1 - i))) (F.setCells g (i*4) x):=λty C =>
  GK F _ _ ty 99 4 g (i*4) _ C ⟨r,0,none⟩ _ 1 x Tryz.underlying37 B (by rw[hx,show Nat.min 1 (n+1 - i)=1 by simp only[Nat.min_def];split<;>omega])
   (λj u z=>by rw[AO];simp[World.cell?,A,z])
   (λj z=>by rw[v.cell (j:=i*4+j) (by omega)];rfl) (λj _=>v.free _) h1
 have G:=Aa p;clear h s T v E d A p D b c o l L N J O I B K;have Z:(0:Int)<=(i:Int):=by omega
 have a2:(i:Int)<=(n:Int):=by omega
 have a3:i<=n:=by omega
 have a4 : ¬((i:Int)=(n:Int)):=by omega
 have a5 : ¬((cap:Int)<(n:Int)+1):=by omega
 have a6:(0:Int)<=(n:Int)+1:=by omega
 have a7:(n:Int)+1<=(cap:Int):=by omega
 have a8:((n:Int)+1).toNat=n+1:=by omega
 have a9:((i:Int)+1).toNat=i+1:=by omega
 have X:IntKind.i64.wrap ((i:Int)+1)=(i:Int)+1:=by rw[IntKind.wrap_i64];omega
 have b1:(0:Int)<=(i:Int)+1:=by omega
 have b2:(i:Int)+1<=(n:Int)+1:=by omega
 have b3 : ¬cap=i+1:=by omega
 have b4 : ¬cap=i:=by omega
 have b5:(i:Int)<=(n:Int)+1:=by omega
 go_enter Tryz.func88,Tryz.ntmps88
 go_wp2_with (simp only[Q])
 go_region_law (refine Jz rfl (.tmp 73) (.tmp 76) 37 37 rfl (.slice (some ⟨g,(i+1)*4,none⟩) (n - i) (cap - (i+1))) (.slice (some ⟨g,i*4,none⟩) (n+1 - i) (cap - i)) (by simp[Act.eval,Act.put]) (by simp[Act.eval,Act.put]) (y _ _ _) ?_)
 go_wp2_with (at_builtin;refine wpList_copy_n _ rfl _ _ 37 37 rfl _ _ rfl rfl (M _ _) ?_)
 go_ret;exact⟨rfl,G.out.1,⟨G.out.2.os,G.out.2.tape,G.out.2.output,G.out.2.size,G.out.2.block⟩⟩
theorem NC(n i g cap vb:Nat)(f:Nat->Value)(E:List Value)(hx:E.length=4)(w:World)(h:B9 w 0 99 4 (.slice (some ⟨g,0,none⟩) n cap) n f)(hf:∀q,q<n*4->(f q).oneCell'=true)(hi:i<n)(hm:n<=1000)(hr:cap<n+1)(Q:w.heap[vb]? = some (.cells E.toArray 99 (0,0)))(h1:∀u∈E,u.oneCell'=true) :
  Calls Tryz.prog 88 #[.slice (some ⟨g,0,none⟩) n cap,.int .i64 (i:Int),.slice (some ⟨vb,0,none⟩) 1 1] w λe w' => ∃c',e= .returned (.slice (some ⟨w.heap.size,0,none⟩) (n+1) c')/\B9 w' 0 99 4 (.slice (some ⟨w.heap.size,0,none⟩) (n+1) c') (n+1) (C4 f i E)/\w.grownBy w' (some g):=by
 obtain⟨i0,R,hz0,S,T⟩:=Cd Tryz.info99;have U:(Tryz.prog.info? 99).map (·.size)=some 4:=by rw[R];simp[S]
 have hnc:n<=cap:=by
  obtain⟨_,_,e,hc⟩:=h.slice;cases e;exact hc
 have hcn:cap=n:=by omega
 subst hcn;have hgw:g<w.heap.size:=(h.lt (k:=g) rfl).2;have hvw:vb<w.heap.size:=Ag Q;obtain⟨d,m⟩:∃d,d=(List.range (i*4)).map f:=⟨_,rfl⟩;have y:d.length=i*4:=by rw[m];simp
 have I:(Builtin.firstCells i0.size i (.slice (some ⟨g,0,none⟩) i cap)).run Tryz.prog w.drew= .ok d.toArray w.drew:=by
  rw[S];exact run_firstCells_some w.drew 4 i ⟨g,0,none⟩ i cap d y (λj u x=>by
   have V:j<i*4:=by have:=(List.getElem?_eq_some_iff.1 x).1;rwa[y]at this
   rw[m,AV,AQ V]at x;rw[AO,AL];exact(h.cell (j:=j) (by omega)).trans x)
 obtain⟨G,hG⟩:∃G,G=grownCap w (cap+1) cap 99:=⟨_,rfl⟩;obtain⟨c,p⟩:∃c:Array Value,c=d.toArray++Builtin.zeroCells (Value.agg #[.string ⟨#[]⟩,.slice none 0 0,.slice none 0 0,.slice none 0 0]).cells (cap+1 - i)++Builtin.zeroCells (Value.agg #[.string ⟨#[]⟩,.slice none 0 0,.slice none 0 0,.slice none 0 0]).cells (G - (cap+1)):=⟨_,rfl⟩;have hrz:∀ty,(Builtin.append_ #[37,3] ty #[.slice (some ⟨g,0,none⟩) i cap,.int .i64 ((cap:Int)+1 - (i:Int))]).run Tryz.prog w= .ok (.slice (some ⟨w.heap.size,0,none⟩) (cap+1) G) (w.drew.alloc (.cells c 99)):=λty=>by
  have hik:i+(cap+1 - i)=cap+1:=by omega
  have h':=Lib.run_append_grow_zeros w 37 3 ty 99 i0 _ .i64 .i64 Tryz.underlying37 Tryz.underlying3 R hz0 (some ⟨g,0,none⟩) i cap d I (cap+1 - i) (by omega) (by omega) (by omega) (by omega) (by rw[T];omega) (by rw[T,hik];exact growslice_fits (by omega) (by omega));rw[hik,<-hG,<-p]at h';rw[show (cap:Int)+1 - (i:Int)=((cap+1 - i:Nat):Int) by omega];exact h'
 have hGn:cap+1<=G:=by rw[hG];exact grownCap_ge w _ _ _
 have hGm:G<=maxLen:=by rw[hG];exact grownCap_le_maxLen w _ _ _ (by unfold maxLen;omega)
 have X:c.size=G*4:=by
  rw[p];simp only[Array.size_append,List.size_toArray,y,Builtin.zeroCells,Array.size_map,Array.size_range,Value.cells];simp;omega
 have hRg:∀q,q<i*4->c.toList[q]? = some (f q):=λq hq=>by
  rw[p];simp only[Array.toList_append,AR];rw[Bt (by simpa[y] using hq),m];simp[hq]
 obtain⟨z,l⟩:∃z,z=w.drew.alloc (.cells c 99):=⟨_,rfl⟩;have hrow:∃f1,B9 z 0 99 4 (.slice (some ⟨w.heap.size,0,none⟩) (cap+1) G) (cap+1) f1/\∀q,q<i*4->f1 q=f q:=by
  refine⟨λq=>(c.toList[q]?).getD undef,⟨by simp,.inr ⟨w.heap.size,G,c,rfl,Ai _,by rw[l];exact Ap w.drew _,hGn,hGm,X,?_⟩⟩,λq hq=>by show (c.toList[q]?).getD undef=f q;rw[hRg q hq];rfl⟩;have hle:(cap+1)*4<=c.toList.length:=by rw[Array.length_toList,X];omega
  apply BH;intro q;rw[BO,AV]
  by_cases hq:q<(cap+1)*4
  ·have hl:q<c.toList.length:=by omega
   rw[Af hq,AQ hq];show c.toList[q]? = some ((c.toList[q]?).getD undef);rw[AU hl];rfl
  ·have hr':(List.range ((cap+1)*4))[q]? = none:=Bg (by rw[Bu];omega)
   rw[Ae hq,hr'];rfl
 obtain⟨f1,A,hq1⟩:=hrow;have B:w.grownBy z (some g):=⟨by rw[l];rfl,by rw[l];rfl,by rw[l];rfl,by rw[l];have h0:=(BW w.drew (Obj.cells c 99)).size;exact h0,λk hk _=>by rw[l];exact A5 w.drew _ _ hk⟩;obtain⟨b,o⟩:∃b,b=(List.range ((cap - i)*4)).map (λq=>f (i*4+q)):=⟨_,rfl⟩;have r:b.length=(cap - i)*4:=by rw[o];simp
 have C:∀q,q<(cap - i)*4->b[q]? = some (f (i*4+q)):=λq hq=>by rw[o];simp[hq]
 have J:∀(W:World),W.heap[g]? = w.heap[g]?->∀j u,b[j]? = some u->W.cell? ((⟨g,i*4,none⟩:Addr).add j)=some u:=λW hWg j u x=>by
  have V:j<(cap - i)*4:=by have:=(List.getElem?_eq_some_iff.1 x).1;rwa[r]at this
  rw[C j V]at x;rw[AO];exact((Aw (a:=⟨g,i*4+j,none⟩) hWg).trans (h.cell (j:=i*4+j) (by omega))).trans x
 have K:∀u∈b,u.oneCell'=true:=λu hu=>by
  rw[o]at hu;obtain⟨q,hq,rfl⟩:=List.mem_map.1 hu;have:q<(cap - i)*4:=by simpa using hq
  exact hf _ (by omega)
 have L:z.heap[vb]? = some (.cells E.toArray 99 (0,0)):=by rw[l];exact(A5 w.drew _ _ hvw).trans Q
 have hg1:z.heap[g]? = w.heap[g]?:=by rw[l];exact A5 w.drew _ _ hgw
 have M:∀ty Y,(Builtin.copy_ #[37,37] ty #[.slice (some ⟨w.heap.size,i*4,none⟩) (cap+1 - i) Y,.slice (some ⟨vb,0,none⟩) 1 1]).run Tryz.prog z= .ok (goInt (Nat.min 1 (cap+1 - i))) (z.setCells w.heap.size (i*4) E):=λty Y =>
  GK z _ _ ty 99 4 w.heap.size (i*4) _ Y ⟨vb,0,none⟩ _ 1 E Tryz.underlying37 U (by rw[hx,show Nat.min 1 (cap+1 - i)=1 by simp only[Nat.min_def];split<;>omega])
   (λj u x=>by rw[AO];simp[World.cell?,L,x])
   (λj x=>by rw[A.cell (j:=i*4+j) (by omega)];rfl) (λj _=>A.free _) h1
 obtain⟨f2,F,-,-,-,Z⟩:=B9.setCells E z f1 (i*4) A;have s:=(B9.inserted A hi hx hq1 C).2;obtain⟨v,hW2⟩:∃v,v=z.setCells w.heap.size (i*4) E:=⟨_,rfl⟩;rw[<-hW2]at M s F Z;have N:v.heap[g]? = w.heap[g]?:=(Z.block g (Ah hgw B.size) (λe=>by cases e;omega)).trans hg1;have O:∀ty Y sc,(Builtin.copy_ #[37,37] ty #[.slice (some ⟨w.heap.size,(i+1)*4,none⟩) (cap - i) Y,.slice (some ⟨g,i*4,none⟩) (cap - i) sc]).run Tryz.prog v.drew= .ok (goInt (Nat.min (cap - i) (cap - i))) (v.drew.setCells w.heap.size ((i+1)*4) b):=λty Y sc =>
  GK v.drew _ _ ty 99 4 w.heap.size ((i+1)*4) _ Y ⟨g,i*4,none⟩ _ sc b Tryz.underlying37 U (by rw[r];congr 1;simp only[Nat.min_def];split<;>omega)
   (J v.drew N) (λj x=>by rw[r]at x;show (v.cell? _).isSome=true;rw[F.cell (j:=(i+1)*4+j) (by omega)];rfl) (λj _=>F.free _) K
 obtain⟨W3,H⟩:∃W3,W3=v.drew.setCells w.heap.size ((i+1)*4) b:=⟨_,rfl⟩;have P:∀k:Nat,W3.heap[k]? = (v.setCells w.heap.size ((i+1)*4) b).heap[k]?:=λk=>by rw[H,show v.drew.setCells w.heap.size ((i+1)*4) b=(v.setCells w.heap.size ((i+1)*4) b).drew from (Gq _ _ _ _)];rfl
 rw[<-H]at O;rw[<-l]at hrz;have HI:Hid (B9 W3 0 99 4 (.slice (some ⟨w.heap.size,0,none⟩) (cap+1) G) (cap+1) (C4 f i E)/\w.grownBy W3 (some g)):=by
  refine⟨s.1.at λk _=>P k,?_⟩;have D:=Ou B s.2 (Aj _);rw[H,show v.drew.setCells w.heap.size ((i+1)*4) b=(v.setCells w.heap.size ((i+1)*4) b).drew from (Gq _ _ _ _)];exact⟨D.os,D.tape,D.output,D.size,D.block⟩
 clear h A F Z Q L s l hW2 H P o r C U hz0 S T R I y m p X hRg B hg1 N J K hG;have a1:(0:Int)<=(i:Int):=by omega
 have a2:(i:Int)<=(cap:Int):=by omega
 have a3:i<=cap:=by omega
 have a4 : ¬((i:Int)=(cap:Int)):=by omega
 have a5:(cap:Int)<(cap:Int)+1:=by omega
 have a9:((i:Int)+1).toNat=i+1:=by omega
 have hw1:IntKind.i64.wrap ((i:Int)+1)=(i:Int)+1:=by rw[IntKind.wrap_i64];omega
 have b1:(0:Int)<=(i:Int)+1:=by omega
 have b2:(i:Int)+1<=(cap:Int)+1:=by omega
 have b3 : ¬G=i+1:=by omega
 have b4 : ¬G=i:=by omega
 have b6 : ¬cap=i:=by omega
 have b5:(i:Int)<=(cap:Int)+1:=by omega
 have b7:G<=9223372036854775807:=hGm
 go_enter Tryz.func88,Tryz.ntmps88
 go_wp2_with (first
  | (at_builtin;refine Lib.wpList_append_run _ rfl _ _ _ _ rfl _ _ rfl rfl _ _ (hrz _) ?_)
  | (at_builtin;refine wpList_copy_n _ rfl _ _ 37 37 rfl _ _ rfl rfl (M _ _) ?_))
 go_region_law (refine Jz rfl (.tmp 50) (.tmp 53) 37 37 rfl (.slice (some ⟨w.heap.size,(i+1)*4,none⟩) (cap - i) (G - (i+1))) (.slice (some ⟨g,i*4,none⟩) (cap - i) (cap - i)) (by simp[Act.eval,Act.put]) (by simp[Act.eval,Act.put]) (O _ _ _) ?_)
 go_wp2
 go_ret;exact⟨G,rfl,HI.out.1,HI.out.2⟩
theorem O7(n i d:Nat)(v:Value)(f:Nat->Value)(a:List Value)(hx:a.length=4)(w:World)(h:B9 w 0 99 4 v n f)(hf:∀q,q<n*4->(f q).oneCell'=true)(hi:i<=n)(o:n<=1000)(c:w.heap[d]? = some (.cells a.toArray 99 (0,0)))(k:v.ownBlock≠some d)(h1:∀u∈a,u.oneCell'=true) :
  Calls Tryz.prog 88 #[v,.int .i64 (i:Int),.slice (some ⟨d,0,none⟩) 1 1] w λe w' => ∃j,e= .returned j/\B9 w' 0 99 4 j (n+1) (C4 f i a)/\w.grownBy w' v.ownBlock/\(j.ownBlock=v.ownBlock\/∃b,j.ownBlock=some b/\w.heap.size<=b):=by
 by_cases l:i=n
 ·rw[l];exact OK n d v f a hx w h o c h1
 ·rcases h.shape with⟨-,h0⟩|⟨g,cap,rfl,-,hc,m⟩
  ·omega
  ·by_cases p:n+1<=cap
   ·refine(Mo n i g cap d f a hx w h hf (by omega) p m c (λe=>k (by rw[e];rfl)) h1).mono λe w' hh=>?_
    exact⟨_,hh.1,hh.2.1,hh.2.2,.inl rfl⟩
   ·refine(NC n i g cap d f a hx w h hf (by omega) o (by omega) c h1).mono λe w' hh=>?_
    obtain⟨y,r,s,x⟩:=hh;exact⟨_,r,s,x,.inr ⟨_,rfl,Aj _⟩⟩
end Go.Proofs.YtjjggefmmeminabGreat
