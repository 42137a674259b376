import Derived.Test.YtjjggefmmeminabGreatJPl
import Derived.Deep.RegionLaw
import Derived.Lib.SliceRun
import Derived.Deep.RegionWith
set_option maxRecDepth 100000
set_option maxHeartbeats 2000000
namespace Go.Proofs.YtjjggefmmeminabGreat
open Go.RowKit Go.Sort
theorem B9.setCells{base e size n g cap:Nat}:∀(i:List Value) (w:World) (f:Nat->Value) (o:Nat),B9 w base e size (.slice (some ⟨g,0,none⟩) n cap) n f ->
  ∃a,B9 (w.setCells g o i) base e size (.slice (some ⟨g,0,none⟩) n cap) n a/\(∀q,q<o->a q=f q)/\(∀q,o+i.length<=q->a q=f q)/\(∀j u,i[j]? = some u->a (o+j)=u)/\w.grownBy (w.setCells g o i) (some g)
 | [],w,f,o,h=>⟨f,h,λ_ _=>rfl,λ_ _=>rfl,λj u b=>by simp at b,⟨rfl,rfl,rfl,Aj _,λ_ _ _=>rfl⟩⟩
 | v :: r,w,f,o,h=>by
  obtain⟨a,h1,h2,h3,h4,c⟩:=B9.setCells r _ _ (o+1) (h.set o v);have hg:=(World.ownsRow.stored h o v).2;refine⟨a,h1,λq hq=>?_,λq hq=>?_,λj u b=>?_,⟨c.os.trans hg.os,c.tape.trans hg.tape,c.output.trans hg.output,Am hg.size c.size,λk hk d=>(c.block k (Ah hk hg.size) d).trans (hg.block k hk d)⟩⟩
  ·rw[h2 q (by omega),Ae (by omega)]
  ·simp at hq
   rw[h3 q (by omega),Ae (by omega)]
  ·cases j with
   |zero =>
    simp at b;subst b;rw[Nat.add_zero,h2 o (by omega),Af rfl]
   |succ j =>
    have:=h4 j u (by simpa using b);rw[show o+(j+1)=o+1+j by omega];exact this
theorem B9.cut{w:World}{base e size n m g cap:Nat}{f : Nat->Value}(h:B9 w base e size (.slice (some ⟨g,0,none⟩) n cap) n f)(l:m<=n):B9 w base e size (.slice (some ⟨g,0,none⟩) m cap) m f:=by
 refine⟨by simp,?_⟩;rcases h.2 with⟨b,_⟩|⟨q,o,cur,b,hb,hg,c,d,j,a⟩
 ·simp at b
 ·cases b
  refine .inr ⟨g,cap,cur,rfl,hb,hg,Am l c,d,j,?_⟩;have k:m*size<=n*size:=Nat.mul_le_mul_right _ l;have e:cur.toList.take (m*size)=(cur.toList.take (n*size)).take (m*size):=by rw[List.take_take,Nat.min_eq_left k]
  rw[e,a];apply BH;intro i;rw[BO]
  by_cases hi:i<m*size
  ·rw[Af hi,AV,AV,AQ (by omega),AQ (by omega)]
  ·have p:(List.range (m*size))[i]? = none:=Bg (by rw[Bu];omega)
   rw[Ae hi,AV,p];rfl
theorem QU{i size q:Nat}(hs:0<size):(if q<i*size then q else q+size) / size=skip i (q / size)/\(if q<i*size then q else q+size) % size=q % size:=by
 unfold skip
 by_cases h:q<i*size
 ·rw[Af h,Af ((Nat.div_lt_iff_lt_mul hs).2 h)];exact⟨rfl,rfl⟩
 ·rw[Ae h,Ae (λa=>h ((Nat.div_lt_iff_lt_mul hs).1 a))]
  exact⟨Nat.add_div_right _ hs,Nat.add_mod_right _ _⟩
theorem B9.deleted{w:World}{base e size n g cap i:Nat}{f : Nat->Value}{a zs:List Value}(h:B9 w base e size (.slice (some ⟨g,0,none⟩) n cap) n f)(hi:i<n)(hn:∀q,q<(n - (i+1))*size->a[q]? = some (f ((i+1)*size+q))) :
  B9 ((w.setCells g (i*size) a).setCells g ((n - 1)*size) zs) base e size (.slice (some ⟨g,0,none⟩) (n - 1) cap) (n - 1) (λq=>f (if q<i*size then q else q+size))/\w.grownBy ((w.setCells g (i*size) a).setCells g ((n - 1)*size) zs) (some g):=by
 obtain⟨f1,h1,m,r,o,c⟩:=B9.setCells a w f (i*size) h;obtain⟨s,h2,p,b2,u,d⟩:=B9.setCells zs _ f1 ((n - 1)*size) h1;refine⟨(h2.cut (by omega)).congr λq hq=>?_,⟨d.os.trans c.os,d.tape.trans c.tape,d.output.trans c.output,Am c.size d.size,λk hk j=>(d.block k (Ah hk c.size) j).trans (c.block k hk j)⟩⟩;rw[p q hq]
 by_cases b:q<i*size
 ·rw[Af b,m q b]
 ·rw[Ae b]
  have l:q - i*size<(n - (i+1))*size:=by
   have:(n - 1)*size=i*size+(n - (i+1))*size:=by rw[<-Nat.add_mul];congr 1;omega
   omega
  have:=o (q - i*size) _ (hn _ l);rw[show i*size+(q - i*size)=q by omega]at this;rw[this];congr 1;rw[Nat.add_mul];omega
theorem Tryz.info113:(Tryz.prog.info? 113).map (λi=>(i.zero,i.size,i.bytes))=some (some (.agg #[.string ⟨#[]⟩,.int .i64 0,.string ⟨#[]⟩]),3,40):=by kernel_rfl
theorem Tryz.zero113:∀w,(zeroValue 113).run Tryz.prog w= .ok (.agg #[.string ⟨#[]⟩,.int .i64 0,.string ⟨#[]⟩]) w:=λw=>by kernel_rfl
theorem Tryz.zero9:∀w,(zeroValue 9).run Tryz.prog w= .ok (.string ⟨#[]⟩) w:=λw=>by kernel_rfl
theorem H7(w:World)(t e ty:TypeId)(z:Value)(zs:List Value)(d:Tryz.prog.underlying t=some (.slice e))(hv:∀w,(zeroValue e).run Tryz.prog w= .ok z w)(g:(Builtin.zeroCells z.cells 1).toList=zs)(h1:∀u∈zs,u.oneCell'=true)(b o c:Nat)(hc:∀j,j<zs.length->(w.cell? ⟨b,o+j,none⟩).isSome=true)(hf:∀j,j<zs.length->w.frozen? ⟨b,o+j,none⟩=false) :
  (Builtin.clear_ #[t] ty #[.slice (some ⟨b,o,none⟩) 1 c]).run Tryz.prog w= .ok (.tuple #[]) (w.setCells b o zs):=by
 have a:=run_storeCells_cells (P:=Tryz.prog) b o zs 0 w (by simpa using hc) (by simpa using hf) h1;simp only[Nat.add_zero]at a;simp[Builtin.clear_,run_underlying d,hv,g,a]
theorem Li(base n i g cap:Nat)(f:Nat->Value)(w:World)(h:B9 w base 113 3 (.slice (some ⟨g,0,none⟩) n cap) n f)(hf:∀q,q<n*3->(f q).oneCell'=true)(hi:i<n)(E:n<=maxLen) :
  Calls Tryz.prog 142 #[.slice (some ⟨g,0,none⟩) n cap,.int .i64 (i:Int),.int .i64 ((i:Int)+1)] w λe w'=>e= .returned (.slice (some ⟨g,0,none⟩) (n - 1) cap)/\B9 w' base 113 3 (.slice (some ⟨g,0,none⟩) (n - 1) cap) (n - 1) (λq=>f (if q<i*3 then q else q+3))/\w.grownBy w' (some g):=by
 obtain⟨i0,v,F,x,G⟩:=Cd Tryz.info113;have C:n<=cap:=by
  rcases h.shape with⟨y,_⟩|⟨R,S,y,_,hc,_⟩
  ·cases y
  ·cases y;exact hc
 have H:n<=9223372036854775807:=E;obtain⟨a,b⟩:∃a,a=(List.range ((n - (i+1))*3)).map (λq=>f ((i+1)*3+q)):=⟨_,rfl⟩;have c:a.length=(n - (i+1))*3:=by rw[b];simp
 have l:∀q,q<(n - (i+1))*3->a[q]? = some (f ((i+1)*3+q)):=λq hq=>by rw[b];simp[hq]
 obtain⟨A,T,p⟩:∃A:Addr,(if cap=i+1 then some (⟨g,0,none⟩:Addr) else some ⟨g,(i+1)*3,none⟩)=some A/\Hid (∀t u,a[t]? = some u->w.drew.cell? (A.add t)=some u):=by
  by_cases hc:cap=i+1
  ·refine⟨⟨g,0,none⟩,by simp[hc],λt u d=>?_⟩
   have h0:a.length=0:=by rw[c];omega
   rw[List.length_eq_zero_iff.1 h0]at d;simp at d
  ·refine⟨⟨g,(i+1)*3,none⟩,by simp[hc],λt u d=>?_⟩
   have z:t<(n - (i+1))*3:=by
    have:=(List.getElem?_eq_some_iff.1 d).1;rwa[c]at this
   rw[l t z]at d;rw[AO];exact(h.cell (j:=(i+1)*3+t) (by omega)).trans d
 have s1:Hid (a.length=(n - (i+1))*3):=c;have I:Hid (∀u∈a,u.oneCell'=true):=by
  intro u d;rw[b]at d;obtain⟨q,hq,rfl⟩:=List.mem_map.1 d;have:q<(n - (i+1))*3:=by simpa using hq
  exact hf _ (by omega)
 have J:Hid (∀t,t<a.length->(w.drew.cell? ⟨g,0+i*3+t,none⟩).isSome=true/\w.drew.frozen? ⟨g,0+i*3+t,none⟩=false):=by
  intro t z;rw[c]at z;rw[AL];exact⟨by show (w.cell? _).isSome=true;rw[h.cell (j:=i*3+t) (by omega)];rfl,h.free _⟩
 have B:B9 w.drew base 113 3 (.slice (some ⟨g,0,none⟩) n cap) n f:=h.at λk _=>rfl;obtain⟨o,m⟩:∃o,o=w.drew.setCells g (0+i*3) a:=⟨_,rfl⟩;have K:Hid (o=w.drew.setCells g (0+i*3) a):=m;obtain⟨f1,s,-⟩:=B9.setCells a w.drew f (0+i*3) B;rw[<-m]at s;have L:∀ty,(Builtin.clear_ #[94] ty #[.slice (some ⟨g,(i+(n - (i+1)))*3,none⟩) (n - (i+(n - (i+1)))) (cap - (i+(n - (i+1))))]).run Tryz.prog o= .ok (.tuple #[]) (o.setCells g ((n - 1)*3) [.string ⟨#[]⟩,.int .i64 0,.string ⟨#[]⟩]):=by
  intro ty;rw[show i+(n - (i+1))=n - 1 by omega,show n - (n - 1)=1 by omega];exact H7 o _ _ ty _ _ Tryz.underlying94 Tryz.zero113 (by kernel_rfl) (by intro u d;simp at d;rcases d with rfl|rfl|rfl<;>rfl) g _ _ (λj D=>by have M:j<3:=D;rw[s.cell (j:=(n - 1)*3+j) (by omega)];rfl) (λj D=>s.free _)
 have r:Hid (B9 (o.setCells g ((n - 1)*3) [.string ⟨#[]⟩,.int .i64 0,.string ⟨#[]⟩]) base 113 3 (.slice (some ⟨g,0,none⟩) (n - 1) cap) (n - 1) (λq=>f (if q<i*3 then q else q+3))/\w.grownBy (o.setCells g ((n - 1)*3) [.string ⟨#[]⟩,.int .i64 0,.string ⟨#[]⟩]) (some g)):=by
  have hh:=B9.deleted (zs:=[.string ⟨#[]⟩,.int .i64 0,.string ⟨#[]⟩]) B hi l;rw[m,AL];exact⟨hh.1,⟨hh.2.os,hh.2.tape,hh.2.output,hh.2.size,hh.2.block⟩⟩
 clear h B s m l b c;have N:(0:Int)<=(i:Int)+1:=by omega
 have O:(i:Int)+1<=(n:Int):=by omega
 have U : ¬cap=i+(n - (i+1)):=by omega
 have P:i<=cap:=by omega
 have Q:i+1<=cap:=by omega
 go_enter Tryz.func142,Tryz.ntmps142
 go_wp2_with fail
 go_region_law (refine step_append_room rfl (.tmp 22) (.tmp 25) 94 rfl 113 i0 3 Tryz.underlying94 v x g 0 i cap (by simp[Act.eval,Act.put]) A (n - (i+1)) (cap - (i+1)) a (by simp[Act.eval,Act.put]) s1.out p.out I.out (by omega) J.out ?_;rw[<-K.out])
 go_wp2
 go_ret;exact⟨by rw[show n - 1=i+(n - (i+1)) by omega];rfl,r.out⟩
theorem Mx(base n i g cap:Nat)(f:Nat->Value)(w:World)(h:B9 w base 9 1 (.slice (some ⟨g,0,none⟩) n cap) n f)(hf:∀q,q<n*1->(f q).oneCell'=true)(hi:i<n)(E:n<=maxLen) :
  Calls Tryz.prog 143 #[.slice (some ⟨g,0,none⟩) n cap,.int .i64 (i:Int),.int .i64 ((i:Int)+1)] w λe w'=>e= .returned (.slice (some ⟨g,0,none⟩) (n - 1) cap)/\B9 w' base 9 1 (.slice (some ⟨g,0,none⟩) (n - 1) cap) (n - 1) (λq=>f (if q<i*1 then q else q+1))/\w.grownBy w' (some g):=by
 obtain⟨i0,v,F,x,G⟩:=Cd Tryz.info9;have C:n<=cap:=by
  rcases h.shape with⟨y,_⟩|⟨R,S,y,_,hc,_⟩
  ·cases y
  ·cases y;exact hc
 have H:n<=9223372036854775807:=E;obtain⟨a,b⟩:∃a,a=(List.range ((n - (i+1))*1)).map (λq=>f ((i+1)*1+q)):=⟨_,rfl⟩;have c:a.length=(n - (i+1))*1:=by rw[b];simp
 have l:∀q,q<(n - (i+1))*1->a[q]? = some (f ((i+1)*1+q)):=λq hq=>by rw[b,AV,AQ hq];rfl
 obtain⟨A,T,p⟩:∃A:Addr,(if cap=i+1 then some (⟨g,0,none⟩:Addr) else some ⟨g,i+1,none⟩)=some A/\Hid (∀t u,a[t]? = some u->w.drew.cell? (A.add t)=some u):=by
  by_cases hc:cap=i+1
  ·refine⟨⟨g,0,none⟩,by simp[hc],λt u d=>?_⟩
   have h0:a.length=0:=by rw[c];omega
   rw[List.length_eq_zero_iff.1 h0]at d;simp at d
  ·refine⟨⟨g,i+1,none⟩,by simp[hc],λt u d=>?_⟩
   have z:t<(n - (i+1))*1:=by
    have:=(List.getElem?_eq_some_iff.1 d).1;rwa[c]at this
   rw[l t z]at d;rw[AO];rw[<-Bk (i+1)];exact(h.cell (j:=(i+1)*1+t) (by omega)).trans d
 have s1:Hid (a.length=(n - (i+1))*1):=c;have I:Hid (∀u∈a,u.oneCell'=true):=by
  intro u d;rw[b]at d;obtain⟨q,hq,rfl⟩:=List.mem_map.1 d;have:q<(n - (i+1))*1:=by simpa using hq
  exact hf _ (by omega)
 have J:Hid (∀t,t<a.length->(w.drew.cell? ⟨g,0+i*1+t,none⟩).isSome=true/\w.drew.frozen? ⟨g,0+i*1+t,none⟩=false):=by
  intro t z;rw[c]at z;rw[AL];exact⟨by show (w.cell? _).isSome=true;rw[h.cell (j:=i*1+t) (by omega)];rfl,h.free _⟩
 have B:B9 w.drew base 9 1 (.slice (some ⟨g,0,none⟩) n cap) n f:=h.at λk _=>rfl;obtain⟨o,m⟩:∃o,o=w.drew.setCells g (0+i*1) a:=⟨_,rfl⟩;have K:Hid (o=w.drew.setCells g (0+i*1) a):=m;obtain⟨f1,s,-⟩:=B9.setCells a w.drew f (0+i*1) B;rw[<-m]at s;have L:∀ty,(Builtin.clear_ #[65] ty #[.slice (some ⟨g,i+(n - (i+1)),none⟩) (n - (i+(n - (i+1)))) (cap - (i+(n - (i+1))))]).run Tryz.prog o= .ok (.tuple #[]) (o.setCells g ((n - 1)*1) [.string ⟨#[]⟩]):=by
  intro ty;rw[show i+(n - (i+1))=(n - 1)*1 by omega,show n - (n - 1)*1=1 by omega];exact H7 o _ _ ty _ _ Tryz.underlying65 Tryz.zero9 (by kernel_rfl) (by intro u d;simp at d;subst d;rfl) g _ _ (λj D=>by have M:j<1:=D;rw[s.cell (j:=(n - 1)*1+j) (by omega)];rfl) (λj D=>s.free _)
 have r:Hid (B9 (o.setCells g ((n - 1)*1) [.string ⟨#[]⟩]) base 9 1 (.slice (some ⟨g,0,none⟩) (n - 1) cap) (n - 1) (λq=>f (if q<i*1 then q else q+1))/\w.grownBy (o.setCells g ((n - 1)*1) [.string ⟨#[]⟩]) (some g)):=by
  have hh:=B9.deleted (zs:=[.string ⟨#[]⟩]) B hi l;rw[m,AL];exact⟨hh.1,⟨hh.2.os,hh.2.tape,hh.2.output,hh.2.size,hh.2.block⟩⟩
 clear h B s m l b c;have N:(0:Int)<=(i:Int)+1:=by omega
 have O:(i:Int)+1<=(n:Int):=by omega
 have U : ¬cap=i+(n - (i+1)):=by omega
 have P:i<=cap:=by omega
 have Q:i+1<=cap:=by omega
 go_enter Tryz.func143,Tryz.ntmps143
 go_wp2_with fail
 go_region_law (refine step_append_room rfl (.tmp 22) (.tmp 25) 65 rfl 9 i0 1 Tryz.underlying65 v x g 0 i cap (by simp[Act.eval,Act.put]) A (n - (i+1)) (cap - (i+1)) a (by simp[Act.eval,Act.put]) s1.out p.out I.out (by omega) J.out ?_;rw[<-K.out])
 go_wp2
 go_ret;exact⟨by rw[show n - 1=i+(n - (i+1)) by omega];rfl,by simpa only[Bk] using r.out⟩
theorem GU{P:Program}{p:Array Oper}{o:Oper}{a:Act}{w:World}{K:Act->World->Prop}{Q:Exit->Act->World->Prop}{E:Prop}(hgd:o.guard=none)(s x:Operand)(t:TypeId)(ho:o.op=Op.call { callee:=Callee.builtin Builtin.append,args:=#[s,x],argTypes:=#[t,t] })(base:Nat)(e:TypeId)(i:TypeInfo)(z:Value)(size bytes:Nat)(H:P.underlying t=some (.slice e))(hi:P.info? e=some i)(I:i.zero=some z)(h:i.size=size)(A:i.bytes=bytes)(B:z.cells.size=size)(C:0<size)(v:Value)(n:Nat)(D:List Value)(hs:a.eval s=v)(q:w.ownsRow base e size v n D)(d:Option Addr)(m c:Nat)(b:List Value)(hx:a.eval x= .slice d m c)(J:b.length=m*size)(k:∀G,d=some G->∀j u,b[j]? = some u->w.cell? (G.add j)=some u)(r:d=none->m=0)(h1:∀u∈b,u.oneCell'=true)(F:n+m<=maxLen)(g:(n+m)*bytes<=140737488355328)(l:base<=w.heap.size)(L:∀y w',w'.ownsRow base e size y (n+m) (D++b)->w.grownBy w' v.ownBlock->K (a.put o.dst y) w') :
  if Region.wanted o (yielded p a.tmps)=true then Oper.wp P o a w K Q else E:=by
 have M:Region.wanted o (yielded p a.tmps)=true:=by simp[Region.wanted,hgd]
 rw[Af M];obtain⟨y,w',N,h2,h3,O⟩:=DG (P:=P) w base t o.type e i z size bytes H hi I h A B C v n D q d m c b J k r h1 F g l;unfold Oper.wp;simp[execOp,ho,resolve,invoke,builtin,hs,hx,N,Result.andThen];exact L y w' h2 h3
theorem Cl.news{w:World}{a:Option Addr}{n:Nat}{F:Nat->LField}(h:Cl w a n F):∀g,a=some g->∀j u,((List.range (n*3)).map (B2 F))[j]? = some u->w.cell? (g.add j)=some u:=by
 intro g ha j u c
 by_cases i:j<n*3
 ·rw[AV,AQ i]at c
  injection c with c
  subst c;obtain⟨b,o,d,h0,h1,h2,-⟩:=h.2 (j / 3) (by omega);rw[ha]at d;cases d;rw[AO];unfold B2;have e:j % 3=0\/j % 3=1\/j % 3=2:=by omega
  rcases e with e|e|e
  ·rw[Af e,show o+j=o+j / 3*3 by omega];exact h0
  ·rw[Ae (by omega),Af e,show o+j=o+j / 3*3+1 by omega];exact h1
  ·rw[Ae (by omega),Ae (by omega),show o+j=o+j / 3*3+2 by omega];exact h2
 ·rw[Bg (by simp;omega)]at c
  cases c
theorem Cl.nil{w:World}{n:Nat}{F:Nat->LField}(h:Cl w none n F):n=0:=by
 rcases Nat.eq_zero_or_pos n with h0|h0
 ·exact h0
 ·obtain⟨b,o,e,_⟩:=h.2 0 h0
  cases e
theorem KS(F:Nat->LField)(n:Nat):∀u∈(List.range n).map (B2 F),u.oneCell'=true:=by
 intro u a;obtain⟨j,-,rfl⟩:=List.mem_map.1 a;unfold B2;split
 ·rfl
 ·split<;>rfl
theorem TM{w w':World}{base e size n k t:Nat}{v:Value}{f : Nat->Value}{c:Array Value}(h:B9 w' base e size v n f)(hb:w'.heap[k]? = w.heap[k]?)(hk:w.heap[k]? = some (.cells c t (0,0)))(he:e≠t:=by decide):v.ownBlock≠some k:=λa=>h.box_ne a (hb.trans hk) he rfl
theorem MQ(name:ByteArray)(fa:Option Addr)(nf b:Nat)(F:Nat->LField)(w:World)(hF:Cl w fa nf F)(K:nf<=1000) :
  Calls Tryz.prog 117 #[.agg #[.string name,.slice fa nf b]] w λe w'=>(∃a cap,e= .returned (.agg #[.string name,.slice a nf cap])/\nf<=cap/\B9 w' w.heap.size 113 3 (.slice a nf cap) nf (B2 F))/\Below w.heap.size w w':=by
 obtain⟨i0,hi,y,z,A⟩:=Cd Tryz.info113;have B:Hid (Cl w fa nf F):=hF;clear hF
 go_enter Tryz.func117,Tryz.ntmps117
 go_wp2_with fail
 generalize i:(w.alloc (Obj.cells #[.string name,.slice fa nf b] 96)).alloc (Obj.cells #[.string ⟨#[]⟩,.slice none 0 0] 96)=W;have hB:Below w.heap.size w W:=by rw[<-i];exact CN _ _ _
 have c0:W.cell? ⟨w.heap.size,0,none⟩=some (.string name):=by rw[<-i,Az _ _ _ (by simp),Ac _ _ _ _ rfl];rfl
 have c1:W.cell? ⟨w.heap.size,1,none⟩=some (.slice fa nf b):=by rw[<-i,Az _ _ _ (by simp),Ac _ _ _ _ rfl];rfl
 have d0:W.cell? ⟨w.heap.size+1,0,none⟩=some (.string ⟨#[]⟩):=by rw[<-i,Ac _ _ _ _ (by simp)];rfl
 have L:W.cell? ⟨w.heap.size+1,1,none⟩=some (.slice none 0 0):=by rw[<-i,Ac _ _ _ _ (by simp)];rfl
 have M:W.frozen? ⟨w.heap.size+1,0,none⟩=false:=by rw[<-i];exact AZ _ _ _ _ (by simp)
 have N:W.frozen? ⟨w.heap.size+1,1,none⟩=false:=by rw[<-i];exact AZ _ _ _ _ (by simp)
 have C:w.heap.size+1<W.heap.size:=by rw[<-i];simp
 have D:Hid (W.heap[w.heap.size+1]? = some (.cells #[.string ⟨#[]⟩,.slice none 0 0] 96 (0,0))):=by rw[<-i];exact(show w.heap.size+1=(w.alloc (Obj.cells #[.string name,.slice fa nf b] 96)).heap.size by simp) ▸ Ap _ _
 have O:Hid (∀J,fa=some J->∀j u,((List.range (nf*3)).map (B2 F))[j]? = some u->W.drew.cell? (J.add j)=some u):=(B.out.kept hB).news;have n:Hid (fa=none->nf=0):=λh=>by have h2:=B.out;rw[h]at h2;exact h2.nil
 have P:Hid (∀u∈(List.range (nf*3)).map (B2 F),u.oneCell'=true):=KS F _;have Q:Hid (Below w.heap.size w W.drew):=hB.drew;have o:Hid (∀(d:World) (v:Value),d.ownsRow w.heap.size 113 3 v (0+nf) ([]++(List.range (nf*3)).map (B2 F))->W.drew.grownBy d none->(∃a cap,v= .slice a nf cap/\nf<=cap/\B9 d w.heap.size 113 3 (.slice a nf cap) nf (B2 F))/\Below w.heap.size w d/\Below W.heap.size W d):=by
  intro d v h1 h2;rw[AL,List.nil_append]at h1;have m:B9 d w.heap.size 113 3 v nf (B2 F):=h1;refine⟨?_,hB.drew.grown h2 hB.size (λk hk=>by cases hk),⟨h2.os,h2.tape,h2.output,h2.size,λk hk=>h2.block k hk (by simp)⟩⟩;rcases m.shape with⟨rfl,rfl⟩|⟨g,cap,rfl,-,hc,-⟩
  ·exact⟨_,_,rfl,Aj _,m⟩
  ·exact⟨_,_,rfl,hc,m⟩
 clear i B hB
 go_region_law (refine GU rfl (.const (.slice none 0 0)) (.tmp 6) 94 rfl w.heap.size 113 i0 _ 3 40 Tryz.underlying94 hi y z A rfl (by decide) _ 0 [] rfl (A4 _ _ _ _) fa nf b _ (by simp[Act.eval]) (by simp) O.out n.out P.out (by unfold maxLen;omega) (by omega) Q.out.size ?_;intro v d l q;obtain⟨⟨s,x,rfl,E,m⟩,hb,c⟩:=o.out d v l q;have R:=BR c c0;have G:=BR c d0;have H:=BR c L;have S:=(c.frozen (p:=⟨w.heap.size+1,0,none⟩) C).trans M;have T:=(c.frozen (p:=⟨w.heap.size+1,1,none⟩) C).trans N;have U:Hid (B9 d w.heap.size 113 3 (.slice s nf x) nf (B2 F)):=m;have I:Hid (Below w.heap.size w d):=hb;have r:Hid ((Value.slice s nf x).ownBlock≠some (w.heap.size+1)):=TM m (c.block _ C) D.out;clear l q m hb c)
 all_goals (
  go_wp2_with fail
  exact At (v:=.agg #[.string name,.slice s nf x]) (by simp[results,Tryz.results117,go_sem,G,H]) rfl ⟨⟨s,x,rfl,E,(U.out.set_other (p:=⟨w.heap.size+1,0,none⟩) r.out _).set_other (p:=⟨w.heap.size+1,1,none⟩) r.out _⟩,(I.out.setCell (by simp) _).setCell (by simp) _⟩)
theorem ES(O:Nat->ByteArray)(k:Nat):(List.range ((k+1)*1)).map (B3 O)=(List.range (k*1)).map (B3 O)++[.string (O k)]:=by
 rw[Bk,Bk,AA,AH];rfl
theorem Rb(fa:Option Addr)(nf q:Nat)(F:Nat->LField)(w:World)(hF:Cl w fa nf F)(N:nf<=1000) :
  Calls Tryz.prog 118 #[.slice fa nf q] w λe w'=>(∃a cap,e= .returned (.slice a nf cap)/\nf<=cap/\B9 w' w.heap.size 9 1 (.slice a nf cap) nf (B3 (λj=>(F j).name)))/\Below w.heap.size w w':=by
 obtain⟨i0,hi,y,z,A⟩:=Cd Tryz.info9;have O:Hid (Cl w fa nf F):=hF;have hn:nf<=9223372036854775807:=hF.1;clear hF
 go_enter Tryz.func118,Tryz.ntmps118
 go_wp2_with fail
 go_loopw [3,8] (λv i wr => ∃k:Nat,k<=nf/\i= .int .i64 k/\B9 wr w.heap.size 9 1 v k (B3 (λj=>(F j).name))/\Below w.heap.size w wr) (λ_ i _=>nf - (intOf i).toNat)
 case atStart=>exact⟨0,Ai _,rfl,A4 _ _ _ _,Aq _ _⟩
 case round =>
  obtain⟨k,hk,rfl,c,p⟩:=hrel
  by_cases B:k<nf
  ·obtain⟨b,o,rfl,P,f1,Q,-⟩:=(O.out.kept p).2 k B
   have J:(k:Int)<(nf:Int):=by omega
   have R:(0:Int)<=(k:Int):=by omega
   generalize C:wr.alloc (Obj.cells #[.string (F k).name,.int .i64 (F k).kind,.string (F k).type] 113)=W;have hB:Below wr.heap.size wr W:=by rw[<-C];exact BW _ _
   have S:W.cell? ⟨wr.heap.size,0,none⟩=some (.string (F k).name):=by rw[<-C,Ac _ _ _ _ rfl];rfl
   have d:B9 (W.alloc (Obj.cells #[.string (F k).name] 9)) w.heap.size 9 1 _ k (B3 (λj=>(F j).name)):=(c.kept hB).kept (BW _ _);have K:Hid (B9 (W.alloc (Obj.cells #[.string (F k).name] 9)) w.heap.size 9 1 _ k (B3 (λj=>(F j).name))):=d;have g:Hid (Below w.heap.size w W):=p.trans (hB.mono p.size);have L:Hid (∀r,Value.ownBlock _=some r->w.heap.size<=r):=λr m=>(c.lt m).1;have D:w.heap.size<=W.heap.size:=g.out.size;clear d c p hB
   go_wp2_with (at_builtin;refine Ck _ rfl _ _ 65 rfl w.heap.size 9 i0 _ 1 16 Tryz.underlying65 hi y z A rfl (by decide) _ k _ rfl K.out (some ⟨W.heap.size,0,none⟩) 1 1 [.string (F k).name] rfl rfl ?c1 (λh=>by cases h) ?c2 (by unfold maxLen;omega) (by omega) (by simp;omega) ?_)
   case c1 =>
    intro U E j u n;cases E;rw[AO]
    match j,n with
    | 0,n=>simp at n;subst n;rw[Ac _ _ _ _ rfl];rfl
   case c2 =>
    intro u n;simp at n;subst n;rfl
   intro T M l s _;have x:Hid (B9 M w.heap.size 9 1 T (k+1) (B3 (λj=>(F j).name))):=by unfold Hid B9;rw[ES,Bk];exact l
   have G:Hid (Below w.heap.size w M):=(g.out.trans ((BW W _).mono D)).grown s (by simp;omega) (λr m=>L.out r m);clear l s K L g C S P f1 Q
   go_wp2_with fail
   go_roundw
   case rel=>exact⟨k+1,by omega,by go_num,x.out,G.out⟩
   case measure=>simp[intOf];omega
  ·have H:k=nf:=by omega
   subst H;have x:=c;obtain⟨a,cap,hv,hc⟩:=c.slice;subst hv;have I:Hid (B9 wr w.heap.size 9 1 (.slice a k cap) k (B3 (λj=>(F j).name))):=x;have g:Hid (Below w.heap.size w wr):=p;clear x c p
   go_wp2_with fail
   go_ret;exact⟨⟨a,cap,rfl,hc,I.out⟩,g.out⟩
theorem B9.base{w:World}{base a e size n:Nat}{v:Value}{f : Nat->Value}(h:B9 w base e size v n f)(hb:a<=base):B9 w a e size v n f:=by
 refine⟨h.1,?_⟩;rcases h.2 with h|⟨g,cap,cur,rfl,hg,r⟩
 ·exact .inl h
 ·exact .inr ⟨g,cap,cur,rfl,Am hb hg,r⟩
theorem Tryz.info96:(Tryz.prog.info? 96).map (λi=>(i.zero,i.size,i.bytes))=some (some (.agg #[.string ⟨#[]⟩,.slice none 0 0]),2,40):=by kernel_rfl
theorem Qi{w:World}{base n g cap:Nat}{fv a:Nat->Value}{S:Nat->PSeen}{t : Nat}{to:ByteArray}(h:Seens w base (.slice (some ⟨g,0,none⟩) n cap) n fv a (part (λi => { S i with name:=if i=t then to else (S i).name }) (S t).name to n 0)):Seens w base (.slice (some ⟨g,0,none⟩) n cap) n fv a (L6 S t to):=by
 refine h.congr λi hi=>⟨rfl,rfl,rfl,λj b=>?_,λj b=>rfl⟩;show Ed (S t).name to ((S i).F j)=if i<n\/(i=n/\j<0) then _ else _
 rw[Af (.inl hi)]
theorem M7(base n t:Nat)(v:Value)(fv o:Nat->Value)(S:Nat->PSeen)(to:ByteArray)(w:World)(hS:Seens w base v n fv o S)(T:t<n)(s:BY to)(c:base<=w.heap.size) :
  Calls Tryz.prog 120 #[v,.int .i64 (t:Int),.string to] w λe w'=>e= .returned (.int .i64 (EE n S t to).1)/\Seens w' base v n fv o (EE n S t to).2/\Below base w w':=by
 have Z:=zm;have hn:n<=9223372036854775807:=hS.nmax;obtain⟨g,cap,rfl,hg,U⟩:=hS.ptr T;have V:Hid (Seens w base (.slice (some ⟨g,0,none⟩) n cap) n fv o S):=hS;clear hS;have aa:(t:Int)<(n:Int):=by omega
 have ab:(0:Int)<=(t:Int):=by omega
 go_enter Tryz.func120,Tryz.ntmps120
 go_wp2_with fail
 generalize O:w.alloc (Obj.cells #[Value.string to] 9)=W;have hB:Below w.heap.size w W:=by rw[<-O];exact BW _ _
 have h:W.heap[w.heap.size]? = some (.cells #[.string to] 9 (0,0)):=by rw[<-O];exact Ap _ _
 clear O;generalize r:w.heap.size=bt at *;have X:Hid (w.heap.size=bt):=r;clear r;have ct:=cell_of_one h;refine(Es to W s).mono ?_;rintro e M ⟨rfl,u⟩;have i:Below bt w M:=hB.trans (u.mono (by have:=Ag h;omega));have b:=(u.block _ (Ag h)).trans h;have P:=cell_of_one b;clear u hB h ct;cases x:Cb to
 ·have a:Hid (EE n S t to=(6,S)):=by unfold EE Hid;simp[x]
  have j:Hid (Seens M base (.slice (some ⟨g,0,none⟩) n cap) n fv o S):=V.out.kept (by rw[X.out];exact i)
  go_wp2_with fail
  go_ret;exact⟨by rw[a.out];rfl,by rw[a.out];exact j.out,i.mono c⟩
 have j:Hid (Seens M base (.slice (some ⟨g,0,none⟩) n cap) n fv o S):=V.out.kept (by rw[X.out];exact i);have y:=Hk base n _ fv o S to M j.out
 go_wp2_with fail
 refine y.mono ?_;clear y;rintro e l ⟨rfl,p⟩;have z:Below bt w l:=i.trans (p.mono (by have:=Ag b;omega));have d:=(p.block _ (Ag b)).trans b;have ct2:=cell_of_one d;have m:Hid (Seens l base (.slice (some ⟨g,0,none⟩) n cap) n fv o S):=j.out.kept p;clear p i b P j
 by_cases A:0<=pfind n S to
 ·have a:Hid (EE n S t to=(6,S)):=by unfold EE Hid;simp[x,A]
  go_wp2_with fail
  go_ret;exact⟨by rw[a.out];rfl,by rw[a.out];exact m.out,z.mono c⟩
 have a:Hid (EE n S t to=(0,L6 S t to)):=by unfold EE Hid;simp[x,A]
 obtain⟨k0,-,-,-⟩:=m.out.cells T;have kz:=m.out.row.free (t*4);have hgl:g<l.heap.size:=An k0;have hbl:bt<l.heap.size:=Ag d
 go_wp2_with fail
 have B:=m.out.setName (t:=t) s;have C:bt≠g:=m.out.row.box_ne (k:=g) rfl d (by decide);have D:(l.setCell ⟨g,t*4,none⟩ (.string to)).heap[bt]? = some (.cells #[.string to] 9 (0,0)):=by rw[Al _ _ _ _ C];exact d
 have E:Below base w (l.setCell ⟨g,t*4,none⟩ (.string to)):=(z.mono c).setCell hg _;have F:(l.setCell ⟨g,t*4,none⟩ (.string to)).heap.size=l.heap.size:=by simp
 generalize (l.setCell ⟨g,t*4,none⟩ (.string to))=N at *;have q:=BW N (Obj.cells #[Value.string (S t).name] 9);have G:=B.kept q;have H:Boxes (N.alloc (Obj.cells #[Value.string (S t).name] 9)) l.heap.size bt (S t).name to:=⟨by rw[<-F];exact Ap _ _,(q.block _ (by omega)).trans D⟩;have I:Below base w (N.alloc (Obj.cells #[Value.string (S t).name] 9)):=E.trans (q.mono (by omega));have J:base<=(N.alloc (Obj.cells #[Value.string (S t).name] 9)).heap.size:=by simp;omega
 refine(Lf base n l.heap.size bt _ fv o _ (S t).name to _ G H s J).mono ?_;rintro e Y ⟨rfl,K,L⟩;have Q:Hid (Seens Y base (.slice (some ⟨g,0,none⟩) n cap) n fv o (L6 S t to)):=Qi K;have R:Hid (Below base w Y):=I.trans L;clear B G H I J K L q C D E F
 go_wp2_with fail
 go_ret;exact⟨by rw[a.out];rfl,by rw[a.out];exact Q.out,R.out⟩
theorem RH{w:World}{base n:Nat}{v:Value}{fv d:Nat->Value}{S:Nat->PSeen}(h:Seens w base v n fv d S){t f fb cap:Nat}(e:t<n)(c:fv t= .slice (some ⟨fb,0,none⟩) (S t).nf cap){to:ByteArray}(hs:BY to) :
  Seens (w.setCell ⟨fb,f*3,none⟩ (.string to)) base v n fv d (LW S t f to):=by
 refine h.setField e c (.string to) (f*3) (λj=>if j=f then { (S t).F j with name:=to } else (S t).F j) ?_ ?_
 ·intro q hq
  by_cases a:q=f*3
  ·subst a
   rw[Af rfl,FW,Af rfl]
  ·rw[Ae a]
   unfold B2
   by_cases b:q / 3=f
   ·simp[b,show ¬q % 3=0 by omega]
   ·simp[b]
 ·intro j k
  obtain⟨l,g,i⟩:=(h.good t e).2.2.2.1 j k
  by_cases b:j=f
  ·rw[Af b];exact⟨hs,g,i⟩
  ·rw[Ae b];exact⟨l,g,i⟩
theorem La(base n t f:Nat)(v:Value)(fv p:Nat->Value)(S:Nat->PSeen)(to:ByteArray)(w:World)(hS:Seens w base v n fv p S)(A:t<n)(hf:f<(S t).nf)(q:BY to)(g:base<=w.heap.size) :
  Calls Tryz.prog 121 #[fv t,.int .i64 (f:Int),.string to] w λe w'=>e= .returned (.int .i64 (Et S t f to).1)/\Seens w' base v n fv p (Et S t f to).2/\Below base w w':=by
 have c:=hS.good t A;have i:=hS.fields t A;rcases i.shape with⟨-,h0⟩|⟨fb,cap,k,C,I,-⟩
 ·omega
 have J:Hid (Seens w base v n fv p S):=hS;have r:Hid (fv t= .slice (some ⟨fb,0,none⟩) (S t).nf cap):=k;obtain⟨a,K,s,-,u⟩:=i.fieldsAt c.2.2.1 c.2.2.2.1;rw[k]at s;cases s;have D:Hid (Cl w (some ⟨fb,0,none⟩) (S t).nf (S t).F):=u;have M:(S t).nf<=9223372036854775807:=c.2.2.1;rw[k];clear hS c i u k;have N:(f:Int)<((S t).nf:Int):=by omega
 have O:(0:Int)<=(f:Int):=by omega
 go_enter Tryz.func121,Tryz.ntmps121
 go_wp2_with fail
 refine(Es to w q).mono ?_;rintro e L ⟨rfl,h⟩;cases l:Cb to
 ·have b:Hid (Et S t f to=(6,S)):=by unfold Et Hid;simp[l]
  have E:Hid (Seens L base v n fv p S):=J.out.kept h
  go_wp2_with fail
  go_ret;exact⟨by rw[b.out];rfl,by rw[b.out];exact E.out,h.mono g⟩
 have x:=E9 (some ⟨fb,0,none⟩) (S t).nf cap (S t).F to L (D.out.kept h)
 go_wp2_with fail
 refine x.mono ?_;clear x;rintro e B ⟨rfl,y⟩;have m:Below w.heap.size w B:=h.trans (y.mono h.size);clear h y;have o:Hid (Seens B base v n fv p S):=J.out.kept m
 by_cases z:0<=BX (S t).nf (S t).F to
 ·have b:Hid (Et S t f to=(6,S)):=by unfold Et Hid;simp[l,z]
  go_wp2_with fail
  go_ret;exact⟨by rw[b.out];rfl,by rw[b.out];exact o.out,m.mono g⟩
 have b:Hid (Et S t f to=(0,LW S t f to)):=by unfold Et Hid;simp[l,z]
 have d:=o.out.fields t A;rw[r.out]at d;have P:=d.cell (j:=f*3) (by omega);have Q:=d.free (f*3);have G:Hid (Below base w (B.setCell ⟨fb,f*3,none⟩ (.string to))):=(m.mono g).setCell C _;have H:Hid (Seens (B.setCell ⟨fb,f*3,none⟩ (.string to)) base v n fv p (LW S t f to)):=RH o.out A r.out q;rw[FW]at P;clear d
 go_wp2_with fail
 go_ret;exact⟨by rw[b.out];rfl,by rw[b.out];exact H.out,G.out⟩
theorem Ld(F:Nat->LField)(q:Nat):(B2 F q).oneCell'=true:=by
 unfold B2;split
 ·rfl
 ·split<;>rfl
theorem Mz(O:Nat->ByteArray)(q:Nat):(B3 O q).oneCell'=true:=rfl
theorem SC{w E z:World}{base n g cap t f fb fc ob oc:Nat}{fv v:Nat->Value}{S:Nat->PSeen}(h:Seens w base (.slice (some ⟨g,0,none⟩) n cap) n fv v S)(G:t<n)(hf:f<(S t).nf)(K:fv t= .slice (some ⟨fb,0,none⟩) (S t).nf fc)(L:v t= .slice (some ⟨ob,0,none⟩) (S t).nf oc)(h1:B9 E base 113 3 (.slice (some ⟨fb,0,none⟩) ((S t).nf - 1) fc) ((S t).nf - 1) (λq=>B2 (S t).F (if q<f*3 then q else q+3)))(H:w.grownBy E (some fb))(h3:B9 z base 9 1 (.slice (some ⟨ob,0,none⟩) ((S t).nf - 1) oc) ((S t).nf - 1) (λq=>B3 (S t).O (if q<f*1 then q else q+1)))(M:(E.setCell ⟨g,t*4+1,none⟩ (.slice (some ⟨fb,0,none⟩) ((S t).nf - 1) fc)).grownBy z (some ob)) :
  Seens (z.setCell ⟨g,t*4+3,none⟩ (.slice (some ⟨ob,0,none⟩) ((S t).nf - 1) oc)) base (.slice (some ⟨g,0,none⟩) n cap) n (λi=>if i=t then .slice (some ⟨fb,0,none⟩) ((S t).nf - 1) fc else fv i) (λi=>if i=t then .slice (some ⟨ob,0,none⟩) ((S t).nf - 1) oc else v i) (DO S t f):=by
 have a:(fv t).ownBlock=some fb:=by rw[K];rfl
 have b:(v t).ownBlock=some ob:=by rw[L];rfl
 have I:=h.fields t G;have J:=h.owns t G;have A:(Value.slice (some ⟨g,0,none⟩) n cap).ownBlock≠some fb:=I.ne h.row (by decide) a;have B:(Value.slice (some ⟨g,0,none⟩) n cap).ownBlock≠some ob:=J.ne h.row (by decide) b;have N:fb≠ob:=λe=>I.ne J (by decide) a (by rw[b,e]);have s:g≠fb:=λe=>A (by rw[e];rfl);have C:g≠ob:=λe=>B (by rw[e];rfl);have Q:=(I.lt a).2;have lo:=(J.lt b).2;have lg:g<w.heap.size:=(h.row.lt (k:=g) rfl).2;have u:∀k,k<w.heap.size->k≠fb->k≠ob->k≠g->(z.setCell ⟨g,t*4+3,none⟩ (.slice (some ⟨ob,0,none⟩) ((S t).nf - 1) oc)).heap[k]? = w.heap[k]?:=λk hk n1 n2 P=>by
  rw[Al _ _ _ _ P,M.block k (by simpa using Ah hk H.size) (by simpa using n2),Al _ _ _ _ P,H.block k hk (by simpa using n1)]
 have R:B9 E base 140 4 (.slice (some ⟨g,0,none⟩) n cap) n (Dy S fv v):=h.row.grown H (λk hk e=>A (by rw[hk];exact e.symm ▸ rfl));have T:=R.set (t*4+1) (.slice (some ⟨fb,0,none⟩) ((S t).nf - 1) fc);have U:=(T.grown M (λk hk e=>B (by rw[hk];exact e.symm ▸ rfl))).set (t*4+3) (.slice (some ⟨ob,0,none⟩) ((S t).nf - 1) oc);have m:∀i,i≠t->DO S t f i=S i:=λi hi=>by unfold DO;rw[Ae hi]
 have o:DO S t f t = { S t with nf:=(S t).nf - 1,F:=λj=>(S t).F (skip f j),O:=λj=>(S t).O (skip f j) }:=by unfold DO;rw[Af rfl]
 refine⟨h.nmax,U.congr ?_,λi hi=>?_,λi hi=>?_,λi j hi l x k hk=>?_,λi j hi l x k hk=>?_,λi hi=>?_⟩
 ·intro q hq
  have d:(DO S t f (q / 4)).name=(S (q / 4)).name/\(DO S t f (q / 4)).own=(S (q / 4)).own:=by
   by_cases e:q / 4=t
   ·rw[e,o];exact⟨rfl,rfl⟩
   ·rw[m _ e];exact⟨rfl,rfl⟩
  unfold Dy;rw[d.1,d.2]
  by_cases e:q / 4=t
  ·have e3:(q=t*4+3)=(q % 4=3):=by rw[eq_iff_iff];omega
   have e1:(q=t*4+1)=(q % 4=1):=by rw[eq_iff_iff];omega
   have y:q % 4=0\/q % 4=1\/q % 4=2\/q % 4=3:=by omega
   rcases y with y|y|y|y<;>simp[e3,e1,y,e]
  ·rw[Ae (by omega),Ae (by omega)]
   simp[e]
 ·by_cases e:i=t
  ·subst e
   rw[Af rfl,o];have r:B9 (z.setCell ⟨g,i*4+3,none⟩ (.slice (some ⟨ob,0,none⟩) ((S i).nf - 1) oc)) base 113 3 (.slice (some ⟨fb,0,none⟩) ((S i).nf - 1) fc) ((S i).nf - 1) (λq=>B2 (S i).F (if q<f*3 then q else q+3)):=h1.at λk hk=>by
    have:k=fb:=by simpa[Value.ownBlock,eq_comm] using hk
    subst this;rw[Al _ _ _ _ (BG s),M.block k (by simpa using Ah Q H.size) (by simpa using N),Al _ _ _ _ (BG s)]
   refine r.congr λq hq=>?_;obtain⟨s1,V⟩:=QU (i:=f) (q:=q) (size:=3) (by decide);unfold B2;rw[s1,V]
  ·rw[Ae e,m i e]
   refine(h.fields i hi).at λk hk=>u k ((h.fields i hi).lt hk).2 (λc=>h.fapart t i G hi (BG e) fb a (by rw[hk,c])) (λc=>(h.fields i hi).ne J (by decide) hk (by rw[b,c])) (λc=>(h.fields i hi).ne h.row (by decide) hk (by rw[c];rfl))
 ·by_cases e:i=t
  ·subst e
   rw[Af rfl,o];refine(h3.set_other (p:=⟨g,i*4+3,none⟩) (λc=>C (by simpa[Value.ownBlock,eq_comm] using c)) _).congr λq hq=>?_;show Value.string ((S i).O (if q<f*1 then q else q+1))=Value.string ((S i).O (if q<f then q else q+1))
   rw[Bk]
  ·rw[Ae e,m i e]
   refine(h.owns i hi).at λk hk=>u k ((h.owns i hi).lt hk).2 (λc=>I.ne (h.owns i hi) (by decide) a (by rw[hk,c])) (λc=>h.oapart t i G hi (BG e) ob b (by rw[hk,c])) (λc=>(h.owns i hi).ne h.row (by decide) hk (by rw[c];rfl))
 ·have bl:∀i,i<n->(if i=t then Value.slice (some ⟨fb,0,none⟩) ((S t).nf - 1) fc else fv i).ownBlock=(fv i).ownBlock:=λi hi=>by
   by_cases e:i=t
   ·rw[Af e,e,a];rfl
   ·rw[Ae e]
  rw[bl i hi]at hk;rw[bl j l];exact h.fapart i j hi l x k hk
 ·have bl:∀i,i<n->(if i=t then Value.slice (some ⟨ob,0,none⟩) ((S t).nf - 1) oc else v i).ownBlock=(v i).ownBlock:=λi hi=>by
   by_cases e:i=t
   ·rw[Af e,e,b];rfl
   ·rw[Ae e]
  rw[bl i hi]at hk;rw[bl j l];exact h.oapart i j hi l x k hk
 ·by_cases e:i=t
  ·subst e
   obtain⟨W,X,Y,Z,q5⟩:=h.good i hi;rw[o];have D:∀j,j<(S i).nf - 1->skip f j<(S i).nf:=λj l=>by unfold skip;split<;>omega
   exact⟨W,X,Am (Nat.sub_le _ _) Y,λj l=>Z _ (D j l),λj l=>q5 _ (D j l)⟩
  ·rw[m i e];exact h.good i hi
theorem Sh(base n t f g cap:Nat)(fv D:Nat->Value)(S:Nat->PSeen)(w:World)(hS:Seens w base (.slice (some ⟨g,0,none⟩) n cap) n fv D S)(x:t<n)(hf:f<(S t).nf)(o:base<=w.heap.size) :
  Calls Tryz.prog 122 #[.pointer (some ⟨g,t*4,none⟩),.int .i64 (f:Int)] w λe w'=>e= .returned (.tuple #[])/\(∃E G,Seens w' base (.slice (some ⟨g,0,none⟩) n cap) n E G (DO S t f))/\Below base w w':=by
 have a:=hS.good t x;have v:=hS.fields t x;have r:=hS.owns t x;rcases v.shape with⟨-,h0⟩|⟨fb,fc,c,U,-,-⟩
 ·omega
 rcases r.shape with⟨-,h0⟩|⟨ob,oc,d,V,-,-⟩
 ·omega
 obtain⟨W,k1,X,H⟩:=hS.cells x;have Q:=hS.row.free (t*4+1);have y:base<=g:=(hS.row.lt (k:=g) rfl).1;have j:g≠fb:=λe=>v.ne hS.row (by decide) (k:=fb) (by rw[c];rfl) (by rw[e];rfl);have s:g≠ob:=λe=>r.ne hS.row (by decide) (k:=ob) (by rw[d];rfl) (by rw[e];rfl);have I:fb≠ob:=λe=>v.ne r (by decide) (k:=fb) (by rw[c];rfl) (by rw[d,e];rfl);rw[c]at k1 v;rw[d]at H r;have Y:(S t).nf<=9223372036854775807:=a.2.2.1;have R:Hid (Seens w base (.slice (some ⟨g,0,none⟩) n cap) n fv D S):=hS;have J:Hid (fv t= .slice (some ⟨fb,0,none⟩) (S t).nf fc):=c;have K:Hid (D t= .slice (some ⟨ob,0,none⟩) (S t).nf oc):=d;have L:Hid (B9 w base 9 1 (.slice (some ⟨ob,0,none⟩) (S t).nf oc) (S t).nf (B3 (S t).O)):=r;have h:=Li base (S t).nf f fb fc (B2 (S t).F) w v (λq _=>Ld _ _) hf a.2.2.1;have Z:(S t).nf<=maxLen:=a.2.2.1;have M:=(r.lt (k:=ob) rfl).2;clear hS c d a v r;have aa:(f:Int)<((S t).nf:Int):=by omega
 go_enter Tryz.func122,Tryz.ntmps122
 go_wp2_with fail
 refine h.mono ?_;clear h;rintro e l ⟨rfl,z,b⟩;have c1:l.cell? ⟨g,t*4+1,none⟩=some (.slice (some ⟨fb,0,none⟩) (S t).nf fc):=b.cell k1 (by simpa using j);have c3:l.cell? ⟨g,t*4+3,none⟩=some (.slice (some ⟨ob,0,none⟩) (S t).nf oc):=b.cell H (by simpa using j);have N:g<w.heap.size:=An k1;have y1:l.frozen? ⟨g,t*4+1,none⟩=false:=(World.frozen?_of_block (w:=w) (b.block g N (by simpa using j))).trans Q;have hz1:w.heap.size<=l.heap.size:=b.size;have u:Hid (w.grownBy l (some fb)):=b;have P:Hid (B9 l base 113 3 (.slice (some ⟨fb,0,none⟩) ((S t).nf - 1) fc) ((S t).nf - 1) (λq=>B2 (S t).F (if q<f*3 then q else q+3))):=z
 have m:B9 (l.setCell ⟨g,t*4+1,none⟩ (.slice (some ⟨fb,0,none⟩) ((S t).nf - 1) fc)) base 9 1 (.slice (some ⟨ob,0,none⟩) (S t).nf oc) (S t).nf (B3 (S t).O) :=
  (L.out.grown b (λk hk e=>I (by simp[Value.ownBlock]at hk e;omega))).set_other (p:=⟨g,t*4+1,none⟩) (λe=>s (by simpa[Value.ownBlock,eq_comm] using e)) _
 have h:=Mx base (S t).nf f ob oc (B3 (S t).O) _ m (λq _=>Mz _ _) hf Z;clear b z m W k1 X H Q M
 go_wp2_with fail
 refine h.mono ?_;clear h;rintro e C ⟨rfl,A,i⟩;have T:g<(l.setCell ⟨g,t*4+1,none⟩ (.slice (some ⟨fb,0,none⟩) ((S t).nf - 1) fc)).heap.size:=by simp;omega
 have c3':C.cell? ⟨g,t*4+3,none⟩=some (.slice (some ⟨ob,0,none⟩) (S t).nf oc):=i.cell (by rw[World.cell?_setCell_other _ _ _ _ (by simp)];exact c3) (by simpa using s);have y3:C.frozen? ⟨g,t*4+3,none⟩=false:=by
  have B:=(R.out.row.grown u.out (λk hk e=>j (by simp[Value.ownBlock]at hk e;omega))).set (t*4+1) (.slice (some ⟨fb,0,none⟩) ((S t).nf - 1) fc);exact(B.grown i (λk hk e=>s (by simp[Value.ownBlock]at hk e;omega))).free _
 have HB:Hid (Below base w (C.setCell ⟨g,t*4+3,none⟩ (.slice (some ⟨ob,0,none⟩) ((S t).nf - 1) oc))):=((((Aq base w).grown u.out o (λk hk=>by simp at hk;omega)).setCell y _).grown i (by simp;omega) (λk hk=>by simp at hk;omega)).setCell y _;have HF:Hid (Seens (C.setCell ⟨g,t*4+3,none⟩ (.slice (some ⟨ob,0,none⟩) ((S t).nf - 1) oc)) base (.slice (some ⟨g,0,none⟩) n cap) n _ _ (DO S t f)):=SC R.out x hf J.out K.out P.out u.out A i;clear A i c1 c3 y1
 go_wp2_with fail
 go_end0
 exact⟨rfl,⟨_,_,HF.out⟩,HB.out⟩
def Hq (c:PChange):Value:=.agg #[.int .i64 c.kind,.string c.type,.string c.field,.string c.to]
theorem SB{n:Nat}{S:Nat->PSeen}{c:PChange}(h1:c.kind≠1)(h2:c.kind≠2)(h3:c.kind≠3):EF n S c=(1,S):=by unfold EF;rw[Af ⟨h1,h2,h3⟩]
theorem K3{n:Nat}{S:Nat->PSeen}{c:PChange}(h:c.kind=1\/c.kind=2\/c.kind=3)(h2:pfind n S c.type<0):EF n S c=(5,S):=by unfold EF;rw[Ae (by omega),Af h2]
theorem Tb{n:Nat}{S:Nat->PSeen}{c:PChange}(h:c.kind=1)(h2 : ¬pfind n S c.type<0):EF n S c=EE n S (pfind n S c.type).toNat c.to:=by unfold EF;rw[Ae (by omega),Ae h2,Af h]
theorem LR{n:Nat}{S:Nat->PSeen}{c:PChange}(h:c.kind=2\/c.kind=3)(h2 : ¬pfind n S c.type<0):EF n S c=FH S (pfind n S c.type).toNat c:=by unfold EF;rw[Ae (by omega),Ae h2,Ae (by omega)]
theorem RB(base n:Nat)(v:Value)(fv s:Nat->Value)(S:Nat->PSeen)(c:PChange)(w:World)(hS:Seens w base v n fv s S)(ad:BY c.to)(I:base<=w.heap.size) :
  Calls Tryz.prog 84 #[v,Hq c] w λe w'=>e= .returned (.int .i64 (EF n S c).1)/\(∃V X,Seens w' base v n V X (EF n S c).2)/\Below base w w':=by
 have hn:n<=9223372036854775807:=hS.nmax;obtain⟨a,cap,rfl,hcap⟩:=hS.slice;have HS:Hid (Seens w base (.slice a n cap) n fv s S):=hS;clear hS;unfold Hq;generalize J:w.alloc (Obj.cells #[.int .i64 c.kind,.string c.type,.string c.field,.string c.to] 160)=W;have hB:Below w.heap.size w W:=by rw[<-J];exact BW _ _
 have c0:W.cell? ⟨w.heap.size,0,none⟩=some (.int .i64 c.kind):=by rw[<-J,Ac _ _ _ _ rfl];rfl
 have c1:W.cell? ⟨w.heap.size,1,none⟩=some (.string c.type):=by rw[<-J,Ac _ _ _ _ rfl];rfl
 have c2:W.cell? ⟨w.heap.size,2,none⟩=some (.string c.field):=by rw[<-J,Ac _ _ _ _ rfl];rfl
 have c3:W.cell? ⟨w.heap.size,3,none⟩=some (.string c.to):=by rw[<-J,Ac _ _ _ _ rfl];rfl
 have u:Hid (Seens W base (.slice a n cap) n fv s S):=HS.out.kept hB;have B:Hid (Below base w W):=hB.mono I;have y:base<=W.heap.size:=Am I hB.size;clear HS hB
 by_cases o:c.kind=1
 ·rw[o]at c0 J ⊢
  go_enter Tryz.func84,Tryz.ntmps84
  go_wp2_with fail
  clear J;generalize w.heap.size=bc at *;refine(Hk base n _ fv s S c.type W u.out).mono ?_;rintro e k ⟨rfl,i⟩;have d0:=BR i c0;have Y:=BR i c3;have q:Hid (Seens k base (.slice a n cap) n fv s S):=u.out.kept i;have x:Hid (Below base w k):=B.out.trans (i.mono y);have z:base<=k.heap.size:=Am y i.size;clear i c0 c1 c2 c3 u B y
  by_cases G:pfind n S c.type<0
  ·have b:Hid (EF n S c=(5,S)):=K3 (.inl o) G
   clear o
   go_wp2_with fail
   go_ret;exact⟨by rw[b.out];rfl,by rw[b.out];exact⟨_,_,q.out⟩,x.out⟩
  ·have b:Hid (EF n S c=EE n S (pfind n S c.type).toNat c.to):=Tb o G
   obtain⟨H,-,T⟩:=GC G;generalize K:(pfind n S c.type).toNat=t at *;have HT:Hid (t<n):=H;rw[T];clear o G T K H;have A:=M7 base n t _ fv s S c.to k q.out HT.out ad z
   go_wp2_with fail
   refine A.mono ?_;clear A;rintro e L ⟨rfl,hS2,hB2⟩;have C:Hid (Seens L base (.slice a n cap) n fv s (EE n S t c.to).2):=hS2;have D:Hid (Below base w L):=x.out.trans hB2;clear hS2 hB2 d0 Y;generalize EE n S t c.to=r at *
   go_wp2_with fail
   go_ret;exact⟨by rw[b.out];rfl,by rw[b.out];exact⟨_,_,C.out⟩,D.out⟩
 by_cases U:c.kind=2\/c.kind=3
 case neg =>
  have b:Hid (EF n S c=(1,S)):=SB o (by omega) (by omega);have e1:(c.kind != 1)=true:=by simpa using o
  have e2:(c.kind != 2)=true:=by simp;omega
  have e3:(c.kind != 3)=true:=by simp;omega
  clear o U
  go_enter Tryz.func84,Tryz.ntmps84
  go_wp2_with fail
  go_ret;exact⟨by rw[b.out];rfl,by rw[b.out];exact⟨_,_,u.out⟩,B.out⟩
 rcases U with hk2|hk3
 ·have hk:=hk2
  rw[hk]at c0 J ⊢
  go_enter Tryz.func84,Tryz.ntmps84
  go_wp2_with fail
  clear J;generalize w.heap.size=bc at *;refine(Hk base n _ fv s S c.type W u.out).mono ?_;rintro e k ⟨rfl,i⟩;have d0:=BR i c0;have d2:=BR i c2;have Y:=BR i c3;have j:Seens k base (.slice a n cap) n fv s S:=u.out.kept i;have x:Hid (Below base w k):=B.out.trans (i.mono y);have z:base<=k.heap.size:=Am y i.size;clear i c0 c1 c2 c3 u B y
  by_cases G:pfind n S c.type<0
  ·have b:Hid (EF n S c=(5,S)):=K3 (by omega) G
   have q:Hid (Seens k base (.slice a n cap) n fv s S):=j;clear hk o j
   go_wp2_with fail
   go_ret;exact⟨by rw[b.out];rfl,by rw[b.out];exact⟨_,_,q.out⟩,x.out⟩
  have b:Hid (EF n S c=FH S (pfind n S c.type).toNat c):=LR (by omega) G;obtain⟨H,-,T⟩:=GC G;have HK:Hid (c.kind=2):=hk;generalize K:(pfind n S c.type).toNat=t at *;rw[T];clear hk o G T K;obtain⟨g,cap',hv,hgb,-⟩:=j.ptr H;cases hv;obtain⟨-,k1,-,-⟩:=j.cells H;have l:=j.good t H;obtain⟨fa,fc,E,hfc,M⟩:=(j.fields t H).fieldsAt l.2.2.1 l.2.2.2.1;rw[E]at k1;have HFV:Hid (fv t= .slice fa (S t).nf fc):=E;have cF:∀d os,Calls Tryz.prog 64 #[.slice fa (S t).nf fc,.string c.field] (grow (redrawn k d) os) λe w''=>e= .returned (.int .i64 (BX (S t).nf (S t).F c.field))/\∃p:Regrown,w''=grow (redrawn k p.d) p.os:=λd os=>AF (E9 _ _ _ (S t).F _ _ (M.kept (Av k d os)));have r1:=As k1;have r2:=As d2;have q:Hid (Seens k base (.slice (some ⟨g,0,none⟩) n cap) n fv s S):=j;have HT:Hid (t<n):=H;have t1':(t:Int)<(n:Int):=by omega
  have t0':(0:Int)<=(t:Int):=by omega
  clear j l M E
  go_wp2_with fail
  refine Ar (by kernel_rfl) (by kernel_rfl) ?_
  repeat (go_big_quiet_step (first|exact cF _ _))
  refine AK ?_;intro _ Z;obtain⟨⟨N,osq⟩,O⟩:=Z;subst O;have m:=Av k N osq;have C:Hid (Seens (grow (redrawn k N) osq) base (.slice (some ⟨g,0,none⟩) n cap) n fv s S):=q.out.kept m;have D:Hid (Below base w (grow (redrawn k N) osq)):=x.out.trans (m.mono z);have R:base<=(grow (redrawn k N) osq).heap.size:=Am z m.size;have f0:=BR m d0;have f1:=BR m k1;have f3:=BR m Y;clear m r1 r2 cF d0 d2 Y k1 z q x;generalize grow (redrawn k N) osq=L at *
  by_cases hq:BX (S t).nf (S t).F c.field<0
  ·have h:Hid (EF n S c=(5,S)):=by unfold Hid;rw[b.out];unfold FH;rw[Af hq]
   go_wp2_with fail
   go_ret;exact⟨by rw[h.out];rfl,by rw[h.out];exact⟨_,_,C.out⟩,D.out⟩
  obtain⟨q1,-,q3⟩:=Gy hq;have h:Hid (EF n S c=Et S t (BX (S t).nf (S t).F c.field).toNat c.to):=by unfold Hid;rw[b.out];unfold FH;rw[Ae hq,Af HK.out]
  generalize aa:(BX (S t).nf (S t).F c.field).toNat=f at *;rw[q3];have HF:Hid (f<(S t).nf):=q1;clear hq q3 aa q1;have A:∀w3:World,Below L.heap.size L w3->Calls Tryz.prog 121 #[.slice fa (S t).nf fc,.int .i64 (f:Int),.string c.to] w3 λe w'=>e= .returned (.int .i64 (Et S t f c.to).1)/\Seens w' base (.slice (some ⟨g,0,none⟩) n cap) n fv s (Et S t f c.to).2/\Below base w w':=by
   intro w3 hb;have:=La base n t f _ fv s S c.to w3 (C.out.kept hb) HT.out HF.out ad (Am R hb.size);rw[HFV.out]at this;refine this.mono ?_;rintro e w' ⟨h5,h6,h7⟩;exact⟨h5,h6,(D.out.trans (hb.mono R)).trans h7⟩
  have hb0:Below L.heap.size L L.drew:=(Aq _ _).drew;have hcl2:=A L.drew hb0;clear A hb0
  go_wp2_with fail
  go_region_with (go_at_call 121;refine hcl2.mono ?_;rintro e w4 ⟨rfl,P,Q⟩)
  all_goals (
   have ab:Hid (Seens w4 base (.slice (some ⟨g,0,none⟩) n cap) n fv s (Et S t f c.to).2):=P;have ac:Hid (Below base w w4):=Q;clear P Q f0 f1 f3;generalize Et S t f c.to=r at *
   go_wp2_with fail
   go_ret;exact⟨by rw[h.out];rfl,by rw[h.out];exact⟨_,_,ab.out⟩,ac.out⟩)
 ·have hk:=hk3
  rw[hk]at c0 J ⊢
  go_enter Tryz.func84,Tryz.ntmps84
  go_wp2_with fail
  clear J;generalize w.heap.size=bc at *;refine(Hk base n _ fv s S c.type W u.out).mono ?_;rintro e k ⟨rfl,i⟩;have d0:=BR i c0;have d2:=BR i c2;have Y:=BR i c3;have j:Seens k base (.slice a n cap) n fv s S:=u.out.kept i;have x:Hid (Below base w k):=B.out.trans (i.mono y);have z:base<=k.heap.size:=Am y i.size;clear i c0 c1 c2 c3 u B y
  by_cases G:pfind n S c.type<0
  ·have b:Hid (EF n S c=(5,S)):=K3 (by omega) G
   have q:Hid (Seens k base (.slice a n cap) n fv s S):=j;clear hk o j
   go_wp2_with fail
   go_ret;exact⟨by rw[b.out];rfl,by rw[b.out];exact⟨_,_,q.out⟩,x.out⟩
  have b:Hid (EF n S c=FH S (pfind n S c.type).toNat c):=LR (by omega) G;obtain⟨H,-,T⟩:=GC G;have HK:Hid (c.kind=3):=hk;generalize K:(pfind n S c.type).toNat=t at *;rw[T];clear hk o G T K;obtain⟨g,cap',hv,hgb,-⟩:=j.ptr H;cases hv;obtain⟨-,k1,-,-⟩:=j.cells H;have l:=j.good t H;obtain⟨fa,fc,E,hfc,M⟩:=(j.fields t H).fieldsAt l.2.2.1 l.2.2.2.1;rw[E]at k1;have HFV:Hid (fv t= .slice fa (S t).nf fc):=E;have cF:∀d os,Calls Tryz.prog 64 #[.slice fa (S t).nf fc,.string c.field] (grow (redrawn k d) os) λe w''=>e= .returned (.int .i64 (BX (S t).nf (S t).F c.field))/\∃p:Regrown,w''=grow (redrawn k p.d) p.os:=λd os=>AF (E9 _ _ _ (S t).F _ _ (M.kept (Av k d os)));have r1:=As k1;have r2:=As d2;have q:Hid (Seens k base (.slice (some ⟨g,0,none⟩) n cap) n fv s S):=j;have HT:Hid (t<n):=H;have t1':(t:Int)<(n:Int):=by omega
  have t0':(0:Int)<=(t:Int):=by omega
  clear j l M E
  go_wp2_with fail
  refine Ar (by kernel_rfl) (by kernel_rfl) ?_
  repeat (go_big_quiet_step (first|exact cF _ _))
  refine AK ?_;intro _ Z;obtain⟨⟨N,osq⟩,O⟩:=Z;subst O;have m:=Av k N osq;have C:Hid (Seens (grow (redrawn k N) osq) base (.slice (some ⟨g,0,none⟩) n cap) n fv s S):=q.out.kept m;have D:Hid (Below base w (grow (redrawn k N) osq)):=x.out.trans (m.mono z);have R:base<=(grow (redrawn k N) osq).heap.size:=Am z m.size;have f0:=BR m d0;have f1:=BR m k1;have f3:=BR m Y;clear m r1 r2 cF d0 d2 Y k1 z q x;generalize grow (redrawn k N) osq=L at *
  by_cases hq:BX (S t).nf (S t).F c.field<0
  ·have h:Hid (EF n S c=(5,S)):=by unfold Hid;rw[b.out];unfold FH;rw[Af hq]
   go_wp2_with fail
   go_ret;exact⟨by rw[h.out];rfl,by rw[h.out];exact⟨_,_,C.out⟩,D.out⟩
  obtain⟨q1,-,q3⟩:=Gy hq;have h:Hid (EF n S c=(0,DO S t (BX (S t).nf (S t).F c.field).toNat)):=by unfold Hid;rw[b.out];unfold FH;rw[Ae hq,Ae (by rw[HK.out];decide)]
  generalize aa:(BX (S t).nf (S t).F c.field).toNat=f at *;rw[q3];have HF:Hid (f<(S t).nf):=q1;clear hq q3 aa q1;have A:=Sh base n t f g cap fv s S L C.out HT.out HF.out R
  go_wp2_with fail
  refine A.mono ?_;clear A;rintro e w4 ⟨rfl,P,Q⟩;have ab:Hid (∃V X,Seens w4 base (.slice (some ⟨g,0,none⟩) n cap) n V X (DO S t f)):=P;have ac:Hid (Below base w w4):=D.out.trans Q;clear P Q f0 f1 f3
  go_wp2_with fail
  go_ret;exact⟨by rw[h.out];rfl,by rw[h.out];exact ab.out,ac.out⟩
end Go.Proofs.YtjjggefmmeminabGreat
