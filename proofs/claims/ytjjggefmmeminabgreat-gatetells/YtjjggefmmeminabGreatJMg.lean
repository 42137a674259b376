import Derived.Test.YtjjggefmmeminabGreatJMt
import Derived.Laws.Externs
set_option maxRecDepth 100000
set_option maxHeartbeats 1000000
namespace Go.Proofs.YtjjggefmmeminabGreat
open Go.RowKit Go.Sort
def Cy (O:Nat->POwner) (j:Nat):Value:=if j % 3=0 then .int .i64 (O (j / 3)).svc else if j % 3=1 then .string (O (j / 3)).type else .string (O (j / 3)).field
theorem P3(O:Nat->POwner)(i:Nat):Cy O (i*3)= .int .i64 (O i).svc:=by unfold Cy;rw[Af (by omega),show i*3 / 3=i by omega]
theorem Pz(O:Nat->POwner)(i:Nat):Cy O (i*3+1)= .string (O i).type:=by unfold Cy;rw[Ae (by omega),Af (by omega),show (i*3+1) / 3=i by omega]
theorem PY(O:Nat->POwner)(i:Nat):Cy O (i*3+2)= .string (O i).field:=by unfold Cy;rw[Ae (by omega),Ae (by omega),show (i*3+2) / 3=i by omega]
def et (c:Nat):TypeId:=if c=0 then 113 else 92
def len (c:Nat) (p:PPart):Nat:=if c=0 then p.fs.length else if c=1 then p.os.length else p.hs.length
def ET (c:Nat) (p:PPart):Nat->Value:=if c=0 then B2 (De p) else if c=1 then Cy (D1 p) else Cy (Eg p)
def C5 (L:List PPart) (a:Nat->Nat->Value) (j:Nat):Value:=if j % 4=0 then .string (Ci L (j / 4)).name else a (j % 4 - 1) (j / 4)
theorem Rc(L:List PPart)(a:Nat->Nat->Value)(i:Nat):C5 L a (i*4)= .string (Ci L i).name:=by unfold C5;rw[Af (by omega),show i*4 / 4=i by omega]
theorem Ho(L:List PPart)(a:Nat->Nat->Value)(i c:Nat)(hc:c<3):C5 L a (i*4+1+c)=a c i:=by unfold C5;rw[Ae (by omega),show (i*4+1+c) / 4=i by omega,show (i*4+1+c) % 4 - 1=c by omega]
def Jp (o:POwner):Prop:=BY o.type/\BY o.field/\(Lit.int .i64 o.svc).wf=true
structure GoodP (p:PPart):Prop where
 name:BY p.name
 fs:∀j,j<p.fs.length->IA (De p j)
 os:∀j,j<p.os.length->Jp (D1 p j)
 hs:∀j,j<p.hs.length->Jp (Eg p j)
 len:∀c,len c p<=maxLen
theorem Sl{s:ByteArray}(h:BY s):GoodP (Mv s):=⟨h,λj a=>absurd a (Ak _),λj a=>absurd a (Ak _),λj a=>absurd a (Ak _),λc=>by
  unfold Go.Proofs.YtjjggefmmeminabGreat.len Mv;split
  ·exact Ai _
  ·split<;>exact Ai _⟩
structure Parts (Z:Nat->Prop) (w:World) (v:Value) (L:List PPart) (rv:Nat->Nat->Value):Prop where
 nmax:L.length<=maxLen
 row:B9 w 0 99 4 v L.length (C5 L rv)
 rows:∀c i,c<3->i<L.length->B9 w 0 (et c) 3 (rv c i) (len c (Ci L i)) (ET c (Ci L i))
 apart:∀c i c' i',c<3->i<L.length->c' < 3->i' < L.length->¬(c=c'/\i=i')->∀b,(rv c i).ownBlock=some b->(rv c' i').ownBlock≠some b
 freeV:∀b,v.ownBlock=some b->¬Z b
 free:∀c i,c<3->i<L.length->∀b,(rv c i).ownBlock=some b->¬Z b
 good:∀i,i<L.length->GoodP (Ci L i)
theorem UZ(c:Nat):et c≠99:=by unfold et;split<;>decide
theorem Parts.ne{Z:Nat->Prop}{w:World}{v:Value}{L:List PPart}{a:Nat->Nat->Value}(h:Parts Z w v L a){c i b:Nat}(hc:c<3)(hi:i<L.length)(hb:v.ownBlock=some b):(a c i).ownBlock≠some b :=
 h.row.ne (h.rows c i hc hi) (UZ c).symm hb
theorem Parts.kept{Z:Nat->Prop}{w w':World}{v:Value}{L:List PPart}{d:Nat->Nat->Value}(h:Parts Z w v L d)(hB:Below w.heap.size w w'):Parts (λb=>Z b\/(w.heap.size<=b/\b<w'.heap.size)) w' v L d :=
 ⟨h.nmax,h.row.kept hB,λc i hc hi=>(h.rows c i hc hi).kept hB,h.apart,
  λb hb a=>a.elim (h.freeV b hb) (λa=>by have:=(h.row.lt hb).2;omega),
  λc i hc hi b hb a=>a.elim (h.free c i hc hi b hb) (λa=>by have:=((h.rows c i hc hi).lt hb).2;omega),h.good⟩
theorem Parts.less{Z d:Nat->Prop}{w:World}{v:Value}{L:List PPart}{e:Nat->Nat->Value}(h:Parts Z w v L e)(g:∀b,d b->Z b):Parts d w v L e :=
 ⟨h.nmax,h.row,h.rows,h.apart,λb hb a=>h.freeV b hb (g b a),λc i hc hi b hb a=>h.free c i hc hi b hb (g b a),h.good⟩
theorem Parts.kept'{Z:Nat->Prop}{w w':World}{v:Value}{L:List PPart}{a:Nat->Nat->Value}(h:Parts Z w v L a)(hB:Below w.heap.size w w'):Parts Z w' v L a:=(h.kept hB).less λ_=>.inl
theorem Parts.other{Z:Nat->Prop}{w w':World}{v:Value}{L:List PPart}{d:Nat->Nat->Value}(h:Parts Z w v L d){B:Nat}(hk:∀k,k<w.heap.size->k≠B->w'.heap[k]? = w.heap[k]?)(hB:∀c t z,w.heap[B]? = some (.cells c t z)->t≠99/\t≠113/\t≠92):Parts Z w' v L d:=by
 have g:∀{e size m:Nat} {u:Value} {f : Nat->Value},(e=99\/e=113\/e=92)->B9 w 0 e size u m f->B9 w' 0 e size u m f:=λhe b=>b.at λk a=>hk k (b.lt a).2 λj=>by
  obtain⟨c,hc⟩:=b.obj a;subst j;obtain⟨l,n,o⟩:=hB _ _ _ hc;rcases he with he|he|he
  ·exact l he
  ·exact n he
  ·exact o he
 exact⟨h.nmax,g (.inl rfl) h.row,λc i hc hi=>g (by unfold et;split<;>simp) (h.rows c i hc hi),h.apart,h.freeV,h.free,h.good⟩
theorem Parts.ptr{Z:Nat->Prop}{w:World}{v:Value}{L:List PPart}{a:Nat->Nat->Value}(h:Parts Z w v L a){i:Nat}(hi:i<L.length):∃g cap,v= .slice (some ⟨g,0,none⟩) L.length cap/\L.length<=cap:=by
 rcases h.row.shape with⟨-,h0⟩|⟨g,cap,hv,-,hc,-⟩
 ·omega
 ·exact⟨g,cap,hv,hc⟩
theorem Parts.slice{Z:Nat->Prop}{w:World}{v:Value}{L:List PPart}{b:Nat->Nat->Value}(h:Parts Z w v L b):∃a cap,v= .slice a L.length cap/\L.length<=cap:=h.row.slice
theorem Parts.cells{Z:Nat->Prop}{w:World}{g cap:Nat}{L:List PPart}{a:Nat->Nat->Value}(h:Parts Z w (.slice (some ⟨g,0,none⟩) L.length cap) L a){i:Nat}(hi:i<L.length) :
  w.cell? ⟨g,i*4,none⟩=some (.string (Ci L i).name)/\w.cell? ⟨g,i*4+1,none⟩=some (a 0 i)/\w.cell? ⟨g,i*4+2,none⟩=some (a 1 i)/\w.cell? ⟨g,i*4+3,none⟩=some (a 2 i):=by
 refine⟨?_,?_,?_,?_⟩
 ·rw[h.row.cell (by omega),Rc]
 ·rw[h.row.cell (by omega)];exact congrArg some (Ho L a i 0 (by decide))
 ·rw[h.row.cell (by omega)];exact congrArg some (Ho L a i 1 (by decide))
 ·rw[h.row.cell (by omega)];exact congrArg some (Ho L a i 2 (by decide))
theorem LF(Z:Nat->Prop)(w:World)(a:Nat->Nat->Value):Parts Z w (.slice none 0 0) [] a :=
 ⟨Ai _,A4 _ _ _ _,λc i _ hi=>absurd hi (Ak _),λc i _ _ _ hi=>absurd hi (Ak _),λb hb=>(by cases hb),λc i _ hi=>absurd hi (Ak _),λi hi=>absurd hi (Ak _)⟩
theorem Parts.app{Z:Nat->Prop}{w y:World}{g cap:Nat}{L:List PPart}{n:Nat->Nat->Value}{m:Value}(h:Parts Z w (.slice (some ⟨g,0,none⟩) L.length cap) L n){c t:Nat}(hc:c<3)(o:t<L.length){p':PPart}(hn:p'.name=(Ci L t).name)(ho:∀a,a<3->a≠c->len a p'=len a (Ci L t)/\ET a p'=ET a (Ci L t))(G:∀b,Z b->b<w.heap.size)(hg:w.grownBy y (n c t).ownBlock)(K:B9 y 0 (et c) 3 m (len c p') (ET c p'))(u:m.ownBlock=(n c t).ownBlock\/∃b,m.ownBlock=some b/\w.heap.size<=b)(v:GoodP p') :
  Parts Z (y.setCell ⟨g,t*4+1+c,none⟩ m) (.slice (some ⟨g,0,none⟩) L.length cap) (L.set t p') (λa i=>if a=c/\i=t then m else n a i)/\Keep Z w (y.setCell ⟨g,t*4+1+c,none⟩ m):=by
 have D : ¬Z g:=h.freeV g rfl;have x:∀a i,a<3->i<L.length->(n a i).ownBlock≠some g:=λa i d hi=>h.ne d hi rfl;have z:B9 y 0 99 4 (.slice (some ⟨g,0,none⟩) L.length cap) L.length (C5 L n):=h.row.grown hg (λk hk e=>x c t hc o (by rw[e];exact hk.symm ▸ rfl));have A:m.ownBlock≠some g:=by
  rcases u with e|⟨b,e,hb⟩
  ·rw[e];exact x c t hc o
  ·rw[e];intro l;cases l
   have:=(h.row.lt (k:=g) rfl).2;omega
 have s:∀a i,a<3->i<L.length->¬(a=c/\i=t)->∀b,(n a i).ownBlock=some b->m.ownBlock≠some b:=λa i d hi q b hb e=>by
  rcases u with l|⟨M,l,E⟩
  ·exact h.apart a i c t d hi hc o q b hb (by rw[<-l];exact e)
  ·rw[l]at e;cases e
   have:=((h.rows a i d hi).lt hb).2;omega
 have B:∀b,m.ownBlock=some b->¬Z b:=λb hb H=>by
  rcases u with l|⟨M,l,E⟩
  ·exact h.free c t hc o b (by rw[<-l];exact hb) H
  ·rw[l]at hb;cases hb
   have:=G _ H;omega
 refine⟨⟨by rw[Be];exact h.nmax,?_,λa i d hi=>?_,λc1 F c2 C h1 h2 h3 h4 q b hb=>?_,h.freeV,λa i d hi b hb=>?_,λi hi=>?_⟩,?_⟩
 ·rw[Be]
  refine(z.set (t*4+1+c) m).congr λj O=>?_;unfold C5
  by_cases r:j % 4=0
  ·rw[Ae (by omega),Af r,Af r,Gc o]
   by_cases e:j / 4=t
   ·rw[Af e,hn,e]
   ·rw[Ae e]
  ·rw[Ae r,Ae r]
   show _=(if j % 4 - 1=c/\j / 4=t then m else n (j % 4 - 1) (j / 4))
   by_cases e:j=t*4+1+c
   ·rw[Af e,Af ⟨by omega,by omega⟩]
   ·rw[Ae e,Ae (by omega)]
 ·rw[Be]at hi
  rw[Gc o]
  by_cases e:a=c/\i=t
  ·obtain⟨rfl,rfl⟩:=e
   rw[Af rfl];simp only[and_self,BK];exact K.set_other (p:=⟨g,_,none⟩) A _
  ·rw[Ae e]
   have I:B9 (y.setCell ⟨g,t*4+1+c,none⟩ m) 0 (et a) 3 (n a i) (len a (Ci L i)) (ET a (Ci L i)):=((h.rows a i d hi).grown hg (λk hk=>λl=>h.apart a i c t d hi hc o e k hk l)).set_other (p:=⟨g,_,none⟩) (x a i d hi) _
   by_cases J:i=t
   ·subst J
    rw[Af rfl];obtain⟨N,o2⟩:=ho a d (λl=>e ⟨l,rfl⟩);rw[N,o2];exact I
   ·rw[Ae J];exact I
 ·rw[Be]at h2 h4
  by_cases e1:c1=c/\F=t
  ·rw[Af e1]at hb
   have e2 : ¬(c2=c/\C=t):=λe2=>q ⟨e1.1.trans e2.1.symm,e1.2.trans e2.2.symm⟩;rw[Ae e2];exact λl=>s c2 C h3 h4 e2 b l hb
  ·rw[Ae e1]at hb
   by_cases e2:c2=c/\C=t
   ·rw[Af e2];exact s c1 F h1 h2 e1 b hb
   ·rw[Ae e2];exact h.apart c1 F c2 C h1 h2 h3 h4 q b hb
 ·rw[Be]at hi
  by_cases e:a=c/\i=t
  ·rw[Af e]at hb;exact B b hb
  ·rw[Ae e]at hb;exact h.free a i d hi b hb
 ·rw[Be]at hi
  rw[Gc o]
  by_cases e:i=t
  ·rw[Af e];exact v
  ·rw[Ae e];exact h.good i hi
 ·exact(Keep.grown hg G (λb hb=>h.free c t hc o b hb)).trans (Keep.set _ _ _ D)
theorem Parts.aggs{Z:Nat->Prop}{w:World}{v:Value}{L:List PPart}{a:Nat->Nat->Value}(h:Parts Z w v L a){i:Nat}(hi:i<L.length):∃g cap b c1 c c2 d c3,v= .slice (some ⟨g,0,none⟩) L.length cap/\a 0 i= .slice b (Ci L i).fs.length c1/\a 1 i= .slice c (Ci L i).os.length c2/\a 2 i= .slice d (Ci L i).hs.length c3 /\
  w.cell? ⟨g,i*4,none⟩=some (.string (Ci L i).name)/\w.cell? ⟨g,i*4+1,none⟩=some (.slice b (Ci L i).fs.length c1)/\w.cell? ⟨g,i*4+2,none⟩=some (.slice c (Ci L i).os.length c2)/\w.cell? ⟨g,i*4+3,none⟩=some (.slice d (Ci L i).hs.length c3):=by
 obtain⟨g,cap,rfl,-⟩:=h.ptr hi;obtain⟨l,e,j,k⟩:=h.cells hi;obtain⟨b,c1,e1,-⟩:=(h.rows 0 i (by decide) hi).slice;obtain⟨c,c2,e2,-⟩:=(h.rows 1 i (by decide) hi).slice;obtain⟨d,c3,e3,-⟩:=(h.rows 2 i (by decide) hi).slice;rw[e1]at e;rw[e2]at j;rw[e3]at k;exact⟨g,cap,b,c1,c,c2,d,c3,rfl,e1,e2,e3,l,e,j,k⟩
theorem Tryz.e123:∀args w,(callFunc 123 args).run Tryz.prog w= .ok (.enter 123 args) w:=AN Tryz.func123 (by kernel_rfl) rfl
theorem Tryz.e87:∀args w,(callFunc 87 args).run Tryz.prog w= .ok (.enter 87 args) w:=AN Tryz.func87 (by kernel_rfl) rfl
theorem Tryz.e86:∀args w,(callFunc 86 args).run Tryz.prog w= .ok (.enter 86 args) w:=AN Tryz.func86 (by kernel_rfl) rfl
theorem IJ(a b:ByteArray)(w:World):Calls Tryz.prog 123 #[.string a,.string b] w λe w'=>e= .returned (.int .i64 (Jc a b))/\w'=w:=by
 go_enter Tryz.func123,Tryz.ntmps123
 go_wp2
 rw[run_callFunc_extern Tryz.func144 (by kernel_rfl) (by kernel_rfl) (by kernel_rfl) (e:=Extern.BytealgCompare.compare) (by kernel_rfl),Lib.run_compareString];simp only[Result.andThen];rw[Oper.upon_value]
 go_wp2
 go_ret;exact⟨rfl,rfl⟩
theorem NY(a b:ByteArray)(w:World):Calls Tryz.prog 87 #[.string a,.string b] w λe w'=>e= .returned (.int .i64 (Jc a b))/\w'=w:=by
 have e1:=Tryz.e123
 go_enter Tryz.func87,Tryz.ntmps87
 go_wp2_with fail
 refine(IJ a b w).mono ?_;rintro e w' ⟨rfl,rfl⟩
 go_wp2_with fail
 go_ret;exact⟨rfl,rfl⟩
theorem HJ(a b c:Option Addr)(n1 c1 n2 c2 d c3:Nat)(s name:ByteArray)(w:World) :
  Calls Tryz.prog 86 #[.agg #[.string s,.slice a n1 c1,.slice b n2 c2,.slice c d c3],.string name] w λe w'=>e= .returned (.int .i64 (Jc s name))/\Below w.heap.size w w':=by
 have e1:=Tryz.e87
 go_enter Tryz.func86,Tryz.ntmps86
 go_wp2_with fail
 have hB:=BW w (Obj.cells #[.string s,.slice a n1 c1,.slice b n2 c2,.slice c d c3] 99);refine(NY s name _).mono ?_;rintro e w' ⟨rfl,rfl⟩
 go_wp2_with fail
 go_ret;exact⟨rfl,hB⟩
theorem PP(Z:Nat->Prop)(v:Value)(L:List PPart)(V:Nat->Nat->Value)(name:ByteArray)(w:World)(B:Parts Z w v L V)(M:Ik L)(hm:L.length<=1000) :
  Calls Tryz.prog 85 #[v,.string name,.func (.func 86) #[] #[]] w λe w'=>e= .returned (.tuple #[.int .i64 (pos L name:Nat),.bool (Fx L name)])/\Below w.heap.size w w':=by
 obtain⟨a,cap,rfl,N⟩:=B.slice;have O:=Aa B;have P:=Aa M;have eK:=Tryz.e86;clear B M
 go_enter Tryz.func85,Tryz.ntmps85
 go_wp2_with fail
 go_loopw [9,10] (λi j wr => ∃lo hi:Nat,i= .int .i64 lo/\j= .int .i64 hi/\lo<=hi/\hi<=L.length/\Hid ((∀t,t<lo->lt (Ci L t).name name=true)/\∀t,hi<=t->t<L.length->lt (Ci L t).name name=false)/\Below w.heap.size w wr) (λi j _=>(intOf j).toNat - (intOf i).toNat)
 case atStart=>exact⟨0,L.length,rfl,rfl,Ai _,Aj _,⟨λt q=>absurd q (Ak _),λt h1 h2=>absurd h2 (by omega)⟩,Aq _ _⟩
 case round =>
  obtain⟨lo,hi,rfl,rfl,W,r,z,n⟩:=hrel
  by_cases X:lo<hi
  ·have s:(lo+hi) / 2<L.length:=by omega
   obtain⟨g,u,C,c1,D,c2,E,c3,hv,-,-,-,F,k1,G,H⟩:=(O.out.kept' n).aggs s;cases hv;have b:=HJ C D E (Ci L ((lo+hi) / 2)).fs.length c1 (Ci L ((lo+hi) / 2)).os.length c2 (Ci L ((lo+hi) / 2)).hs.length c3 (Ci L ((lo+hi) / 2)).name name wr;have Y:((lo:Int)+(hi:Int)) / 2=(((lo+hi) / 2:Nat):Int):=by omega
   generalize aa:(lo+hi) / 2=m at *
   go_wp2_with fail
   refine b.mono ?_;clear b;rintro e I ⟨rfl,c⟩;have A:Hid (Below w.heap.size w I):=n.trans (c.mono n.size);clear c F k1 G H n
   cases l:lt (Ci L m).name name with
   |true =>
    have hc:Jc (Ci L m).name name<0:=NS.2 l;have o:Hid ((∀t,t<m+1->lt (Ci L t).name name=true)/\∀t,hi<=t->t<L.length->lt (Ci L t).name name=false):=⟨λt q=>by
     rcases Nat.lt_or_eq_of_le (Nat.le_of_lt_succ q) with h|h
     ·exact I1 (P.out t m h s) l
     ·rw[h];exact l,z.out.2⟩
    clear l;generalize Jc (Ci L m).name name=Q at *
    go_wp2_with fail
    go_roundw
    case rel=>exact⟨m+1,hi,by go_num,rfl,by omega,r,o,A.out⟩
    case measure=>simp[intOf];omega
   |false =>
    have hc : ¬Jc (Ci L m).name name<0:=λh=>by rw[NS.1 h]at l;cases l
    have o:Hid ((∀t,t<lo->lt (Ci L t).name name=true)/\∀t,m<=t->t<L.length->lt (Ci L t).name name=false):=⟨z.out.1,λt q J=>by
     cases h:lt (Ci L t).name name with
     |false=>rfl
     |true =>
      rcases Nat.lt_or_eq_of_le q with x|x
      ·rw[I1 (P.out m t x J) h]at l;cases l
      ·rw[<-x,l]at h;cases h⟩
    clear l;generalize Jc (Ci L m).name name=Q at *
    go_wp2_with fail
    go_roundw
    case rel=>exact⟨lo,m,rfl,by go_num,by omega,by omega,o,A.out⟩
    case measure=>simp[intOf];omega
  ·have K:lo=hi:=by omega
   subst K;have d:pos L name=lo:=Pv r z.out.1 (λh=>z.out.2 lo (Aj _) h);have hh:Fx L name=(decide (lo<L.length)&&eqs (Ci L lo).name name):=by unfold Fx;rw[d]
   have R:=Aa hh;clear hh;have y:=Aa d;clear d
   by_cases p:lo<L.length
   ·obtain⟨g,u,C,c1,D,c2,E,c3,hv,-,-,-,F,k1,G,H⟩:=(O.out.kept' n).aggs p
    cases hv;have b:=HJ C D E (Ci L lo).fs.length c1 (Ci L lo).os.length c2 (Ci L lo).hs.length c3 (Ci L lo).name name wr;have S:(0:Int)<=(lo:Int):=by omega
    have T:(lo:Int)<(L.length:Int):=by omega
    go_wp2_with fail
    refine b.mono ?_;clear b;rintro e I ⟨rfl,c⟩;have A:Hid (Below w.heap.size w I):=n.trans (c.mono n.size);clear c F k1 G H n;have k:Hid (decide (Jc (Ci L lo).name name=0)=Fx L name):=by
     rw[R.out,Bi p,Bool.true_and]
     cases h:eqs (Ci L lo).name name with
     |true=>exact Bi (LH.2 (Ch.1 h))
     |false=>exact AY λx=>by rw[Ch.2 (LH.1 x)]at h;cases h
    generalize Jc (Ci L lo).name name=Q at *
    go_wp2_with fail
    go_ret2
    exact⟨by rw[y.out,<-k.out];rfl,A.out⟩
   ·have U : ¬(lo:Int)<(L.length:Int):=by omega
    have k:Hid (Fx L name=false):=by rw[R.out,AY p];rfl
    go_wp2_with fail
    go_ret2
    exact⟨by rw[y.out,k.out];rfl,n⟩
end Go.Proofs.YtjjggefmmeminabGreat
