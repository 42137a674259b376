import Derived.Test.YtjjggefmmeminabGreatJRc
import Derived.Test.YtjjggefmmeminabGreatGrMem
set_option maxRecDepth 100000
set_option maxHeartbeats 4000000
namespace Go.Proofs.YtjjggefmmeminabGreat
open Go.RowKit Go.Sort Go.PlainAid
def QV:List Oper:=[
 ⟨some 12,.fieldAddr 92 (.tmp 5) 0,0,"gate.go:59",#[],none⟩,
 ⟨some 13,.load 3 (.tmp 12),3,"gate.go:59",#[⟨0,.data⟩],none⟩,
 ⟨some 14,.fieldAddr 92 (.tmp 5) 1,0,"gate.go:59",#[],none⟩,
 ⟨some 15,.load 9 (.tmp 14),9,"gate.go:59",#[⟨2,.data⟩],none⟩,
 ⟨some 16,.move (.tmp 2),65,"gate.go:59",#[],none⟩,
 ⟨some 17,.call { callee := Callee.value (.func 77),args := #[.tmp 16],argTypes := #[65] },65,"gate.go:59",#[⟨4,.data⟩],none⟩,
 ⟨some 18,.move (.tmp 3),65,"gate.go:59",#[],none⟩,
 ⟨some 19,.build 68 #[(0,.tmp 13),(1,.tmp 15),(2,.tmp 17),(3,.tmp 18)],68,"gate.go:59",#[⟨1,.data⟩,⟨3,.data⟩,⟨5,.data⟩,⟨6,.data⟩],none⟩,
 ⟨some 9,.alloc 68,0,"gate.go:59",#[],none⟩,
 ⟨none,.store 68 (.tmp 9) (.tmp 19),0,"gate.go:59",#[⟨8,.data⟩,⟨7,.data⟩,⟨5,.chain⟩,⟨0,.phase⟩,⟨1,.phase⟩,⟨2,.phase⟩,⟨3,.phase⟩,⟨4,.phase⟩,⟨5,.phase⟩,⟨6,.phase⟩,⟨7,.phase⟩,⟨8,.phase⟩],none⟩]
theorem Uw{Q:Exit->Act->World->Prop}{N:Act}{w5:World}(P:Nat->(Nat->Value)->Option Nat->World->Prop){bo kn kc fn fc:Nat}{ka fa:Option Addr}{sv:Int}{ty:ByteArray}(W : [12,13,14,15,16,17,18,19,9].all (λd=>decide (d<N.tmps.size))=true)(s5:B4 N 5= .pointer (some ⟨bo,0,none⟩))(s2:B4 N 2= .slice ka kn kc)(s3:B4 N 3= .slice fa fn fc)(X:∀x o w,P 1 x o w->∃a n c,x 0= .slice a n c)(Y:∀x o w,P 2 x o w->∃a n c,x 0= .slice a n c/\x 1= .agg #[.int .i64 sv,.string ty,x 0,.slice fa fn fc])(Z:∀x,P 0 x none w5.drew)(O:∀j x o w,j<3->P j x o w->w.cell? ⟨bo,0,none⟩=some (.int .i64 sv)/\w.cell? ⟨bo,1,none⟩=some (.string ty))(aa:∀x o w,P 0 x o w->Calls Tryz.prog 77 #[.slice ka kn kc] w λe w' => ∃v,e= .returned v/\(∀L,L 0=v->(∀i,i≠0->L i=x i)->P 1 L o w'))(ab:∀x o w,P 1 x o w->∀L,L 1= .agg #[.int .i64 sv,.string ty,x 0,.slice fa fn fc]->(∀i,i≠1->L i=x i)->P 2 L o w)(ac:∀x b w,P 2 x (some b) w->w.heap[b]? = some (.cells #[.int .i64 0,.string ⟨#[]⟩,.slice none 0 0,.slice none 0 0] 68 (0,0))/\P 3 x (some b) ((((w.setCell ⟨b,0,none⟩ (.int .i64 sv)).setCell ⟨b,1,none⟩ (.string ty)).setCell ⟨b,2,none⟩ (x 0)).setCell ⟨b,3,none⟩ (.slice fa fn fc)))(ad:∀j x w,P j x none w->P j x (some w.heap.size) (w.alloc (.cells #[.int .i64 0,.string ⟨#[]⟩,.slice none 0 0,.slice none 0 0] 68)))(hQ:∀s b w',s 9= .pointer (some ⟨b,0,none⟩)->P 3 (λi=>s ([17,19,0].getD i 0)) (some b) w'->Q .normal (Cn N s [12,13,14,15,16,17,18,19,9]) w') :
  (Code.region 1 QV.toArray true).wp Tryz.prog Q N w5:=by
 refine Cq (by kernel_rfl) (by kernel_rfl) [12,13,14,15,16,17,18,19,9] (by kernel_rfl) W (by kernel_rfl) (λ_=>99) (It [5,7,9,8] [.pointer (some ⟨bo,0,none⟩),.int .i64 sv,.pointer (some ⟨bo,1,none⟩),.string ty,.slice ka kn kc,undef,.slice fa fn fc,undef,undef,undef]) (NZ [5,7,9] [17,19,0] 8 9 P) (NZ.start (Z _)) ?_ ?_
 ·intro A g m r oz l ae F C I q p u
  have D:=z9 ae (by decide);obtain _|r:=r
  ·obtain rfl:=Ab q
   have B:=zF I s5 rfl;refine BU (v:=.pointer (some ⟨bo,0,none⟩)) (w':=m) ?_ ⟨l.read rfl rfl _,rfl,λk _ _ _ h=>h⟩;simp only[execOp,BV,B];go_simp
  obtain _|r:=r
  ·obtain rfl:=Ab q
   have B:g 12= .pointer (some ⟨bo,0,none⟩):=zA C u D 0 (by simp);have hm:A 9=false:=Ce (λh=>F 9 _ h rfl ⟨1,.phase⟩ (by simp) rfl) p;obtain⟨z0,-⟩:=O _ _ _ _ (CS (E:=[5,7,9]) (by simp) hm) l.2;refine BU (v:=.int .i64 sv) (w':=m) ?_ ⟨l.read rfl rfl _,rfl,λk _ _ _ h=>h⟩;simp only[execOp,BV,B];go_simp
  obtain _|r:=r
  ·obtain rfl:=Ab q
   have B:=zF I s5 rfl;refine BU (v:=.pointer (some ⟨bo,1,none⟩)) (w':=m) ?_ ⟨l.read rfl rfl _,rfl,λk _ _ _ h=>h⟩;simp only[execOp,BV,B];go_simp
  obtain _|r:=r
  ·obtain rfl:=Ab q
   have B:g 14= .pointer (some ⟨bo,1,none⟩):=zA C u D 2 (by simp);have hm:A 9=false:=Ce (λh=>F 9 _ h rfl ⟨3,.phase⟩ (by simp) rfl) p;obtain⟨-,z1⟩:=O _ _ _ _ (CS (E:=[5,7,9]) (by simp) hm) l.2;refine BU (v:=.string ty) (w':=m) ?_ ⟨l.read rfl rfl _,rfl,λk _ _ _ h=>h⟩;simp only[execOp,BV,B];go_simp
  obtain _|r:=r
  ·obtain rfl:=Ab q
   have B:=zF I s2 rfl;refine BU (v:=.slice ka kn kc) (w':=m) ?_ ⟨l.read rfl rfl _,rfl,λk _ _ _ h=>h⟩;simp only[execOp,BV,B];go_simp
  obtain _|r:=r
  ·obtain rfl:=Ab q
   have t1:A 7=false:=Ce (λh=>F 7 _ h rfl ⟨5,.data⟩ (by simp) rfl) p;have t2:A 9=false:=Ce (λh=>F 9 _ h rfl ⟨5,.chain⟩ (by simp) rfl) p;have y:DR [5,7,9] A=0:=by simp[DR,p,t1,t2]
   have z:P 0 (λi=>g ([17,19,0].getD i 0)) (Mh 8 9 A g) m:=by
    have h:=l.2;rw[y]at h;exact h
   have B:g 16= .slice ka kn kc:=zA C u D 4 (by simp);have J:∀i,i≠0->([17,19,0]:List Nat).getD i 0≠17:=λi hi=>by
    rcases i with _|_|_|i<;>simp at hi ⊢
   refine CO 77 #[.tmp 16] #[65] rfl (AN Tryz.func77 (by kernel_rfl) rfl) _ (by simp only[AJ,AG,AI,BV,B];first|done|rfl) ((aa _ _ m z).mono λe w' h=>?_)
   obtain⟨v,rfl,hv⟩:=h;exact⟨v,rfl,l.eff (by decide) (by decide) p y (by decide) (Cw (by decide)) (hv _ CJ (λi hi=>Cw (J i hi))),AM,λk _ _ _ h=>h⟩
  obtain _|r:=r
  ·obtain rfl:=Ab q
   have B:=zF I s3 rfl;refine BU (v:=.slice fa fn fc) (w':=m) ?_ ⟨l.read rfl rfl _,rfl,λk _ _ _ h=>h⟩;simp only[execOp,BV,B];go_simp
  obtain _|r:=r
  ·obtain rfl:=Ab q
   have t0:A 5=true:=u ⟨5,.data⟩ (by simp) rfl;have t2:A 9=false:=Ce (λh=>F 9 _ h rfl ⟨7,.data⟩ (by simp) rfl) p;have y:DR [5,7,9] A=1:=by simp[DR,t0,p,t2]
   have z:P 1 (λi=>g ([17,19,0].getD i 0)) (Mh 8 9 A g) m:=by
    have h:=l.2;rw[y]at h;exact h
   have B:g 13= .int .i64 sv:=zA C u D 1 (by simp);have e1:g 15= .string ty:=zA C u D 3 (by simp);have e2:g 18= .slice fa fn fc:=zA C u D 6 (by simp);have K:∀i,i≠1->([17,19,0]:List Nat).getD i 0≠19:=λi hi=>by
    rcases i with _|_|_|i<;>simp at hi ⊢
   refine BU (v:=.agg #[.int .i64 sv,.string ty,g 17,.slice fa fn fc]) (w':=m) ?_ ⟨l.eff (by decide) (by decide) p y (by decide) (Cw (by decide)) (ab _ _ m z _ CJ (λi hi=>Cw (K i hi))),AM,λk _ _ _ h=>h⟩;obtain⟨R,S,T,M⟩:=X _ _ _ z;have U:g 17= .slice R S T:=M;rw[U];simp only[execOp,BV];go_simp
  obtain _|r:=r
  ·obtain rfl:=Ab q
   refine BU (v:=.pointer (some ⟨m.heap.size,0,none⟩)) (w':=m.alloc (.cells #[.int .i64 0,.string ⟨#[]⟩,.slice none 0 0,.slice none 0 0] 68)) ?_ ⟨l.alloc p rfl rfl (λj x h=>ad j x m h),AM,λk _ _ _ h=>h⟩;simp only[execOp];go_simp
  obtain _|r:=r
  ·obtain rfl:=Ab q
   have t0:A 5=true:=u ⟨5,.chain⟩ (by simp) rfl;have t1:A 7=true:=u ⟨7,.data⟩ (by simp) rfl;have y:DR [5,7,9] A=2:=by simp[DR,t0,t1,p]
   have z:P 2 (λi=>g ([17,19,0].getD i 0)) (Mh 8 9 A g) m:=by
    have h:=l.2;rw[y]at h;exact h
   have G:A 8=true:=u ⟨8,.data⟩ (by simp) rfl;obtain⟨b,hb⟩:=l.1 G;rw[FN G hb]at z;obtain⟨q3,V⟩:=ac _ b m z;obtain⟨x0,x1,x2,x3⟩:m.cell? ⟨b,0,none⟩=some (.int .i64 0)/\m.cell? ⟨b,1,none⟩=some (.string ⟨#[]⟩)/\m.cell? ⟨b,2,none⟩=some (.slice none 0 0)/\m.cell? ⟨b,3,none⟩=some (.slice none 0 0):=by simp[World.cell?,q3]
   obtain⟨y0,y1,y2,y3⟩:m.frozen? ⟨b,0,none⟩=false/\m.frozen? ⟨b,1,none⟩=false/\m.frozen? ⟨b,2,none⟩=false/\m.frozen? ⟨b,3,none⟩=false:=by simp[World.frozen?,q3]
   obtain⟨R,S,T,M,hx8⟩:=Y _ _ _ z;have U:g 17= .slice R S T:=M;have ex2:g 19= .agg #[.int .i64 sv,.string ty,.slice R S T,.slice fa fn fc]:=by
    have h8:g 19= .agg #[.int .i64 sv,.string ty,g 17,.slice fa fn fc]:=hx8;rw[h8,U]
   replace V:P 3 _ _ ((((m.setCell ⟨b,0,none⟩ (.int .i64 sv)).setCell ⟨b,1,none⟩ (.string ty)).setCell ⟨b,2,none⟩ (g 17)).setCell ⟨b,3,none⟩ (.slice fa fn fc)):=V;rw[U]at V;refine CV (w':=_) ?_ ⟨l.eff (by decide) (by decide) p y (by decide) (rfl) (by rw[FN G hb];exact V),AM,λk _ _ _ h=>h⟩;simp only[execOp,BV,hb,ex2];go_simp
  ·exfalso
   have hlen:r+10<10:=(List.getElem?_eq_some_iff.1 q).1;omega
 ·intro A g m l _ H _
  obtain⟨b,hb⟩:=l.1 (H 8 (by decide));have h:=l.2;rw[FN (H 8 (by decide)) hb]at h;rw[EW (λe he=>by simp at he;rcases he with rfl|rfl|rfl<;>exact H _ (by decide))]at h
  exact hQ g b m hb h
def Q9:List Oper:=[
 ⟨some 20,.move (.tmp 0),121,"gate.go:60",#[],none⟩,
 ⟨some 21,.move (.tmp 0),121,"gate.go:60",#[],none⟩,
 ⟨some 22,.nilCheck (.tmp 21),0,"gate.go:60",#[⟨1,.data⟩],none⟩,
 ⟨some 23,.fieldAddr 58 (.tmp 22) 2,0,"gate.go:60",#[⟨2,.data⟩],none⟩,
 ⟨some 24,.load 32 (.tmp 23),32,"gate.go:60",#[⟨3,.data⟩],none⟩,
 ⟨some 25,.load 68 (.tmp 9),68,"gate.go:60",#[],none⟩,
 ⟨some 26,.buildSlice 32 1 #[(0,.tmp 25)],32,"gate.go:60",#[⟨5,.data⟩],none⟩,
 ⟨some 27,.call { callee := Callee.builtin Builtin.append,args := #[.tmp 24,.tmp 26],argTypes := #[32,32] },32,"gate.go:60",#[⟨4,.data⟩,⟨6,.data⟩],none⟩,
 ⟨some 28,.nilCheck (.tmp 20),0,"gate.go:60",#[⟨0,.data⟩,⟨0,.phase⟩,⟨1,.phase⟩,⟨2,.phase⟩,⟨3,.phase⟩,⟨4,.phase⟩,⟨5,.phase⟩,⟨6,.phase⟩,⟨7,.phase⟩],none⟩,
 ⟨some 29,.fieldAddr 58 (.tmp 28) 2,0,"gate.go:60",#[⟨8,.data⟩,⟨0,.phase⟩,⟨1,.phase⟩,⟨2,.phase⟩,⟨3,.phase⟩,⟨4,.phase⟩,⟨5,.phase⟩,⟨6,.phase⟩,⟨7,.phase⟩],none⟩,
 ⟨none,.store 32 (.tmp 29) (.tmp 27),0,"gate.go:60",#[⟨9,.data⟩,⟨7,.data⟩,⟨7,.chain⟩,⟨0,.phase⟩,⟨1,.phase⟩,⟨2,.phase⟩,⟨3,.phase⟩,⟨4,.phase⟩,⟨5,.phase⟩,⟨6,.phase⟩,⟨7,.phase⟩],none⟩]
theorem Ux{Q:Exit->Act->World->Prop}{H:Act}{Y:World}(P:Nat->(Nat->Value)->World->Prop){bg bq kn kc fn fc rn rc:Nat}{ka fa ra:Option Addr}{sv:Int}{ty:ByteArray}(L : [20,21,22,23,24,25,26,27,28,29].all (λd=>decide (d<H.tmps.size))=true)(s0:B4 H 0= .pointer (some ⟨bg,0,none⟩))(s9:B4 H 9= .pointer (some ⟨bq,0,none⟩))(M:∀x,P 0 x Y.drew)(I:∀j x w,j<3->P j x w->w.cell? ⟨bg,2,none⟩=some (.slice ra rn rc)/\w.cell? ⟨bq,0,none⟩=some (.int .i64 sv)/\w.cell? ⟨bq,1,none⟩=some (.string ty)/\w.cell? ⟨bq,2,none⟩=some (.slice ka kn kc)/\w.cell? ⟨bq,3,none⟩=some (.slice fa fn fc))(N:∀x w,P 0 x w->∀D,D 0= .slice (some ⟨w.heap.size,0,none⟩) 1 1->(∀i,i≠0->D i=x i)->P 1 D (w.alloc (.cells #[.int .i64 sv,.string ty,.slice ka kn kc,.slice fa fn fc] 68)))(O:∀x w,P 1 x w->∀ty,∃v w',(Builtin.append_ #[32,32] ty #[.slice ra rn rc,x 0]).run Tryz.prog w= .ok v w'/\(∀D,D 1=v->(∀i,i≠1->D i=x i)->P 2 D w'))(R:∀x w,P 2 x w->∃va vn vc u,x 1= .slice va vn vc/\w.cell? ⟨bg,2,none⟩=some u/\w.frozen? ⟨bg,2,none⟩=false/\P 3 x (w.setCell ⟨bg,2,none⟩ (x 1)))(hQ:∀s w',P 3 (λi=>s ([26,27,0].getD i 0)) w'->Q .normal (Cn H s [20,21,22,23,24,25,26,27,28,29]) w') :
  (Code.region 2 Q9.toArray true).wp Tryz.prog Q H Y:=by
 refine Cq (by kernel_rfl) (by kernel_rfl) [20,21,22,23,24,25,26,27,28,29] (by kernel_rfl) L (by kernel_rfl) (λ_=>99) (It [6,7,10] [.pointer (some ⟨bg,0,none⟩),.pointer (some ⟨bg,0,none⟩),.pointer (some ⟨bg,0,none⟩),.pointer (some ⟨bg,2,none⟩),.slice ra rn rc,.agg #[.int .i64 sv,.string ty,.slice ka kn kc,.slice fa fn fc],undef,undef,.pointer (some ⟨bg,0,none⟩),.pointer (some ⟨bg,2,none⟩),undef]) (DS [6,7,10] [26,27,0] P) (DS.start (M _)) ?_ ?_
 ·intro r a y g oz b S z o F c l m
  have p:=z9 S (by decide);obtain _|g:=g
  ·obtain rfl:=Ab c
   have n:=zF F s0 rfl;refine zr (.pointer (some ⟨bg,0,none⟩)) rfl rfl rfl rfl b ?_;simp only[execOp,BV,n];go_simp
  obtain _|g:=g
  ·obtain rfl:=Ab c
   have n:=zF F s0 rfl;refine zr (.pointer (some ⟨bg,0,none⟩)) rfl rfl rfl rfl b ?_;simp only[execOp,BV,n];go_simp
  obtain _|g:=g
  ·obtain rfl:=Ab c
   have n:a 21= .pointer (some ⟨bg,0,none⟩):=zA o m p 1 (by simp);refine zr (.pointer (some ⟨bg,0,none⟩)) rfl rfl rfl rfl b ?_;simp only[execOp,BV,n];go_simp
  obtain _|g:=g
  ·obtain rfl:=Ab c
   have n:a 22= .pointer (some ⟨bg,0,none⟩):=zA o m p 2 (by simp);refine zr (.pointer (some ⟨bg,2,none⟩)) rfl rfl rfl rfl b ?_;simp only[execOp,BV,n];go_simp
  obtain _|g:=g
  ·obtain rfl:=Ab c
   have n:a 23= .pointer (some ⟨bg,2,none⟩):=zA o m p 3 (by simp);have T:r 10=false:=Ce (λh=>z 10 _ h rfl ⟨4,.phase⟩ (by simp) rfl) l;obtain⟨z0,-,-,-,-⟩:=I _ _ _ (CS (E:=[6,7,10]) (by simp) T) b;refine zr (.slice ra rn rc) rfl rfl rfl rfl b ?_;simp only[execOp,BV,n];go_simp
  obtain _|g:=g
  ·obtain rfl:=Ab c
   have n:=zF F s9 rfl;have T:r 10=false:=Ce (λh=>z 10 _ h rfl ⟨5,.phase⟩ (by simp) rfl) l;obtain⟨-,z1,z2,z3,z4⟩:=I _ _ _ (CS (E:=[6,7,10]) (by simp) T) b;refine zr (.agg #[.int .i64 sv,.string ty,.slice ka kn kc,.slice fa fn fc]) rfl rfl rfl rfl b ?_;simp only[execOp,BV,n];go_simp
  obtain _|g:=g
  ·obtain rfl:=Ab c
   have U:r 7=false:=Ce (λh=>z 7 _ h rfl ⟨6,.data⟩ (by simp) rfl) l;have V:r 10=false:=Ce (λh=>z 10 _ h rfl ⟨6,.phase⟩ (by simp) rfl) l;have q:DR [6,7,10] r=0:=by simp[DR,l,U,V]
   have A:P 0 (λi=>a ([26,27,0].getD i 0)) y:=by
    have h:=b;unfold DS at h;rw[q]at h;exact h
   have n:a 25= .agg #[.int .i64 sv,.string ty,.slice ka kn kc,.slice fa fn fc]:=zA o m p 5 (by simp);have B:∀i,i≠0->([26,27,0]:List Nat).getD i 0≠26:=λi hi=>by
    rcases i with _|_|_|i<;>simp at hi ⊢
   refine BU (v:=.slice (some ⟨y.heap.size,0,none⟩) 1 1) (w':=y.alloc (.cells #[.int .i64 sv,.string ty,.slice ka kn kc,.slice fa fn fc] 68)) ?_ ⟨DS.eff (by decide) (by decide) l q (N _ y A _ CJ (λi hi=>Cw (B i hi))),AM,λk _ _ _ h=>h⟩;simp only[execOp,AJ,AG,AI,BV,n];go_simp
  obtain _|g:=g
  ·obtain rfl:=Ab c
   have W:r 6=true:=m ⟨6,.data⟩ (by simp) rfl;have V:r 10=false:=Ce (λh=>z 10 _ h rfl ⟨7,.data⟩ (by simp) rfl) l;have q:DR [6,7,10] r=1:=by simp[DR,W,l,V]
   have A:P 1 (λi=>a ([26,27,0].getD i 0)) y:=by
    have h:=b;unfold DS at h;rw[q]at h;exact h
   have n:a 24= .slice ra rn rc:=zA o m p 4 (by simp);have C:∀i,i≠1->([26,27,0]:List Nat).getD i 0≠27:=λi hi=>by
    rcases i with _|_|_|i<;>simp at hi ⊢
   obtain⟨v,w',K,G⟩:=O _ y A 32;replace K:(Builtin.append_ #[32,32] 32 #[.slice ra rn rc,a 26]).run Tryz.prog y= .ok v w':=K;refine BU (v:=v) (w':=w') ?_ ⟨DS.eff (by decide) (by decide) l q (G _ CJ (λi hi=>Cw (C i hi))),AM,λk _ _ _ h=>h⟩;simp only[execOp,resolve,invoke,builtin,Sem.run_bind,Sem.run_pure,Result.andThen_ok,AJ,AG,AI,BV,n]
   first|(rw[K];rfl)|(simp[K,Result.andThen])
  obtain _|g:=g
  ·obtain rfl:=Ab c
   have n:a 20= .pointer (some ⟨bg,0,none⟩):=zA o m p 0 (by simp);refine zr (.pointer (some ⟨bg,0,none⟩)) rfl rfl rfl rfl b ?_;simp only[execOp,BV,n];go_simp
  obtain _|g:=g
  ·obtain rfl:=Ab c
   have n:a 28= .pointer (some ⟨bg,0,none⟩):=zA o m p 8 (by simp);refine zr (.pointer (some ⟨bg,2,none⟩)) rfl rfl rfl rfl b ?_;simp only[execOp,BV,n];go_simp
  obtain _|g:=g
  ·obtain rfl:=Ab c
   have W:r 6=true:=m ⟨6,.phase⟩ (by simp) rfl;have U:r 7=true:=m ⟨7,.data⟩ (by simp) rfl;have q:DR [6,7,10] r=2:=by simp[DR,W,U,l]
   have A:P 2 (λi=>a ([26,27,0].getD i 0)) y:=by
    have h:=b;unfold DS at h;rw[q]at h;exact h
   have n:a 29= .pointer (some ⟨bg,2,none⟩):=zA o m p 9 (by simp);obtain⟨va,vn,vc,u,X,hu,hfz,G⟩:=R _ y A;have Z:a 27= .slice va vn vc:=X;replace G:P 3 _ (y.setCell ⟨bg,2,none⟩ (a 27)):=G;rw[Z]at G;refine CV (w':=_) ?_ ⟨DS.eff (by decide) (by decide) l q G,AM,λk _ _ _ h=>h⟩;simp only[execOp,BV,n,Z];go_simp
  ·exfalso
   have aa:g+11<11:=(List.getElem?_eq_some_iff.1 c).1;omega
 ·intro r a y b _ J _
  have h:=b;unfold DS at h;rw[EW (λe he=>by simp at he;rcases he with rfl|rfl|rfl<;>exact J _ (by decide))]at h
  exact hQ a y h
def UQ (v:Value):Value:=match v with
 | .agg a=>a.getD 0 undef
 | _=>undef
def UT (v:Value):Value:=match v with
 | .agg a=>a.getD 1 undef
 | _=>undef
def RZ:List Oper:=[
 ⟨some 31,.move (.tmp 0),121,"gate.go:61",#[],none⟩,
 ⟨some 32,.nilCheck (.tmp 31),0,"gate.go:61",#[⟨0,.data⟩],none⟩,
 ⟨some 33,.fieldAddr 58 (.tmp 32) 0,0,"gate.go:61",#[⟨1,.data⟩],none⟩,
 ⟨some 34,.load 22 (.tmp 33),22,"gate.go:61",#[⟨2,.data⟩],none⟩,
 ⟨some 35,.load 68 (.tmp 9),68,"gate.go:61",#[],none⟩,
 { dst := some 36, op := Op.call { callee := Callee.value (Operand.func 78), args := #[Operand.tmp 34, Operand.tmp 35], argTypes := #[22, 68] }, type := 169, pos := "gate.go:61", after := #[⟨3, .data⟩, ⟨4, .data⟩], guard := none },
 { dst := some 30, op := Op.move (Operand.tmp 36), type := 169, pos := "gate.go:61", after := #[⟨5, .data⟩], guard := none },
 ⟨some 37,.extract (.tmp 30) 0,127,"gate.go:61",#[⟨6,.data⟩],none⟩,
 ⟨some 38,.extract (.tmp 30) 1,27,"gate.go:61",#[⟨6,.data⟩,{ on := 10,ground := Ground.gcOnly Departure.lateStores }],none⟩,
 ⟨some 10,.alloc 127,0,"gate.go:61",#[],none⟩,
 ⟨none,.store 127 (.tmp 10) (.tmp 37),0,"gate.go:61",#[⟨9,.data⟩,⟨7,.data⟩,⟨5,.chain⟩,⟨0,.phase⟩,⟨1,.phase⟩,⟨2,.phase⟩,⟨3,.phase⟩,⟨4,.phase⟩,⟨5,.phase⟩,⟨6,.phase⟩,⟨7,.phase⟩,{ on := 8,ground := Ground.textOnly Departure.lateStores },⟨9,.phase⟩],none⟩,
 ⟨some 11,.assign (.tmp 38),27,"gate.go:61",#[⟨8,.data⟩,⟨10,.chain⟩,⟨0,.phase⟩,⟨1,.phase⟩,⟨2,.phase⟩,⟨3,.phase⟩,⟨4,.phase⟩,⟨5,.phase⟩,⟨6,.phase⟩,⟨7,.phase⟩,⟨8,.phase⟩,⟨9,.phase⟩,⟨10,.phase⟩],none⟩]
theorem Uv{Q:Exit->Act->World->Prop}{O:Act}{w5:World}(P:Nat->(Nat->Value)->Option Nat->World->Prop){bg bq kn kc fn fc n cap:Nat}{ka fa la:Option Addr}{sv:Int}{ty:ByteArray}(hsz : [31,32,33,34,35,36,30,37,38,10,11].all (λd=>decide (d<O.tmps.size))=true)(s0:B4 O 0= .pointer (some ⟨bg,0,none⟩))(s9:B4 O 9= .pointer (some ⟨bq,0,none⟩))(hX:∀j x o w,2<=j->P j x o w->∃y,x 1= .tuple #[y,.int .i64 0])(hX3:∀x o w,P 3 x o w->∃fa fn fc va vn vc,x 2= .agg #[.slice fa fn fc,.slice va vn vc])(hP0:∀x,P 0 x none w5.drew)(R:∀j x o w,j<4->P j x o w->w.cell? ⟨bg,0,none⟩=some (.slice la n cap)/\w.cell? ⟨bq,0,none⟩=some (.int .i64 sv)/\w.cell? ⟨bq,1,none⟩=some (.string ty)/\w.cell? ⟨bq,2,none⟩=some (.slice ka kn kc)/\w.cell? ⟨bq,3,none⟩=some (.slice fa fn fc))(he0:∀x o w,P 0 x o w->Calls Tryz.prog 78 #[.slice la n cap,.agg #[.int .i64 sv,.string ty,.slice ka kn kc,.slice fa fn fc]] w λe w' => ∃v,e= .returned v/\(∀F,F 0=v->(∀i,i≠0->F i=x i)->P 1 F o w'))(he1:∀x o w,P 1 x o w->∀F,F 1=x 0->(∀i,i≠1->F i=x i)->P 2 F o w)(he2:∀x o w,P 2 x o w->∃fa fn fc va vn vc,x 1= .tuple #[.agg #[.slice fa fn fc,.slice va vn vc],.int .i64 0]/\∀F,F 2= .agg #[.slice fa fn fc,.slice va vn vc]->(∀i,i≠2->F i=x i)->P 3 F o w)(he3:∀x b w,P 3 x (some b) w->w.heap[b]? = some (.cells #[.slice none 0 0,.slice none 0 0] 127 (0,0))/\P 4 x (some b) ((w.setCell ⟨b,0,none⟩ (UQ (x 2))).setCell ⟨b,1,none⟩ (UT (x 2))))(hal:∀j x w,P j x none w->P j x (some w.heap.size) (w.alloc (.cells #[.slice none 0 0,.slice none 0 0] 127)))(hQ:∀s b w',s 10= .pointer (some ⟨b,0,none⟩)->P 4 (λi=>s ([36,30,37,0].getD i 0)) (some b) w'->Q .normal (Cn O s [31,32,33,34,35,36,30,37,38,10,11]) w') :
  (Code.region 3 RZ.toArray true).wp Tryz.prog Q O w5:=by
 refine Cq (by kernel_rfl) (by kernel_rfl) [31,32,33,34,35,36,30,37,38,10,11] (by kernel_rfl) hsz (by kernel_rfl) (λ_=>99) (It [5,6,7,10,9] [.pointer (some ⟨bg,0,none⟩),.pointer (some ⟨bg,0,none⟩),.pointer (some ⟨bg,0,none⟩),.slice la n cap,.agg #[.int .i64 sv,.string ty,.slice ka kn kc,.slice fa fn fc],undef,undef,undef,.int .i64 0,undef,undef,.int .i64 0]) (NZ [5,6,7,10] [36,30,37,0] 9 10 P) (NZ.start (hP0 _)) ?_ ?_
 ·intro m c p u oz a hLz z B S q g l
  have C:=z9 hLz (by decide);obtain _|u:=u
  ·obtain rfl:=Ab q
   have D:=zF S s0 rfl;refine BU (v:=.pointer (some ⟨bg,0,none⟩)) (w':=p) ?_ ⟨a.read rfl rfl _,rfl,λk _ _ _ h=>h⟩;simp only[execOp,BV,D];go_simp
  obtain _|u:=u
  ·obtain rfl:=Ab q
   have D:c 31= .pointer (some ⟨bg,0,none⟩):=zA B l C 0 (by simp);refine BU (v:=.pointer (some ⟨bg,0,none⟩)) (w':=p) ?_ ⟨a.read rfl rfl _,rfl,λk _ _ _ h=>h⟩;simp only[execOp,BV,D];go_simp
  obtain _|u:=u
  ·obtain rfl:=Ab q
   have D:c 32= .pointer (some ⟨bg,0,none⟩):=zA B l C 1 (by simp);refine BU (v:=.pointer (some ⟨bg,0,none⟩)) (w':=p) ?_ ⟨a.read rfl rfl _,rfl,λk _ _ _ h=>h⟩;simp only[execOp,BV,D];go_simp
  obtain _|u:=u
  ·obtain rfl:=Ab q
   have D:c 33= .pointer (some ⟨bg,0,none⟩):=zA B l C 2 (by simp);have hm:m 10=false:=Ce (λh=>z 10 _ h rfl ⟨3,.phase⟩ (by simp) rfl) g;obtain⟨z0,-,-,-,-⟩:=R _ _ _ _ (CS (E:=[5,6,7,10]) (by simp) hm) a.2;refine BU (v:=.slice la n cap) (w':=p) ?_ ⟨a.read rfl rfl _,rfl,λk _ _ _ h=>h⟩;simp only[execOp,BV,D];go_simp
  obtain _|u:=u
  ·obtain rfl:=Ab q
   have D:=zF S s9 rfl;have hm:m 10=false:=Ce (λh=>z 10 _ h rfl ⟨4,.phase⟩ (by simp) rfl) g;obtain⟨-,z1,z2,z3,z4⟩:=R _ _ _ _ (CS (E:=[5,6,7,10]) (by simp) hm) a.2;refine BU (v:=.agg #[.int .i64 sv,.string ty,.slice ka kn kc,.slice fa fn fc]) (w':=p) ?_ ⟨a.read rfl rfl _,rfl,λk _ _ _ h=>h⟩;simp only[execOp,BV,D];go_simp
  obtain _|u:=u
  ·obtain rfl:=Ab q
   have T:m 6=false:=Ce (λh=>z 6 _ h rfl ⟨5,.data⟩ (by simp) rfl) g;have U:m 7=false:=Ce (λh=>z 7 _ h rfl ⟨6,.data⟩ (by simp) rfl) (Ce (λh=>z 6 _ h rfl ⟨5,.data⟩ (by simp) rfl) g);have V:m 10=false:=Ce (λh=>z 10 _ h rfl ⟨5,.chain⟩ (by simp) rfl) g;have r:DR [5,6,7,10] m=0:=by simp[DR,g,T,U,V]
   have A:P 0 (λi=>c ([36,30,37,0].getD i 0)) (Mh 9 10 m c) p:=by
    have h:=a.2;rw[r]at h;exact h
   have D:c 34= .slice la n cap:=zA B l C 3 (by simp);have e1:c 35= .agg #[.int .i64 sv,.string ty,.slice ka kn kc,.slice fa fn fc]:=zA B l C 4 (by simp);have I:∀i,i≠0->([36,30,37,0]:List Nat).getD i 0≠36:=λi hi=>by
    rcases i with _|_|_|_|i<;>simp at hi ⊢
   refine CO 78 #[.tmp 34,.tmp 35] #[22,68] rfl (AN Tryz.func78 (by kernel_rfl) rfl) _ (by simp only[AJ,AG,AI,BV,D,e1];first|done|rfl) ((he0 _ _ p A).mono λe w' h=>?_)
   obtain⟨v,rfl,hv⟩:=h;exact⟨v,rfl,a.eff (by decide) (by decide) g r (by decide) (Cw (by decide)) (hv _ CJ (λi hi=>Cw (I i hi))),AM,λk _ _ _ h=>h⟩
  obtain _|u:=u
  ·obtain rfl:=Ab q
   have W:m 5=true:=l ⟨5,.data⟩ (by simp) rfl;have U:m 7=false:=Ce (λh=>z 7 _ h rfl ⟨6,.data⟩ (by simp) rfl) g;have V:m 10=false:=Ce (λh=>z 10 _ h rfl ⟨6,.phase⟩ (by simp) rfl) g;have r:DR [5,6,7,10] m=1:=by simp[DR,W,g,U,V]
   have A:P 1 (λi=>c ([36,30,37,0].getD i 0)) (Mh 9 10 m c) p:=by
    have h:=a.2;rw[r]at h;exact h
   have J:∀i,i≠1->([36,30,37,0]:List Nat).getD i 0≠30:=λi hi=>by
    rcases i with _|_|_|_|i<;>simp at hi ⊢
   refine BU (v:=c 36) (w':=p) ?_ ⟨a.eff (by decide) (by decide) g r (by decide) (Cw (by decide)) (he1 _ _ p A _ CJ (λi hi=>Cw (J i hi))),AM,λk _ _ _ h=>h⟩;rfl
  obtain _|u:=u
  ·obtain rfl:=Ab q
   have W:m 5=true:=z 6 _ (l ⟨6,.data⟩ (by simp) rfl) rfl ⟨5,.data⟩ (by simp) rfl;have T:m 6=true:=l ⟨6,.data⟩ (by simp) rfl;have V:m 10=false:=Ce (λh=>z 10 _ h rfl ⟨7,.data⟩ (by simp) rfl) g;have r:DR [5,6,7,10] m=2:=by simp[DR,W,T,g,V]
   have A:P 2 (λi=>c ([36,30,37,0].getD i 0)) (Mh 9 10 m c) p:=by
    have h:=a.2;rw[r]at h;exact h
   have K:∀i,i≠2->([36,30,37,0]:List Nat).getD i 0≠37:=λi hi=>by
    rcases i with _|_|_|_|i<;>simp at hi ⊢
   obtain⟨f1,X,Y,Z,f5,f6,L,M⟩:=he2 _ _ p A;have N:c 30= .tuple #[.agg #[.slice f1 X Y,.slice Z f5 f6],.int .i64 0]:=L;refine BU (v:=.agg #[.slice f1 X Y,.slice Z f5 f6]) (w':=p) ?_ ⟨a.eff (by decide) (by decide) g r (by decide) (Cw (by decide)) (M _ CJ (λi hi=>Cw (K i hi))),AM,λk _ _ _ h=>h⟩;simp only[execOp,BV,N];go_simp
  obtain _|u:=u
  ·obtain rfl:=Ab q
   have t6:m 6=true:=l ⟨6,.data⟩ (by simp) rfl;have t5:m 5=true:=z 6 _ t6 rfl ⟨5,.data⟩ (by simp) rfl;have r:2<=DR [5,6,7,10] m:=by
    simp only[DR,List.filter_cons,t5,t6,BK,AP];omega
   obtain⟨y,hy⟩:=hX _ _ _ _ r a.2;have N:c 30= .tuple #[y,.int .i64 0]:=hy;refine BU (v:=.int .i64 0) (w':=p) ?_ ⟨a.read rfl rfl _,rfl,λk _ _ _ h=>h⟩;simp only[execOp,BV,N];go_simp
  obtain _|u:=u
  ·obtain rfl:=Ab q
   refine BU (v:=.pointer (some ⟨p.heap.size,0,none⟩)) (w':=p.alloc (.cells #[.slice none 0 0,.slice none 0 0] 127)) ?_ ⟨a.alloc g rfl rfl (λj x h=>hal j x p h),AM,λk _ _ _ h=>h⟩;simp only[execOp];go_simp
  obtain _|u:=u
  ·obtain rfl:=Ab q
   have W:m 5=true:=l ⟨5,.chain⟩ (by simp) rfl;have T:m 6=true:=l ⟨6,.phase⟩ (by simp) rfl;have U:m 7=true:=l ⟨7,.data⟩ (by simp) rfl;have r:DR [5,6,7,10] m=3:=by simp[DR,W,T,U,g]
   have A:P 3 (λi=>c ([36,30,37,0].getD i 0)) (Mh 9 10 m c) p:=by
    have h:=a.2;rw[r]at h;exact h
   have G:m 9=true:=l ⟨9,.data⟩ (by simp) rfl;obtain⟨b,hb⟩:=a.1 G;rw[FN G hb]at A;obtain⟨q3,M⟩:=he3 _ b p A;obtain⟨x0,x1⟩:p.cell? ⟨b,0,none⟩=some (.slice none 0 0)/\p.cell? ⟨b,1,none⟩=some (.slice none 0 0):=by simp[World.cell?,q3]
   obtain⟨y0,y1⟩:p.frozen? ⟨b,0,none⟩=false/\p.frozen? ⟨b,1,none⟩=false:=by simp[World.frozen?,q3]
   obtain⟨f1,X,Y,Z,f5,f6,L⟩:=hX3 _ _ _ A;have N:c 37= .agg #[.slice f1 X Y,.slice Z f5 f6]:=L;replace M:P 4 _ _ ((p.setCell ⟨b,0,none⟩ (UQ (c 37))).setCell ⟨b,1,none⟩ (UT (c 37))):=M;rw[N]at M;refine CV (w':=_) ?_ ⟨a.eff (by decide) (by decide) g r (by decide) (rfl) (by rw[FN G hb];exact M),AM,λk _ _ _ h=>h⟩;simp only[execOp,BV,hb,N];go_simp;rfl
  obtain _|u:=u
  ·obtain rfl:=Ab q
   have D:c 38= .int .i64 0:=zA B l C 8 (by simp);refine BU (v:=.int .i64 0) (w':=p) ?_ ⟨a.read rfl rfl _,rfl,λk _ _ _ h=>h⟩;simp only[execOp,BV,D];go_simp
  ·exfalso
   have hlen:u+12<12:=(List.getElem?_eq_some_iff.1 q).1;omega
 ·intro m c p a _ H _
  obtain⟨b,hb⟩:=a.1 (H 9 (by decide));have h:=a.2;rw[FN (H 9 (by decide)) hb]at h;rw[EW (λe he=>by simp at he;rcases he with rfl|rfl|rfl|rfl<;>exact H _ (by decide))]at h
  exact hQ c b p hb h
end Go.Proofs.YtjjggefmmeminabGreat
