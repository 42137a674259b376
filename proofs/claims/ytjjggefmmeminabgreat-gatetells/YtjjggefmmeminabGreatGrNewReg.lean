import Derived.Test.YtjjggefmmeminabGreatJRc
import Derived.Test.YtjjggefmmeminabGreatGrMem
set_option maxRecDepth 100000
set_option maxHeartbeats 4000000
namespace Go.Proofs.YtjjggefmmeminabGreat
open Go.RowKit Go.Sort Go.PlainAid
def PJ:List Oper:=[
 ⟨some 24,.fieldAddr 63 (.tmp 5) 0,0,"list.go:38",#[],none⟩,
 ⟨some 25,.load 59 (.tmp 24),59,"list.go:38",#[⟨0,.data⟩],none⟩,
 ⟨some 26,.load 72 (.tmp 7),72,"list.go:38",#[],none⟩,
 ⟨some 27,.call { callee := Callee.value (.func 67),args := #[.tmp 26],argTypes := #[72] },9,"list.go:38",#[⟨2,.data⟩],none⟩,
 ⟨some 28,.fieldAddr 72 (.tmp 7) 2,0,"list.go:38",#[],none⟩,
 ⟨some 29,.load 23 (.tmp 28),23,"list.go:38",#[⟨4,.data⟩],none⟩,
 ⟨some 30,.fieldAddr 99 (.tmp 2) 0,0,"list.go:38",#[],none⟩,
 ⟨some 31,.fieldAddr 96 (.tmp 30) 1,0,"list.go:38",#[⟨6,.data⟩],none⟩,
 ⟨some 32,.load 94 (.tmp 31),94,"list.go:38",#[⟨7,.data⟩],none⟩,
 ⟨some 33,.move (.tmp 8),3,"list.go:38",#[],none⟩,
 ⟨some 34,.indexAddr 94 (.tmp 32) (.tmp 33),0,"list.go:38",#[⟨8,.data⟩,⟨9,.data⟩],none⟩,
 ⟨some 35,.load 113 (.tmp 34),113,"list.go:38",#[⟨10,.data⟩],none⟩,
 ⟨some 36,.fieldAddr 99 (.tmp 2) 1,0,"list.go:38",#[],none⟩,
 ⟨some 37,.load 97 (.tmp 36),97,"list.go:38",#[⟨12,.data⟩],none⟩,
 ⟨some 38,.move (.tmp 8),3,"list.go:38",#[],none⟩,
 ⟨some 39,.indexAddr 97 (.tmp 37) (.tmp 38),0,"list.go:38",#[⟨13,.data⟩,⟨14,.data⟩],none⟩,
 ⟨some 40,.load 92 (.tmp 39),92,"list.go:38",#[⟨15,.data⟩],none⟩,
 ⟨some 41,.build 131 #[(0,.tmp 27),(1,.tmp 29),(2,.tmp 35),(3,.tmp 40)],131,"list.go:38",#[⟨3,.data⟩,⟨5,.data⟩,⟨11,.data⟩,⟨16,.data⟩],none⟩,
 ⟨some 42,.buildSlice 59 1 #[(0,.tmp 41)],59,"list.go:38",#[⟨17,.data⟩],none⟩,
 ⟨some 43,.call { callee := Callee.builtin Builtin.append,args := #[.tmp 25,.tmp 42],argTypes := #[59,59] },59,"list.go:38",#[⟨1,.data⟩,⟨18,.data⟩,⟨3,.chain⟩],none⟩,
 ⟨some 44,.fieldAddr 63 (.tmp 5) 0,0,"list.go:38",#[⟨0,.phase⟩,⟨1,.phase⟩,⟨2,.phase⟩,⟨3,.phase⟩,⟨4,.phase⟩,⟨5,.phase⟩,⟨6,.phase⟩,⟨7,.phase⟩,⟨8,.phase⟩,⟨9,.phase⟩,⟨10,.phase⟩,⟨11,.phase⟩,⟨12,.phase⟩,⟨13,.phase⟩,⟨14,.phase⟩,⟨15,.phase⟩,⟨16,.phase⟩,⟨17,.phase⟩,⟨18,.phase⟩,⟨19,.phase⟩],none⟩,
 ⟨none,.store 59 (.tmp 44) (.tmp 43),0,"list.go:38",#[⟨20,.data⟩,⟨19,.data⟩,⟨19,.chain⟩,⟨0,.phase⟩,⟨1,.phase⟩,⟨2,.phase⟩,⟨3,.phase⟩,⟨4,.phase⟩,⟨5,.phase⟩,⟨6,.phase⟩,⟨7,.phase⟩,⟨8,.phase⟩,⟨9,.phase⟩,⟨10,.phase⟩,⟨11,.phase⟩,⟨12,.phase⟩,⟨13,.phase⟩,⟨14,.phase⟩,⟨15,.phase⟩,⟨16,.phase⟩,⟨17,.phase⟩,⟨18,.phase⟩,⟨19,.phase⟩],none⟩]
theorem TP{Q:Exit->Act->World->Prop}{K:Act}{w5:World}(P:Nat->(Nat->Value)->World->Prop){bl bp bt fb fo fn fc ob oo on oc cn cc sn sc i:Nat}{ca sa:Option Addr}{nk pf nm:ByteArray}{fl:LField}{o:POwner}(U : [24,25,26,27,28,29,30,31,32,33,34,35,36,37,38,39,40,41,42,43,44].all (λd=>decide (d<K.tmps.size))=true)(s5:B4 K 5= .pointer (some ⟨bl,0,none⟩))(s7:B4 K 7= .pointer (some ⟨bp,0,none⟩))(s2:B4 K 2= .pointer (some ⟨bt,0,none⟩))(s8:B4 K 8= .int .i64 (i:Int))(hi0:(0:Int)<=(i:Int))(hi1:(i:Int)<(fn:Int))(hi2:(i:Int)<(on:Int))(hX:∀j x w,1<=j->P j x w->x 0= .string nm)(V:∀x,P 0 x w5.drew)(B:∀j x w,j<4->P j x w->w.cell? ⟨bl,0,none⟩=some (.slice ca cn cc)/\w.cell? ⟨bp,0,none⟩=some (.string nk)/\w.cell? ⟨bp,1,none⟩=some (.string pf)/\w.cell? ⟨bp,2,none⟩=some (.slice sa sn sc)/\w.cell? ⟨bt,1,none⟩=some (.slice (some ⟨fb,fo,none⟩) fn fc)/\w.cell? ⟨bt,2,none⟩=some (.slice (some ⟨ob,oo,none⟩) on oc)/\w.cell? ⟨fb,fo+i*3,none⟩=some (.string fl.name)/\w.cell? ⟨fb,fo+i*3+1,none⟩=some (.int .i64 fl.kind)/\w.cell? ⟨fb,fo+i*3+2,none⟩=some (.string fl.type)/\w.cell? ⟨ob,oo+i*3,none⟩=some (.int .i64 o.svc)/\w.cell? ⟨ob,oo+i*3+1,none⟩=some (.string o.type)/\w.cell? ⟨ob,oo+i*3+2,none⟩=some (.string o.field))(W:∀x w,P 0 x w->Calls Tryz.prog 67 #[.agg #[.string nk,.string pf,.slice sa sn sc]] w λe w' => ∃v,e= .returned v/\(∀G,G 0=v->(∀i,i≠0->G i=x i)->P 1 G w'))(X:∀x w,P 1 x w->∀G,G 1= .slice (some ⟨w.heap.size,0,none⟩) 1 1->(∀i,i≠1->G i=x i)->P 2 G (w.alloc (.cells #[.string nm,.slice sa sn sc,.string fl.name,.int .i64 fl.kind,.string fl.type,.int .i64 o.svc,.string o.type,.string o.field,.slice none 0 0,.map none,.map none] 131)))(Y:∀x w,P 2 x w->∀ty,∃v w',(Builtin.append_ #[59,59] ty #[.slice ca cn cc,x 1]).run Tryz.prog w= .ok v w'/\(∀G,G 2=v->(∀i,i≠2->G i=x i)->P 3 G w'))(Z:∀x w,P 3 x w->∃va vn vc u,x 2= .slice va vn vc/\w.cell? ⟨bl,0,none⟩=some u/\w.frozen? ⟨bl,0,none⟩=false/\P 4 x (w.setCell ⟨bl,0,none⟩ (x 2)))(hQ:∀s w',P 4 (λi=>s ([27,42,43,0].getD i 0)) w'->Q .normal (Cn K s [24,25,26,27,28,29,30,31,32,33,34,35,36,37,38,39,40,41,42,43,44]) w') :
  (Code.region 6 PJ.toArray true).wp Tryz.prog Q K w5:=by
 refine Cq (by kernel_rfl) (by kernel_rfl) [24,25,26,27,28,29,30,31,32,33,34,35,36,37,38,39,40,41,42,43,44] (by kernel_rfl) U (by kernel_rfl) (λ_=>99) (It [3,18,19,21] [.pointer (some ⟨bl,0,none⟩),.slice ca cn cc,.agg #[.string nk,.string pf,.slice sa sn sc],undef,.pointer (some ⟨bp,2,none⟩),.slice sa sn sc,.pointer (some ⟨bt,0,none⟩),.pointer (some ⟨bt,1,none⟩),.slice (some ⟨fb,fo,none⟩) fn fc,.int .i64 (i:Int),.pointer (some ⟨fb,fo+i*3,none⟩),.agg #[.string fl.name,.int .i64 fl.kind,.string fl.type],.pointer (some ⟨bt,2,none⟩),.slice (some ⟨ob,oo,none⟩) on oc,.int .i64 (i:Int),.pointer (some ⟨ob,oo+i*3,none⟩),.agg #[.int .i64 o.svc,.string o.type,.string o.field],.agg #[.string nm,.slice sa sn sc,.string fl.name,.int .i64 fl.kind,.string fl.type,.int .i64 o.svc,.string o.type,.string o.field,.slice none 0 0,.map none,.map none],undef,undef,.pointer (some ⟨bl,0,none⟩),undef]) (DS [3,18,19,21] [27,42,43,0] P) (DS.start (V _)) ?_ ?_
 ·intro z b D l oz a aa r p A g m c
  have q:=z9 aa (by decide);obtain _|l:=l
  ·obtain rfl:=Ab g
   have n:=zF A s5 rfl;refine zr (.pointer (some ⟨bl,0,none⟩)) rfl rfl rfl rfl a ?_;simp only[execOp,BV,n];go_simp
  obtain _|l:=l
  ·obtain rfl:=Ab g
   have n:b 24= .pointer (some ⟨bl,0,none⟩):=zA p c q 0 (by simp);have F:z 21=false:=Ce (λh=>r 21 _ h rfl ⟨1,.phase⟩ (by simp) rfl) m;obtain⟨z0,-,-,-,-,-,-,-,-,-,-,-⟩:=B _ _ _ (CS (E:=[3,18,19,21]) (by simp) F) a;refine zr (.slice ca cn cc) rfl rfl rfl rfl a ?_;simp only[execOp,BV,n];go_simp
  obtain _|l:=l
  ·obtain rfl:=Ab g
   have n:=zF A s7 rfl;have F:z 21=false:=Ce (λh=>r 21 _ h rfl ⟨2,.phase⟩ (by simp) rfl) m;obtain⟨-,z1,z2,z3,-,-,-,-,-,-,-,-⟩:=B _ _ _ (CS (E:=[3,18,19,21]) (by simp) F) a;refine zr (.agg #[.string nk,.string pf,.slice sa sn sc]) rfl rfl rfl rfl a ?_;simp only[execOp,BV,n];go_simp
  obtain _|l:=l
  ·obtain rfl:=Ab g
   have N:z 18=false:=Ce (λh=>r 18 _ h rfl ⟨17,.data⟩ (by simp) rfl) (Ce (λh=>r 17 _ h rfl ⟨3,.data⟩ (by simp) rfl) m);have O:z 19=false:=Ce (λh=>r 19 _ h rfl ⟨3,.chain⟩ (by simp) rfl) m;have L:z 21=false:=Ce (λh=>r 21 _ h rfl ⟨3,.phase⟩ (by simp) rfl) m;have y:DR [3,18,19,21] z=0:=by simp[DR,m,N,O,L]
   have C:P 0 (λi=>b ([27,42,43,0].getD i 0)) D:=by
    have h:=a;unfold DS at h;rw[y]at h;exact h
   have n:b 26= .agg #[.string nk,.string pf,.slice sa sn sc]:=zA p c q 2 (by simp);have H:∀i,i≠0->([27,42,43,0]:List Nat).getD i 0≠27:=λi hi=>by
    rcases i with _|_|_|_|i<;>simp at hi ⊢
   refine CO 67 #[.tmp 26] #[72] rfl (AN Tryz.func67 (by kernel_rfl) rfl) _ (by simp only[AJ,AG,AI,BV,n];first|done|rfl) ((W _ D C).mono λe w' h=>?_)
   obtain⟨v,rfl,hv⟩:=h;exact⟨v,rfl,DS.eff (by decide) (by decide) m y (hv _ CJ (λi hi=>Cw (H i hi))),AM,λk _ _ _ h=>h⟩
  obtain _|l:=l
  ·obtain rfl:=Ab g
   have n:=zF A s7 rfl;refine zr (.pointer (some ⟨bp,2,none⟩)) rfl rfl rfl rfl a ?_;simp only[execOp,BV,n];go_simp
  obtain _|l:=l
  ·obtain rfl:=Ab g
   have n:b 28= .pointer (some ⟨bp,2,none⟩):=zA p c q 4 (by simp);have F:z 21=false:=Ce (λh=>r 21 _ h rfl ⟨5,.phase⟩ (by simp) rfl) m;obtain⟨-,-,-,z3,-,-,-,-,-,-,-,-⟩:=B _ _ _ (CS (E:=[3,18,19,21]) (by simp) F) a;refine zr (.slice sa sn sc) rfl rfl rfl rfl a ?_;simp only[execOp,BV,n];go_simp
  obtain _|l:=l
  ·obtain rfl:=Ab g
   have n:=zF A s2 rfl;refine zr (.pointer (some ⟨bt,0,none⟩)) rfl rfl rfl rfl a ?_;simp only[execOp,BV,n];go_simp
  obtain _|l:=l
  ·obtain rfl:=Ab g
   have n:b 30= .pointer (some ⟨bt,0,none⟩):=zA p c q 6 (by simp);refine zr (.pointer (some ⟨bt,1,none⟩)) rfl rfl rfl rfl a ?_;simp only[execOp,BV,n];go_simp
  obtain _|l:=l
  ·obtain rfl:=Ab g
   have n:b 31= .pointer (some ⟨bt,1,none⟩):=zA p c q 7 (by simp);have F:z 21=false:=Ce (λh=>r 21 _ h rfl ⟨8,.phase⟩ (by simp) rfl) m;obtain⟨-,-,-,-,z4,-,-,-,-,-,-,-⟩:=B _ _ _ (CS (E:=[3,18,19,21]) (by simp) F) a;refine zr (.slice (some ⟨fb,fo,none⟩) fn fc) rfl rfl rfl rfl a ?_;simp only[execOp,BV,n];go_simp
  obtain _|l:=l
  ·obtain rfl:=Ab g
   have n:=zF A s8 rfl;refine zr (.int .i64 (i:Int)) rfl rfl rfl rfl a ?_;simp only[execOp,BV,n];go_simp
  obtain _|l:=l
  ·obtain rfl:=Ab g
   have n:b 32= .slice (some ⟨fb,fo,none⟩) fn fc:=zA p c q 8 (by simp);have e1:b 33= .int .i64 (i:Int):=zA p c q 9 (by simp);refine zr (.pointer (some ⟨fb,fo+i*3,none⟩)) rfl rfl rfl rfl a ?_;simp only[execOp,BV,n,e1];go_simp
  obtain _|l:=l
  ·obtain rfl:=Ab g
   have n:b 34= .pointer (some ⟨fb,fo+i*3,none⟩):=zA p c q 10 (by simp);have F:z 21=false:=Ce (λh=>r 21 _ h rfl ⟨11,.phase⟩ (by simp) rfl) m;obtain⟨-,-,-,-,-,-,z6,z7,z8,-,-,-⟩:=B _ _ _ (CS (E:=[3,18,19,21]) (by simp) F) a;refine zr (.agg #[.string fl.name,.int .i64 fl.kind,.string fl.type]) rfl rfl rfl rfl a ?_;simp only[execOp,BV,n];go_simp
  obtain _|l:=l
  ·obtain rfl:=Ab g
   have n:=zF A s2 rfl;refine zr (.pointer (some ⟨bt,2,none⟩)) rfl rfl rfl rfl a ?_;simp only[execOp,BV,n];go_simp
  obtain _|l:=l
  ·obtain rfl:=Ab g
   have n:b 36= .pointer (some ⟨bt,2,none⟩):=zA p c q 12 (by simp);have F:z 21=false:=Ce (λh=>r 21 _ h rfl ⟨13,.phase⟩ (by simp) rfl) m;obtain⟨-,-,-,-,-,z5,-,-,-,-,-,-⟩:=B _ _ _ (CS (E:=[3,18,19,21]) (by simp) F) a;refine zr (.slice (some ⟨ob,oo,none⟩) on oc) rfl rfl rfl rfl a ?_;simp only[execOp,BV,n];go_simp
  obtain _|l:=l
  ·obtain rfl:=Ab g
   have n:=zF A s8 rfl;refine zr (.int .i64 (i:Int)) rfl rfl rfl rfl a ?_;simp only[execOp,BV,n];go_simp
  obtain _|l:=l
  ·obtain rfl:=Ab g
   have n:b 37= .slice (some ⟨ob,oo,none⟩) on oc:=zA p c q 13 (by simp);have e1:b 38= .int .i64 (i:Int):=zA p c q 14 (by simp);refine zr (.pointer (some ⟨ob,oo+i*3,none⟩)) rfl rfl rfl rfl a ?_;simp only[execOp,BV,n,e1];go_simp
  obtain _|l:=l
  ·obtain rfl:=Ab g
   have n:b 39= .pointer (some ⟨ob,oo+i*3,none⟩):=zA p c q 15 (by simp);have F:z 21=false:=Ce (λh=>r 21 _ h rfl ⟨16,.phase⟩ (by simp) rfl) m;obtain⟨-,-,-,-,-,-,-,-,-,z9,z10,z11⟩:=B _ _ _ (CS (E:=[3,18,19,21]) (by simp) F) a;refine zr (.agg #[.int .i64 o.svc,.string o.type,.string o.field]) rfl rfl rfl rfl a ?_;simp only[execOp,BV,n];go_simp
  obtain _|l:=l
  ·obtain rfl:=Ab g
   have n:b 29= .slice sa sn sc:=zA p c q 5 (by simp);have e1:b 35= .agg #[.string fl.name,.int .i64 fl.kind,.string fl.type]:=zA p c q 11 (by simp);have e2:b 40= .agg #[.int .i64 o.svc,.string o.type,.string o.field]:=zA p c q 16 (by simp);have L:z 3=true:=c ⟨3,.data⟩ (by simp) rfl;have y:1<=DR [3,18,19,21] z:=by
    simp only[DR,List.filter_cons,L,BK,AP];omega
   have ex:b 27= .string nm:=hX _ _ _ y a;refine zr (.agg #[.string nm,.slice sa sn sc,.string fl.name,.int .i64 fl.kind,.string fl.type,.int .i64 o.svc,.string o.type,.string o.field,.slice none 0 0,.map none,.map none]) rfl rfl rfl rfl a ?_;simp only[execOp,BV];go_simp
  obtain _|l:=l
  ·obtain rfl:=Ab g
   have R:z 3=true:=r 17 _ (c ⟨17,.data⟩ (by simp) rfl) rfl ⟨3,.data⟩ (by simp) rfl;have O:z 19=false:=Ce (λh=>r 19 _ h rfl ⟨18,.data⟩ (by simp) rfl) m;have L:z 21=false:=Ce (λh=>r 21 _ h rfl ⟨18,.phase⟩ (by simp) rfl) m;have y:DR [3,18,19,21] z=1:=by simp[DR,R,m,O,L]
   have C:P 1 (λi=>b ([27,42,43,0].getD i 0)) D:=by
    have h:=a;unfold DS at h;rw[y]at h;exact h
   have n:b 41= .agg #[.string nm,.slice sa sn sc,.string fl.name,.int .i64 fl.kind,.string fl.type,.int .i64 o.svc,.string o.type,.string o.field,.slice none 0 0,.map none,.map none]:=zA p c q 17 (by simp);have I:∀i,i≠1->([27,42,43,0]:List Nat).getD i 0≠42:=λi hi=>by
    rcases i with _|_|_|_|i<;>simp at hi ⊢
   refine BU (v:=.slice (some ⟨D.heap.size,0,none⟩) 1 1) (w':=D.alloc (.cells #[.string nm,.slice sa sn sc,.string fl.name,.int .i64 fl.kind,.string fl.type,.int .i64 o.svc,.string o.type,.string o.field,.slice none 0 0,.map none,.map none] 131)) ?_ ⟨DS.eff (by decide) (by decide) m y (X _ D C _ CJ (λi hi=>Cw (I i hi))),AM,λk _ _ _ h=>h⟩;simp only[execOp,AJ,AG,AI,BV,n];go_simp
  obtain _|l:=l
  ·obtain rfl:=Ab g
   have R:z 3=true:=c ⟨3,.chain⟩ (by simp) rfl;have N:z 18=true:=c ⟨18,.data⟩ (by simp) rfl;have L:z 21=false:=Ce (λh=>r 21 _ h rfl ⟨19,.data⟩ (by simp) rfl) m;have y:DR [3,18,19,21] z=2:=by simp[DR,R,N,m,L]
   have C:P 2 (λi=>b ([27,42,43,0].getD i 0)) D:=by
    have h:=a;unfold DS at h;rw[y]at h;exact h
   have n:b 25= .slice ca cn cc:=zA p c q 1 (by simp);have J:∀i,i≠2->([27,42,43,0]:List Nat).getD i 0≠43:=λi hi=>by
    rcases i with _|_|_|_|i<;>simp at hi ⊢
   obtain⟨v,w',T,M⟩:=Y _ D C 59;replace T:(Builtin.append_ #[59,59] 59 #[.slice ca cn cc,b 42]).run Tryz.prog D= .ok v w':=T;refine BU (v:=v) (w':=w') ?_ ⟨DS.eff (by decide) (by decide) m y (M _ CJ (λi hi=>Cw (J i hi))),AM,λk _ _ _ h=>h⟩;simp only[execOp,resolve,invoke,builtin,Sem.run_bind,Sem.run_pure,Result.andThen_ok,AJ,AG,AI,BV,n]
   first|(rw[T];rfl)|(simp[T,Result.andThen])
  obtain _|l:=l
  ·obtain rfl:=Ab g
   have n:=zF A s5 rfl;refine zr (.pointer (some ⟨bl,0,none⟩)) rfl rfl rfl rfl a ?_;simp only[execOp,BV,n];go_simp
  obtain _|l:=l
  ·obtain rfl:=Ab g
   have R:z 3=true:=c ⟨3,.phase⟩ (by simp) rfl;have N:z 18=true:=c ⟨18,.phase⟩ (by simp) rfl;have O:z 19=true:=c ⟨19,.data⟩ (by simp) rfl;have y:DR [3,18,19,21] z=3:=by simp[DR,R,N,O,m]
   have C:P 3 (λi=>b ([27,42,43,0].getD i 0)) D:=by
    have h:=a;unfold DS at h;rw[y]at h;exact h
   have n:b 44= .pointer (some ⟨bl,0,none⟩):=zA p c q 20 (by simp);obtain⟨va,vn,vc,u,hx9,hu,hfz,M⟩:=Z _ D C;have ex:b 43= .slice va vn vc:=hx9;replace M:P 4 _ (D.setCell ⟨bl,0,none⟩ (b 43)):=M;rw[ex]at M;refine CV (w':=_) ?_ ⟨DS.eff (by decide) (by decide) m y M,AM,λk _ _ _ h=>h⟩;simp only[execOp,BV,n,ex];go_simp
  ·exfalso
   have hlen:l+22<22:=(List.getElem?_eq_some_iff.1 g).1;omega
 ·intro z b D a _ S _
  have h:=a;unfold DS at h;rw[EW (λe he=>by simp at he;rcases he with rfl|rfl|rfl|rfl<;>exact S _ (by decide))]at h
  exact hQ b D h
end Go.Proofs.YtjjggefmmeminabGreat
