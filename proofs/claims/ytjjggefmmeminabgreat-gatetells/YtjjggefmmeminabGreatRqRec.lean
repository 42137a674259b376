import Derived.Test.YtjjggefmmeminabGreatJRc
import Derived.Test.YtjjggefmmeminabGreatMnOut
set_option maxRecDepth 100000
set_option maxHeartbeats 4000000
namespace Go.Proofs.YtjjggefmmeminabGreat
open Go.RowKit Go.Sort Go.PlainAid
def Qb:List Oper:=[
 ⟨some 210,.move (.tmp 11),32,"ref.go:454",#[],none⟩,
 ⟨some 211,.move (.tmp 0),22,"ref.go:454",#[],none⟩,
 ⟨some 212,.move (.tmp 1),37,"ref.go:454",#[],none⟩,
 ⟨some 213,.move (.tmp 1),37,"ref.go:454",#[],none⟩,
 ⟨some 214,.move (.tmp 2),50,"ref.go:454",#[],none⟩,
 ⟨some 215,.nilCheck (.tmp 214),0,"ref.go:454",#[⟨4,.data⟩],none⟩,
 ⟨some 216,.fieldAddr 99 (.tmp 215) 0,0,"ref.go:454",#[⟨5,.data⟩],none⟩,
 ⟨some 217,.fieldAddr 96 (.tmp 216) 1,0,"ref.go:454",#[⟨6,.data⟩],none⟩,
 ⟨some 218,.load 94 (.tmp 217),94,"ref.go:454",#[⟨7,.data⟩],none⟩,
 ⟨some 219,.move (.tmp 23),3,"ref.go:454",#[],none⟩,
 ⟨some 220,.indexAddr 94 (.tmp 218) (.tmp 219),0,"ref.go:454",#[⟨8,.data⟩,⟨9,.data⟩],none⟩,
 ⟨some 221,.fieldAddr 113 (.tmp 220) 2,0,"ref.go:454",#[⟨10,.data⟩],none⟩,
 ⟨some 222,.load 9 (.tmp 221),9,"ref.go:454",#[⟨11,.data⟩],none⟩,
 ⟨some 223,.call { callee := Callee.value (.func 19),args := #[.tmp 213,.tmp 222],argTypes := #[37,9] },50,"ref.go:454",#[⟨3,.data⟩,⟨12,.data⟩],none⟩,
 ⟨some 224,.move (.tmp 25),65,"ref.go:454",#[],none⟩,
 ⟨some 225,.fieldAddr 72 (.tmp 22) 2,0,"ref.go:454",#[],none⟩,
 ⟨some 226,.load 23 (.tmp 225),23,"ref.go:454",#[⟨15,.data⟩],none⟩,
 ⟨some 227,.call { callee := Callee.value (.func 24),args := #[.tmp 211,.tmp 212,.tmp 223,.tmp 224,.tmp 226],argTypes := #[22,37,50,65,23] },32,"ref.go:454",#[⟨1,.data⟩,⟨2,.data⟩,⟨13,.data⟩,⟨14,.data⟩,⟨16,.data⟩,⟨13,.chain⟩],none⟩,
 ⟨some 228,.call { callee := Callee.builtin Builtin.append,args := #[.tmp 210,.tmp 227],argTypes := #[32,32] },32,"ref.go:454",#[⟨0,.data⟩,⟨17,.data⟩,⟨17,.chain⟩],none⟩,
 ⟨some 11,.assign (.tmp 228),32,"ref.go:454",#[⟨18,.data⟩,⟨18,.chain⟩,⟨0,.phase⟩,⟨1,.phase⟩,⟨2,.phase⟩,⟨3,.phase⟩,⟨4,.phase⟩,⟨5,.phase⟩,⟨6,.phase⟩,⟨7,.phase⟩,⟨8,.phase⟩,⟨9,.phase⟩,⟨10,.phase⟩,⟨11,.phase⟩,⟨12,.phase⟩,⟨13,.phase⟩,⟨14,.phase⟩,⟨15,.phase⟩,⟨16,.phase⟩,⟨17,.phase⟩,⟨18,.phase⟩],none⟩]
theorem TY{Q:Exit->Act->World->Prop}{G:Act}{w5:World}(P:Nat->(Nat->Value)->World->Prop){g o f fo fn fc bk rn rc n lcap pn pc N O sn sc i:Nat}{ra la pa R sa:Option Addr}{pp:Addr}{fty:ByteArray}(U : [210,211,212,213,214,215,216,217,218,219,220,221,222,223,224,225,226,227,228,11].all (λd=>decide (d<G.tmps.size))=true)(s0:B4 G 0= .slice la n lcap)(s1:B4 G 1= .slice pa pn pc)(s2:B4 G 2= .pointer (some ⟨g,o,none⟩))(V:B4 G 22= .pointer (some ⟨bk,0,none⟩))(W:B4 G 23= .int .i64 (i:Int))(X:B4 G 25= .slice R N O)(hi:i<fn)(Y:P 0 (λi=>B4 G ([227,228,11].getD i 0)) w5.drew)(H:∀j x w,j<3->P j x w->w.cell? ⟨g,o+1,none⟩=some (.slice (some ⟨f,fo,none⟩) fn fc)/\w.cell? ⟨f,fo+i*3+2,none⟩=some (.string fty)/\w.cell? ⟨bk,2,none⟩=some (.slice sa sn sc)/\x 2= .slice ra rn rc)(Z:∀x w,P 0 x w->Calls Tryz.prog 24 #[.slice la n lcap,.slice pa pn pc,.pointer (some pp),.slice R N O,.slice sa sn sc] w λe w' => ∃v,e= .returned v/\(∀C,C 0=v->(∀i,i≠0->C i=x i)->P 1 C w'))(aa:∀x w,P 1 x w->∀ty,∃v w',(Builtin.append_ #[32,32] ty #[.slice ra rn rc,x 0]).run Tryz.prog w= .ok v w'/\(∀C,C 1=v->(∀i,i≠1->C i=x i)->P 2 C w'))(ab:∀x w,P 2 x w->∀C,C 2=x 1->(∀i,i≠2->C i=x i)->P 3 C w)(L:∀j x w,P j x w->Calls Tryz.prog 19 #[.slice pa pn pc,.string fty] w λe w'=>e= .returned (.pointer (some pp))/\Below w.heap.size w w')(ac:∀j x w w',P j x w->Below w.heap.size w w'->P j x w')(hQ:∀s w',P 3 (λi=>s ([227,228,11].getD i 0)) w'->Q .normal (Cn G s [210,211,212,213,214,215,216,217,218,219,220,221,222,223,224,225,226,227,228,11]) w') :
  (Code.region 51 Qb.toArray true).wp Tryz.prog Q G w5:=by
 have hi1:(i:Int)<(fn:Int):=by omega
 have hi0:(0:Int)<=(i:Int):=by omega
 refine Cq (by kernel_rfl) (by kernel_rfl) [210,211,212,213,214,215,216,217,218,219,220,221,222,223,224,225,226,227,228,11] (by kernel_rfl) U (by kernel_rfl) (λ_=>99) (It [17,18,19] [.slice ra rn rc,.slice la n lcap,.slice pa pn pc,.slice pa pn pc,.pointer (some ⟨g,o,none⟩),.pointer (some ⟨g,o,none⟩),.pointer (some ⟨g,o,none⟩),.pointer (some ⟨g,o+1,none⟩),.slice (some ⟨f,fo,none⟩) fn fc,.int .i64 (i:Int),.pointer (some ⟨f,fo+i*3,none⟩),.pointer (some ⟨f,fo+i*3+2,none⟩),.string fty,.pointer (some pp),.slice R N O,.pointer (some ⟨bk,2,none⟩),.slice sa sn sc,undef,undef,undef]) (DS [17,18,19] [227,228,11] P) (DS.start Y) ?_ ?_
 ·intro B b D l oz a ad z q A c u m
  have r:=z9 ad (by decide);obtain _|l:=l
  ·obtain rfl:=Ab c
   have M:B 19=false:=Ce (λh=>z 19 _ h rfl ⟨0,.phase⟩ (by simp) rfl) u;obtain⟨-,-,-,z3⟩:=H _ _ _ (CS (E:=[17,18,19]) (by simp) M) a;have p:b 11= .slice ra rn rc:=z3;refine zr (.slice ra rn rc) rfl rfl rfl rfl a ?_;simp only[execOp,BV,p];go_simp
  obtain _|l:=l
  ·obtain rfl:=Ab c
   have p:=zF A s0 rfl;refine zr (.slice la n lcap) rfl rfl rfl rfl a ?_;simp only[execOp,BV,p];go_simp
  obtain _|l:=l
  ·obtain rfl:=Ab c
   have p:=zF A s1 rfl;refine zr (.slice pa pn pc) rfl rfl rfl rfl a ?_;simp only[execOp,BV,p];go_simp
  obtain _|l:=l
  ·obtain rfl:=Ab c
   have p:=zF A s1 rfl;refine zr (.slice pa pn pc) rfl rfl rfl rfl a ?_;simp only[execOp,BV,p];go_simp
  obtain _|l:=l
  ·obtain rfl:=Ab c
   have p:=zF A s2 rfl;refine zr (.pointer (some ⟨g,o,none⟩)) rfl rfl rfl rfl a ?_;simp only[execOp,BV,p];go_simp
  obtain _|l:=l
  ·obtain rfl:=Ab c
   have p:b 214= .pointer (some ⟨g,o,none⟩):=zA q m r 4 (by simp);refine zr (.pointer (some ⟨g,o,none⟩)) rfl rfl rfl rfl a ?_;simp only[execOp,BV,p];go_simp
  obtain _|l:=l
  ·obtain rfl:=Ab c
   have p:b 215= .pointer (some ⟨g,o,none⟩):=zA q m r 5 (by simp);refine zr (.pointer (some ⟨g,o,none⟩)) rfl rfl rfl rfl a ?_;simp only[execOp,BV,p];go_simp
  obtain _|l:=l
  ·obtain rfl:=Ab c
   have p:b 216= .pointer (some ⟨g,o,none⟩):=zA q m r 6 (by simp);refine zr (.pointer (some ⟨g,o+1,none⟩)) rfl rfl rfl rfl a ?_;simp only[execOp,BV,p];go_simp
  obtain _|l:=l
  ·obtain rfl:=Ab c
   have p:b 217= .pointer (some ⟨g,o+1,none⟩):=zA q m r 7 (by simp);have M:B 19=false:=Ce (λh=>z 19 _ h rfl ⟨8,.phase⟩ (by simp) rfl) u;obtain⟨z0,-,-,-⟩:=H _ _ _ (CS (E:=[17,18,19]) (by simp) M) a;refine zr (.slice (some ⟨f,fo,none⟩) fn fc) rfl rfl rfl rfl a ?_;simp only[execOp,BV,p];go_simp
  obtain _|l:=l
  ·obtain rfl:=Ab c
   have p:=zF A W rfl;refine zr (.int .i64 (i:Int)) rfl rfl rfl rfl a ?_;simp only[execOp,BV,p];go_simp
  obtain _|l:=l
  ·obtain rfl:=Ab c
   have p:b 218= .slice (some ⟨f,fo,none⟩) fn fc:=zA q m r 8 (by simp);have e1:b 219= .int .i64 (i:Int):=zA q m r 9 (by simp);refine zr (.pointer (some ⟨f,fo+i*3,none⟩)) rfl rfl rfl rfl a ?_;simp only[execOp,BV,p,e1];go_simp
  obtain _|l:=l
  ·obtain rfl:=Ab c
   have p:b 220= .pointer (some ⟨f,fo+i*3,none⟩):=zA q m r 10 (by simp);refine zr (.pointer (some ⟨f,fo+i*3+2,none⟩)) rfl rfl rfl rfl a ?_;simp only[execOp,BV,p];go_simp
  obtain _|l:=l
  ·obtain rfl:=Ab c
   have p:b 221= .pointer (some ⟨f,fo+i*3+2,none⟩):=zA q m r 11 (by simp);have M:B 19=false:=Ce (λh=>z 19 _ h rfl ⟨12,.phase⟩ (by simp) rfl) u;obtain⟨-,z1,-,-⟩:=H _ _ _ (CS (E:=[17,18,19]) (by simp) M) a;refine zr (.string fty) rfl rfl rfl rfl a ?_;simp only[execOp,BV,p];go_simp
  obtain _|l:=l
  ·obtain rfl:=Ab c
   have p:b 213= .slice pa pn pc:=zA q m r 3 (by simp);have e1:b 222= .string fty:=zA q m r 12 (by simp);refine CO 19 #[.tmp 213,.tmp 222] #[37,9] rfl (AN Tryz.func19 (by kernel_rfl) rfl) _ (by simp only[AJ,AG,AI,BV,p,e1];first|done|rfl) ((L _ _ D a).mono λe w' h=>?_)
   obtain⟨rfl,ae⟩:=h;exact⟨_,rfl,ac _ _ _ _ (DS.read a rfl rfl _) ae,rfl,λk _ _ _ h=>h⟩
  obtain _|l:=l
  ·obtain rfl:=Ab c
   have p:=zF A X rfl;refine zr (.slice R N O) rfl rfl rfl rfl a ?_;simp only[execOp,BV,p];go_simp
  obtain _|l:=l
  ·obtain rfl:=Ab c
   have p:=zF A V rfl;refine zr (.pointer (some ⟨bk,2,none⟩)) rfl rfl rfl rfl a ?_;simp only[execOp,BV,p];go_simp
  obtain _|l:=l
  ·obtain rfl:=Ab c
   have p:b 225= .pointer (some ⟨bk,2,none⟩):=zA q m r 15 (by simp);have M:B 19=false:=Ce (λh=>z 19 _ h rfl ⟨16,.phase⟩ (by simp) rfl) u;obtain⟨-,-,z2,-⟩:=H _ _ _ (CS (E:=[17,18,19]) (by simp) M) a;refine zr (.slice sa sn sc) rfl rfl rfl rfl a ?_;simp only[execOp,BV,p];go_simp
  obtain _|l:=l
  ·obtain rfl:=Ab c
   have t1:B 18=false:=Ce (λh=>z 18 _ h rfl ⟨17,.data⟩ (by simp) rfl) u;have t2:B 19=false:=Ce (λh=>z 19 _ h rfl ⟨17,.phase⟩ (by simp) rfl) u;have y:DR [17,18,19] B=0:=by simp[DR,u,t1,t2]
   have F:P 0 (λi=>b ([227,228,11].getD i 0)) D:=by
    have h:=a;unfold DS at h;rw[y]at h;exact h
   have p:b 211= .slice la n lcap:=zA q m r 1 (by simp);have e1:b 212= .slice pa pn pc:=zA q m r 2 (by simp);have e2:b 223= .pointer (some pp):=zA q m r 13 (by simp);have e3:b 224= .slice R N O:=zA q m r 14 (by simp);have e4:b 226= .slice sa sn sc:=zA q m r 16 (by simp);have I:∀i,i≠0->([227,228,11]:List Nat).getD i 0≠227:=λi hi=>by
    rcases i with _|_|_|i<;>simp at hi ⊢
   refine CO 24 #[.tmp 211,.tmp 212,.tmp 223,.tmp 224,.tmp 226] #[22,37,50,65,23] rfl (AN Tryz.func24 (by kernel_rfl) rfl) _ (by simp only[AJ,AG,AI,BV,p,e1,e2,e3,e4];first|done|rfl) ((Z _ D F).mono λe w' h=>?_)
   obtain⟨v,rfl,hv⟩:=h;exact⟨v,rfl,DS.eff (by decide) (by decide) u y (hv _ CJ (λi hi=>Cw (I i hi))),AM,λk _ _ _ h=>h⟩
  obtain _|l:=l
  ·obtain rfl:=Ab c
   have t0:B 17=true:=m ⟨17,.data⟩ (by simp) rfl;have t2:B 19=false:=Ce (λh=>z 19 _ h rfl ⟨18,.data⟩ (by simp) rfl) u;have y:DR [17,18,19] B=1:=by simp[DR,t0,u,t2]
   have F:P 1 (λi=>b ([227,228,11].getD i 0)) D:=by
    have h:=a;unfold DS at h;rw[y]at h;exact h
   have p:b 210= .slice ra rn rc:=zA q m r 0 (by simp);have J:∀i,i≠1->([227,228,11]:List Nat).getD i 0≠228:=λi hi=>by
    rcases i with _|_|_|i<;>simp at hi ⊢
   obtain⟨v,w',T,hp⟩:=aa _ D F 32;replace T:(Builtin.append_ #[32,32] 32 #[.slice ra rn rc,b 227]).run Tryz.prog D= .ok v w':=T;refine BU (v:=v) (w':=w') ?_ ⟨DS.eff (by decide) (by decide) u y (hp _ CJ (λi hi=>Cw (J i hi))),AM,λk _ _ _ h=>h⟩;simp only[execOp,resolve,invoke,builtin,Sem.run_bind,Sem.run_pure,Result.andThen_ok,AJ,AG,AI,BV,p]
   first|(rw[T];rfl)|(simp[T,Result.andThen])
  obtain _|l:=l
  ·obtain rfl:=Ab c
   have t0:B 17=true:=m ⟨17,.phase⟩ (by simp) rfl;have t1:B 18=true:=m ⟨18,.data⟩ (by simp) rfl;have y:DR [17,18,19] B=2:=by simp[DR,t0,t1,u]
   have F:P 2 (λi=>b ([227,228,11].getD i 0)) D:=by
    have h:=a;unfold DS at h;rw[y]at h;exact h
   have K:∀i,i≠2->([227,228,11]:List Nat).getD i 0≠11:=λi hi=>by
    rcases i with _|_|_|i<;>simp at hi ⊢
   refine BU (v:=b 228) (w':=D) ?_ ⟨DS.eff (by decide) (by decide) u y (ab _ D F _ CJ (λi hi=>Cw (K i hi))),AM,λk _ _ _ h=>h⟩;rfl
  ·exfalso
   have hlen:l+20<20:=(List.getElem?_eq_some_iff.1 c).1;omega
 ·intro B b D a _ S _
  have h:=a;unfold DS at h;rw[EW (λe he=>by simp at he;rcases he with rfl|rfl|rfl<;>exact S _ (by decide))]at h
  exact hQ b D h
def Py:List Oper:=[
 ⟨some 25,.move (.tmp 7),26,"ref.go:467",#[],none⟩,
 ⟨some 26,.move (.tmp 0),22,"ref.go:467",#[],none⟩,
 ⟨some 27,.move (.tmp 9),37,"ref.go:467",#[],none⟩,
 ⟨some 28,.move (.tmp 9),37,"ref.go:467",#[],none⟩,
 ⟨some 29,.fieldAddr 25 (.tmp 3) 0,0,"ref.go:467",#[],none⟩,
 ⟨some 30,.load 9 (.tmp 29),9,"ref.go:467",#[⟨4,.data⟩],none⟩,
 ⟨some 31,.call { callee := Callee.value (.func 19),args := #[.tmp 28,.tmp 30],argTypes := #[37,9] },50,"ref.go:467",#[⟨3,.data⟩,⟨5,.data⟩],none⟩,
 ⟨some 32,.fieldAddr 25 (.tmp 3) 1,0,"ref.go:467",#[],none⟩,
 ⟨some 33,.load 9 (.tmp 32),9,"ref.go:467",#[⟨7,.data⟩],none⟩,
 ⟨some 34,.buildSlice 65 1 #[(0,.tmp 33)],65,"ref.go:467",#[⟨8,.data⟩],none⟩,
 ⟨some 35,.fieldAddr 25 (.tmp 3) 2,0,"ref.go:467",#[],none⟩,
 ⟨some 36,.load 23 (.tmp 35),23,"ref.go:467",#[⟨10,.data⟩],none⟩,
 ⟨some 37,.call { callee := Callee.value (.func 24),args := #[.tmp 26,.tmp 27,.tmp 31,.tmp 34,.tmp 36],argTypes := #[22,37,50,65,23] },32,"ref.go:467",#[⟨1,.data⟩,⟨2,.data⟩,⟨6,.data⟩,⟨9,.data⟩,⟨11,.data⟩,⟨6,.chain⟩],none⟩,
 ⟨some 4,.assign (.tmp 25),26,"ref.go:467",#[⟨0,.data⟩,⟨12,.chain⟩,⟨0,.phase⟩,{ on := 1,ground := Ground.textOnly Departure.lateStores },{ on := 2,ground := Ground.textOnly Departure.lateStores },{ on := 3,ground := Ground.textOnly Departure.lateStores },{ on := 4,ground := Ground.textOnly Departure.lateStores },{ on := 5,ground := Ground.textOnly Departure.lateStores },{ on := 6,ground := Ground.textOnly Departure.lateStoresUnsure },{ on := 7,ground := Ground.textOnly Departure.lateStores },{ on := 8,ground := Ground.textOnly Departure.lateStores },{ on := 9,ground := Ground.textOnly Departure.lateStores },{ on := 10,ground := Ground.textOnly Departure.lateStores },{ on := 11,ground := Ground.textOnly Departure.lateStores },{ on := 12,ground := Ground.textOnly Departure.lateStoresUnsure }],none⟩,
 ⟨some 5,.assign (.tmp 37),32,"ref.go:467",#[⟨12,.data⟩,⟨13,.chain⟩,⟨0,.phase⟩,⟨1,.phase⟩,⟨2,.phase⟩,⟨3,.phase⟩,⟨4,.phase⟩,⟨5,.phase⟩,⟨6,.phase⟩,⟨7,.phase⟩,⟨8,.phase⟩,⟨9,.phase⟩,⟨10,.phase⟩,⟨11,.phase⟩,⟨12,.phase⟩,⟨13,.phase⟩],none⟩,
 ⟨some 6,.assign (.const (.int .i64 0)),27,"ref.go:467",#[⟨14,.chain⟩,⟨0,.phase⟩,⟨1,.phase⟩,⟨2,.phase⟩,⟨3,.phase⟩,⟨4,.phase⟩,⟨5,.phase⟩,⟨6,.phase⟩,⟨7,.phase⟩,⟨8,.phase⟩,⟨9,.phase⟩,⟨10,.phase⟩,⟨11,.phase⟩,⟨12,.phase⟩,⟨13,.phase⟩,⟨14,.phase⟩],none⟩]
theorem TH{Q:Exit->Act->World->Prop}{J:Act}{w5:World}(P:Nat->(Nat->Value)->World->Prop){ba vn vc n lcap pn pc sn sc:Nat}{va la pa sa:Option Addr}{pp:Addr}{ty key:ByteArray}(O : [25,26,27,28,29,30,31,32,33,34,35,36,37,4,5,6].all (λd=>decide (d<J.tmps.size))=true)(s0:B4 J 0= .slice la n lcap)(R:B4 J 3= .pointer (some ⟨ba,0,none⟩))(s7:B4 J 7= .slice va vn vc)(s9:B4 J 9= .slice pa pn pc)(S:∀x,P 0 x w5.drew)(K:∀j x w,j<3->P j x w->w.cell? ⟨ba,0,none⟩=some (.string ty)/\w.cell? ⟨ba,1,none⟩=some (.string key)/\w.cell? ⟨ba,2,none⟩=some (.slice sa sn sc))(T:∀x w,P 0 x w->∀B,B 0= .slice (some ⟨w.heap.size,0,none⟩) 1 1->(∀i,i≠0->B i=x i)->P 1 B (w.alloc (.cells #[.string key] 9)))(U:∀x w,P 1 x w->Calls Tryz.prog 24 #[.slice la n lcap,.slice pa pn pc,.pointer (some pp),x 0,.slice sa sn sc] w λe w' => ∃v,e= .returned v/\(∀B,B 1=v->(∀i,i≠1->B i=x i)->P 2 B w'))(V:∀x w,P 2 x w->∀B,B 2=x 1->(∀i,i≠2->B i=x i)->P 3 B w)(M:∀j x w,P j x w->Calls Tryz.prog 19 #[.slice pa pn pc,.string ty] w λe w'=>e= .returned (.pointer (some pp))/\Below w.heap.size w w')(W:∀j x w w',P j x w->Below w.heap.size w w'->P j x w')(hQ:∀s w',s 4= .slice va vn vc->s 6= .int .i64 0->P 3 (λi=>s ([34,37,5].getD i 0)) w'->Q .normal (Cn J s [25,26,27,28,29,30,31,32,33,34,35,36,37,4,5,6]) w') :
  (Code.region 5 Py.toArray true).wp Tryz.prog Q J w5:=by
 refine Cq (by kernel_rfl) (by kernel_rfl) [25,26,27,28,29,30,31,32,33,34,35,36,37,4,5,6] (by kernel_rfl) O (by kernel_rfl) (λ_=>99) (It [9,12,14] [.slice va vn vc,.slice la n lcap,.slice pa pn pc,.slice pa pn pc,.pointer (some ⟨ba,0,none⟩),.string ty,.pointer (some pp),.pointer (some ⟨ba,1,none⟩),.string key,undef,.pointer (some ⟨ba,2,none⟩),.slice sa sn sc,undef,.slice va vn vc,undef,.int .i64 0]) (DS [9,12,14] [34,37,5] P) (DS.start (S _)) ?_ ?_
 ·intro y b A g oz a L z q u c p l
  have m:=z9 L (by decide);obtain _|g:=g
  ·obtain rfl:=Ab c
   have o:=zF u s7 rfl;refine zr (.slice va vn vc) rfl rfl rfl rfl a ?_;simp only[execOp,BV,o];go_simp
  obtain _|g:=g
  ·obtain rfl:=Ab c
   have o:=zF u s0 rfl;refine zr (.slice la n lcap) rfl rfl rfl rfl a ?_;simp only[execOp,BV,o];go_simp
  obtain _|g:=g
  ·obtain rfl:=Ab c
   have o:=zF u s9 rfl;refine zr (.slice pa pn pc) rfl rfl rfl rfl a ?_;simp only[execOp,BV,o];go_simp
  obtain _|g:=g
  ·obtain rfl:=Ab c
   have o:=zF u s9 rfl;refine zr (.slice pa pn pc) rfl rfl rfl rfl a ?_;simp only[execOp,BV,o];go_simp
  obtain _|g:=g
  ·obtain rfl:=Ab c
   have o:=zF u R rfl;refine zr (.pointer (some ⟨ba,0,none⟩)) rfl rfl rfl rfl a ?_;simp only[execOp,BV,o];go_simp
  obtain _|g:=g
  ·obtain rfl:=Ab c
   have o:b 29= .pointer (some ⟨ba,0,none⟩):=zA q l m 4 (by simp);have N:y 14=false:=Ce (λh=>z 14 _ h rfl ⟨5,.phase⟩ (by simp) rfl) p;obtain⟨z0,-,-⟩:=K _ _ _ (CS (E:=[9,12,14]) (by simp) N) a;refine zr (.string ty) rfl rfl rfl rfl a ?_;simp only[execOp,BV,o];go_simp
  obtain _|g:=g
  ·obtain rfl:=Ab c
   have o:b 28= .slice pa pn pc:=zA q l m 3 (by simp);have e1:b 30= .string ty:=zA q l m 5 (by simp);refine CO 19 #[.tmp 28,.tmp 30] #[37,9] rfl (AN Tryz.func19 (by kernel_rfl) rfl) _ (by simp only[AJ,AG,AI,BV,o,e1];first|done|rfl) ((M _ _ A a).mono λe w' h=>?_)
   obtain⟨rfl,X⟩:=h;exact⟨_,rfl,W _ _ _ _ (DS.read a rfl rfl _) X,rfl,λk _ _ _ h=>h⟩
  obtain _|g:=g
  ·obtain rfl:=Ab c
   have o:=zF u R rfl;refine zr (.pointer (some ⟨ba,1,none⟩)) rfl rfl rfl rfl a ?_;simp only[execOp,BV,o];go_simp
  obtain _|g:=g
  ·obtain rfl:=Ab c
   have o:b 32= .pointer (some ⟨ba,1,none⟩):=zA q l m 7 (by simp);have N:y 14=false:=Ce (λh=>z 14 _ h rfl ⟨8,.phase⟩ (by simp) rfl) p;obtain⟨-,z1,-⟩:=K _ _ _ (CS (E:=[9,12,14]) (by simp) N) a;refine zr (.string key) rfl rfl rfl rfl a ?_;simp only[execOp,BV,o];go_simp
  obtain _|g:=g
  ·obtain rfl:=Ab c
   have Y:y 12=false:=Ce (λh=>z 12 _ h rfl ⟨9,.data⟩ (by simp) rfl) p;have Z:y 14=false:=Ce (λh=>z 14 _ h rfl ⟨9,.phase⟩ (by simp) rfl) p;have r:DR [9,12,14] y=0:=by simp[DR,p,Y,Z]
   have C:P 0 (λi=>b ([34,37,5].getD i 0)) A:=by
    have h:=a;unfold DS at h;rw[r]at h;exact h
   have o:b 33= .string key:=zA q l m 8 (by simp);have G:∀i,i≠0->([34,37,5]:List Nat).getD i 0≠34:=λi hi=>by
    rcases i with _|_|_|i<;>simp at hi ⊢
   refine BU (v:=.slice (some ⟨A.heap.size,0,none⟩) 1 1) (w':=A.alloc (.cells #[.string key] 9)) ?_ ⟨DS.eff (by decide) (by decide) p r (T _ A C _ CJ (λi hi=>Cw (G i hi))),AM,λk _ _ _ h=>h⟩;simp only[execOp,AJ,AG,AI,BV,o];go_simp
  obtain _|g:=g
  ·obtain rfl:=Ab c
   have o:=zF u R rfl;refine zr (.pointer (some ⟨ba,2,none⟩)) rfl rfl rfl rfl a ?_;simp only[execOp,BV,o];go_simp
  obtain _|g:=g
  ·obtain rfl:=Ab c
   have o:b 35= .pointer (some ⟨ba,2,none⟩):=zA q l m 10 (by simp);have N:y 14=false:=Ce (λh=>z 14 _ h rfl ⟨11,.phase⟩ (by simp) rfl) p;obtain⟨-,-,z2⟩:=K _ _ _ (CS (E:=[9,12,14]) (by simp) N) a;refine zr (.slice sa sn sc) rfl rfl rfl rfl a ?_;simp only[execOp,BV,o];go_simp
  obtain _|g:=g
  ·obtain rfl:=Ab c
   have t0:y 9=true:=l ⟨9,.data⟩ (by simp) rfl;have Z:y 14=false:=Ce (λh=>z 14 _ h rfl ⟨12,.data⟩ (by simp) rfl) p;have r:DR [9,12,14] y=1:=by simp[DR,t0,p,Z]
   have C:P 1 (λi=>b ([34,37,5].getD i 0)) A:=by
    have h:=a;unfold DS at h;rw[r]at h;exact h
   have o:b 26= .slice la n lcap:=zA q l m 1 (by simp);have e1:b 27= .slice pa pn pc:=zA q l m 2 (by simp);have e2:b 31= .pointer (some pp):=zA q l m 6 (by simp);have e4:b 36= .slice sa sn sc:=zA q l m 11 (by simp);have H:∀i,i≠1->([34,37,5]:List Nat).getD i 0≠37:=λi hi=>by
    rcases i with _|_|_|i<;>simp at hi ⊢
   refine CO 24 #[.tmp 26,.tmp 27,.tmp 31,.tmp 34,.tmp 36] #[22,37,50,65,23] rfl (AN Tryz.func24 (by kernel_rfl) rfl) _ (by simp only[AJ,AG,AI,BV,o,e1,e2,e4];first|done|rfl) ((U _ A C).mono λe w' h=>?_)
   obtain⟨v,rfl,hv⟩:=h;exact⟨v,rfl,DS.eff (by decide) (by decide) p r (hv _ CJ (λi hi=>Cw (H i hi))),AM,λk _ _ _ h=>h⟩
  obtain _|g:=g
  ·obtain rfl:=Ab c
   have o:b 25= .slice va vn vc:=zA q l m 0 (by simp);refine zr (.slice va vn vc) rfl rfl rfl rfl a ?_;simp only[execOp,BV,o];go_simp
  obtain _|g:=g
  ·obtain rfl:=Ab c
   have t0:y 9=true:=l ⟨9,.phase⟩ (by simp) rfl;have Y:y 12=true:=l ⟨12,.data⟩ (by simp) rfl;have r:DR [9,12,14] y=2:=by simp[DR,t0,Y,p]
   have C:P 2 (λi=>b ([34,37,5].getD i 0)) A:=by
    have h:=a;unfold DS at h;rw[r]at h;exact h
   have I:∀i,i≠2->([34,37,5]:List Nat).getD i 0≠5:=λi hi=>by
    rcases i with _|_|_|i<;>simp at hi ⊢
   refine BU (v:=b 37) (w':=A) ?_ ⟨DS.eff (by decide) (by decide) p r (V _ A C _ CJ (λi hi=>Cw (I i hi))),AM,λk _ _ _ h=>h⟩;rfl
  obtain _|g:=g
  ·obtain rfl:=Ab c
   refine zr (.int .i64 0) rfl rfl rfl rfl a ?_;simp only[execOp,BV];go_simp
  ·exfalso
   have hlen:g+16<16:=(List.getElem?_eq_some_iff.1 c).1;omega
 ·intro y b A a L D F
  have m:=z9 L (by decide);have h:=a;unfold DS at h;rw[EW (λe he=>by simp at he;rcases he with rfl|rfl|rfl<;>exact D _ (by decide))]at h
  exact hQ b A (F 13 (D 13 (by decide)) m) (F 15 (D 15 (by decide)) m) h
end Go.Proofs.YtjjggefmmeminabGreat
