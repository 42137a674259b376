import Derived.Test.YtjjggefmmeminabGreatMnOut
import Derived.Test.YtjjggefmmeminabGreatJRe
set_option maxRecDepth 100000
set_option maxHeartbeats 4000000
namespace Go.Proofs.YtjjggefmmeminabGreat
open Go.RowKit Go.Sort
def Lq:List Oper:=[
 ⟨some 18,.move (.tmp 0),22,"ref.go:334",#[],none⟩,
 ⟨some 19,.fieldAddr 92 (.tmp 8) 0,0,"ref.go:334",#[],none⟩,
 ⟨some 20,.load 3 (.tmp 19),3,"ref.go:334",#[⟨1,.data⟩],none⟩,
 ⟨some 21,.indexAddr 22 (.tmp 18) (.tmp 20),0,"ref.go:334",#[⟨0,.data⟩,⟨2,.data⟩],none⟩,
 ⟨some 22,.fieldAddr 81 (.tmp 21) 2,0,"ref.go:334",#[⟨3,.data⟩],none⟩,
 ⟨some 23,.load 79 (.tmp 22),79,"ref.go:334",#[⟨4,.data⟩],none⟩,
 ⟨some 24,.fieldAddr 92 (.tmp 8) 1,0,"ref.go:334",#[],none⟩,
 ⟨some 25,.load 9 (.tmp 24),9,"ref.go:334",#[⟨6,.data⟩],none⟩,
 ⟨some 26,.move (.tmp 2),9,"ref.go:334",#[],none⟩,
 ⟨some 27,.call { callee := Callee.value (.func 44),args := #[.tmp 23,.tmp 25,.tmp 26],argTypes := #[79,9,9] },115,"ref.go:334",#[⟨5,.data⟩,⟨7,.data⟩,⟨8,.data⟩],none⟩,
 ⟨some 28,.binOp .neq 115 (.tmp 27) (.const (.pointer none)) 115,4,"ref.go:334",#[⟨9,.data⟩],none⟩]
theorem Pn{Q:Exit->Act->World->Prop}{w:Act}{p:World}{bo l lo n lcap s xn xc:Nat}{x tp:Option Addr}{ty key:ByteArray}(A : [18,19,20,21,22,23,24,25,26,27,28].all (λd=>decide (d<w.tmps.size))=true)(s0:B4 w 0= .slice (some ⟨l,lo,none⟩) n lcap)(D:B4 w 8= .pointer (some ⟨bo,0,none⟩))(G:B4 w 2= .string key)(hs:s<n)(c0:p.cell? ⟨bo,0,none⟩=some (.int .i64 (s:Int)))(c1:p.cell? ⟨bo,1,none⟩=some (.string ty))(H:p.cell? ⟨l,lo+s*3+2,none⟩=some (.slice x xn xc))(r:∀z,Below p.heap.size p z->Calls Tryz.prog 44 #[.slice x xn xc,.string ty,.string key] z λe w'=>e= .returned (.pointer tp)/\Below z.heap.size z w')(I:∀s w',Below p.heap.size p w'->s 28= .bool tp.isSome->Q .normal (Cn w s [18,19,20,21,22,23,24,25,26,27,28]) w') :
  (Code.region 4 Lq.toArray true).wp Tryz.prog Q w p:=by
 have J:(s:Int)<(n:Int):=by omega
 have K:(0:Int)<=(s:Int):=by omega
 refine Cq (by kernel_rfl) (by kernel_rfl) [18,19,20,21,22,23,24,25,26,27,28] (by kernel_rfl) A (by kernel_rfl) (λ_=>99) (It [] [.slice (some ⟨l,lo,none⟩) n lcap,.pointer (some ⟨bo,0,none⟩),.int .i64 (s:Int),.pointer (some ⟨l,lo+s*3,none⟩),.pointer (some ⟨l,lo+s*3+2,none⟩),.slice x xn xc,.pointer (some ⟨bo,1,none⟩),.string ty,.string key,.pointer tp,.bool tp.isSome]) (boxG p []) boxG.start ?_ ?_
 ·intro L b B i O a u M j q c N m
  have g:=z9 u (by decide);obtain _|i:=i
  ·obtain rfl:=Ab c
   exact zs (b 0) rfl rfl (zF q s0 rfl) a rfl
  obtain _|i:=i
  ·obtain rfl:=Ab c
   have o:=zF q D rfl;refine zs (.pointer (some ⟨bo,0,none⟩)) rfl rfl rfl a ?_;simp only[execOp,BV,o];go_simp
  obtain _|i:=i
  ·obtain rfl:=Ab c
   have o:b 19= .pointer (some ⟨bo,0,none⟩):=zA j m g 1 (by simp);have E:=BR a.below c0;refine zs (.int .i64 (s:Int)) rfl rfl rfl a ?_;simp only[execOp,BV,o];go_simp
  obtain _|i:=i
  ·obtain rfl:=Ab c
   have o:b 18= .slice (some ⟨l,lo,none⟩) n lcap:=zA j m g 0 (by simp);have e1:b 20= .int .i64 (s:Int):=zA j m g 2 (by simp);refine zs (.pointer (some ⟨l,lo+s*3,none⟩)) rfl rfl rfl a ?_;simp only[execOp,BV,o,e1];go_simp
  obtain _|i:=i
  ·obtain rfl:=Ab c
   have o:b 21= .pointer (some ⟨l,lo+s*3,none⟩):=zA j m g 3 (by simp);refine zs (.pointer (some ⟨l,lo+s*3+2,none⟩)) rfl rfl rfl a ?_;simp only[execOp,BV,o];go_simp
  obtain _|i:=i
  ·obtain rfl:=Ab c
   have o:b 22= .pointer (some ⟨l,lo+s*3+2,none⟩):=zA j m g 4 (by simp);have E:=BR a.below H;refine zs (.slice x xn xc) rfl rfl rfl a ?_;simp only[execOp,BV,o];go_simp
  obtain _|i:=i
  ·obtain rfl:=Ab c
   have o:=zF q D rfl;refine zs (.pointer (some ⟨bo,1,none⟩)) rfl rfl rfl a ?_;simp only[execOp,BV,o];go_simp
  obtain _|i:=i
  ·obtain rfl:=Ab c
   have o:b 24= .pointer (some ⟨bo,1,none⟩):=zA j m g 6 (by simp);have E:=BR a.below c1;refine zs (.string ty) rfl rfl rfl a ?_;simp only[execOp,BV,o];go_simp
  obtain _|i:=i
  ·obtain rfl:=Ab c
   exact zs (b 2) rfl rfl (zF q G rfl) a rfl
  obtain _|i:=i
  ·obtain rfl:=Ab c
   have o:b 23= .slice x xn xc:=zA j m g 5 (by simp);have e1:b 25= .string ty:=zA j m g 7 (by simp);have e2:b 26= .string key:=zA j m g 8 (by simp);refine CO 44 #[.tmp 23,.tmp 25,.tmp 26] #[79,9,9] rfl (AN Tryz.func44 (by kernel_rfl) rfl) #[.slice x xn xc,.string ty,.string key] (by simp[BV,o,e1,e2]) ((r B a.below).mono λe w' h=>?_);obtain⟨rfl,C⟩:=h;exact⟨_,rfl,a.step C rfl _,rfl,λk _ _ _ h=>h⟩
  obtain _|i:=i
  ·obtain rfl:=Ab c
   have o:b 27= .pointer tp:=zA j m g 9 (by simp);refine zs (.bool tp.isSome) rfl rfl rfl a ?_;simp only[execOp,BV,o];cases tp<;>go_simp
  ·exfalso
   have F:i+11<11:=(List.getElem?_eq_some_iff.1 c).1;omega
 ·intro L b B a u y v
  have g:=z9 u (by decide);exact I b B a.below (v 10 (y 10 (by decide)) g)
def Nl:List Oper:=[
 ⟨some 58,.move (.tmp 0),22,"ref.go:348",#[],none⟩,
 ⟨some 59,.fieldAddr 92 (.tmp 16) 0,0,"ref.go:348",#[],none⟩,
 ⟨some 60,.load 3 (.tmp 59),3,"ref.go:348",#[⟨1,.data⟩],none⟩,
 ⟨some 61,.indexAddr 22 (.tmp 58) (.tmp 60),0,"ref.go:348",#[⟨0,.data⟩,⟨2,.data⟩],none⟩,
 ⟨some 62,.fieldAddr 81 (.tmp 61) 2,0,"ref.go:348",#[⟨3,.data⟩],none⟩,
 ⟨some 63,.load 79 (.tmp 62),79,"ref.go:348",#[⟨4,.data⟩],none⟩,
 ⟨some 64,.fieldAddr 92 (.tmp 16) 1,0,"ref.go:348",#[],none⟩,
 ⟨some 65,.load 9 (.tmp 64),9,"ref.go:348",#[⟨6,.data⟩],none⟩,
 ⟨some 66,.move (.tmp 3),9,"ref.go:348",#[],none⟩,
 ⟨some 67,.call { callee := Callee.value (.func 44),args := #[.tmp 63,.tmp 65,.tmp 66],argTypes := #[79,9,9] },115,"ref.go:348",#[⟨5,.data⟩,⟨7,.data⟩,⟨8,.data⟩],none⟩,
 ⟨some 18,.assign (.tmp 67),115,"ref.go:348",#[⟨9,.data⟩,⟨9,.chain⟩,⟨0,.phase⟩,⟨1,.phase⟩,⟨2,.phase⟩,⟨3,.phase⟩,⟨4,.phase⟩,⟨5,.phase⟩,⟨6,.phase⟩,⟨7,.phase⟩,⟨8,.phase⟩,⟨9,.phase⟩],none⟩]
theorem SP{Q:Exit->Act->World->Prop}{w:Act}{p:World}{bo l lo n lcap s xn xc:Nat}{x tp:Option Addr}{ty key:ByteArray}(A : [58,59,60,61,62,63,64,65,66,67,18].all (λd=>decide (d<w.tmps.size))=true)(s0:B4 w 0= .slice (some ⟨l,lo,none⟩) n lcap)(D:B4 w 16= .pointer (some ⟨bo,0,none⟩))(G:B4 w 3= .string key)(hs:s<n)(c0:p.cell? ⟨bo,0,none⟩=some (.int .i64 (s:Int)))(c1:p.cell? ⟨bo,1,none⟩=some (.string ty))(H:p.cell? ⟨l,lo+s*3+2,none⟩=some (.slice x xn xc))(r:∀z,Below p.heap.size p z->Calls Tryz.prog 44 #[.slice x xn xc,.string ty,.string key] z λe w'=>e= .returned (.pointer tp)/\Below z.heap.size z w')(I:∀s w',Below p.heap.size p w'->s 18= .pointer tp->Q .normal (Cn w s [58,59,60,61,62,63,64,65,66,67,18]) w') :
  (Code.region 8 Nl.toArray true).wp Tryz.prog Q w p:=by
 have J:(s:Int)<(n:Int):=by omega
 have K:(0:Int)<=(s:Int):=by omega
 refine Cq (by kernel_rfl) (by kernel_rfl) [58,59,60,61,62,63,64,65,66,67,18] (by kernel_rfl) A (by kernel_rfl) (λ_=>99) (It [] [.slice (some ⟨l,lo,none⟩) n lcap,.pointer (some ⟨bo,0,none⟩),.int .i64 (s:Int),.pointer (some ⟨l,lo+s*3,none⟩),.pointer (some ⟨l,lo+s*3+2,none⟩),.slice x xn xc,.pointer (some ⟨bo,1,none⟩),.string ty,.string key,.pointer tp,.pointer tp]) (boxG p []) boxG.start ?_ ?_
 ·intro L b B i O a u M j q c N m
  have g:=z9 u (by decide);obtain _|i:=i
  ·obtain rfl:=Ab c
   exact zs (b 0) rfl rfl (zF q s0 rfl) a rfl
  obtain _|i:=i
  ·obtain rfl:=Ab c
   have o:=zF q D rfl;refine zs (.pointer (some ⟨bo,0,none⟩)) rfl rfl rfl a ?_;simp only[execOp,BV,o];go_simp
  obtain _|i:=i
  ·obtain rfl:=Ab c
   have o:b 59= .pointer (some ⟨bo,0,none⟩):=zA j m g 1 (by simp);have E:=BR a.below c0;refine zs (.int .i64 (s:Int)) rfl rfl rfl a ?_;simp only[execOp,BV,o];go_simp
  obtain _|i:=i
  ·obtain rfl:=Ab c
   have o:b 58= .slice (some ⟨l,lo,none⟩) n lcap:=zA j m g 0 (by simp);have e1:b 60= .int .i64 (s:Int):=zA j m g 2 (by simp);refine zs (.pointer (some ⟨l,lo+s*3,none⟩)) rfl rfl rfl a ?_;simp only[execOp,BV,o,e1];go_simp
  obtain _|i:=i
  ·obtain rfl:=Ab c
   have o:b 61= .pointer (some ⟨l,lo+s*3,none⟩):=zA j m g 3 (by simp);refine zs (.pointer (some ⟨l,lo+s*3+2,none⟩)) rfl rfl rfl a ?_;simp only[execOp,BV,o];go_simp
  obtain _|i:=i
  ·obtain rfl:=Ab c
   have o:b 62= .pointer (some ⟨l,lo+s*3+2,none⟩):=zA j m g 4 (by simp);have E:=BR a.below H;refine zs (.slice x xn xc) rfl rfl rfl a ?_;simp only[execOp,BV,o];go_simp
  obtain _|i:=i
  ·obtain rfl:=Ab c
   have o:=zF q D rfl;refine zs (.pointer (some ⟨bo,1,none⟩)) rfl rfl rfl a ?_;simp only[execOp,BV,o];go_simp
  obtain _|i:=i
  ·obtain rfl:=Ab c
   have o:b 64= .pointer (some ⟨bo,1,none⟩):=zA j m g 6 (by simp);have E:=BR a.below c1;refine zs (.string ty) rfl rfl rfl a ?_;simp only[execOp,BV,o];go_simp
  obtain _|i:=i
  ·obtain rfl:=Ab c
   exact zs (b 3) rfl rfl (zF q G rfl) a rfl
  obtain _|i:=i
  ·obtain rfl:=Ab c
   have o:b 63= .slice x xn xc:=zA j m g 5 (by simp);have e1:b 65= .string ty:=zA j m g 7 (by simp);have e2:b 66= .string key:=zA j m g 8 (by simp);refine CO 44 #[.tmp 63,.tmp 65,.tmp 66] #[79,9,9] rfl (AN Tryz.func44 (by kernel_rfl) rfl) #[.slice x xn xc,.string ty,.string key] (by simp[BV,o,e1,e2]) ((r B a.below).mono λe w' h=>?_);obtain⟨rfl,C⟩:=h;exact⟨_,rfl,a.step C rfl _,rfl,λk _ _ _ h=>h⟩
  obtain _|i:=i
  ·obtain rfl:=Ab c
   have o:b 67= .pointer tp:=zA j m g 9 (by simp);refine zs (.pointer tp) rfl rfl rfl a ?_;simp only[execOp,BV,o];go_simp
  ·exfalso
   have F:i+11<11:=(List.getElem?_eq_some_iff.1 c).1;omega
 ·intro L b B a u y v
  have g:=z9 u (by decide);exact I b B a.below (v 10 (y 10 (by decide)) g)
def Tj:List Oper:=[
 ⟨some 30,.move (.tmp 2),50,"ref.go:345",#[],none⟩,
 ⟨some 31,.nilCheck (.tmp 30),0,"ref.go:345",#[⟨0,.data⟩],none⟩,
 ⟨some 32,.fieldAddr 99 (.tmp 31) 0,0,"ref.go:345",#[⟨1,.data⟩],none⟩,
 ⟨some 33,.fieldAddr 96 (.tmp 32) 1,0,"ref.go:345",#[⟨2,.data⟩],none⟩,
 ⟨some 34,.load 94 (.tmp 33),94,"ref.go:345",#[⟨3,.data⟩],none⟩,
 ⟨some 35,.fieldAddr 72 (.tmp 13) 1,0,"ref.go:345",#[],none⟩,
 ⟨some 36,.load 9 (.tmp 35),9,"ref.go:345",#[⟨5,.data⟩],none⟩,
 ⟨some 37,.call { callee := Callee.value (.func 45),args := #[.tmp 34,.tmp 36],argTypes := #[94,9] },3,"ref.go:345",#[⟨4,.data⟩,⟨6,.data⟩],none⟩,
 ⟨some 14,.assign (.tmp 37),3,"ref.go:345",#[⟨7,.data⟩,⟨7,.chain⟩,⟨0,.phase⟩,⟨1,.phase⟩,⟨2,.phase⟩,⟨3,.phase⟩,⟨4,.phase⟩,⟨5,.phase⟩,⟨6,.phase⟩,⟨7,.phase⟩],none⟩]
theorem UL{Q:Exit->Act->World->Prop}{w:Act}{q:World}{g o bk fn fc i:Nat}{fa:Option Addr}{pf:ByteArray}(A : [30,31,32,33,34,35,36,37,14].all (λd=>decide (d<w.tmps.size))=true)(F:B4 w 2= .pointer (some ⟨g,o,none⟩))(B:B4 w 13= .pointer (some ⟨bk,0,none⟩))(ca:q.cell? ⟨g,o+1,none⟩=some (.slice fa fn fc))(cb:q.cell? ⟨bk,1,none⟩=some (.string pf))(r:∀z,Below q.heap.size q z->Calls Tryz.prog 45 #[.slice fa fn fc,.string pf] z λe w'=>e= .returned (.int .i64 (i:Int))/\Below z.heap.size z w')(G:∀s w',Below q.heap.size q w'->s 14= .int .i64 (i:Int)->Q .normal (Cn w s [30,31,32,33,34,35,36,37,14]) w') :
  (Code.region 5 Tj.toArray true).wp Tryz.prog Q w q:=by
 refine Cq (by kernel_rfl) (by kernel_rfl) [30,31,32,33,34,35,36,37,14] (by kernel_rfl) A (by kernel_rfl) (λ_=>99) (It [] [.pointer (some ⟨g,o,none⟩),.pointer (some ⟨g,o,none⟩),.pointer (some ⟨g,o,none⟩),.pointer (some ⟨g,o+1,none⟩),.slice fa fn fc,.pointer (some ⟨bk,1,none⟩),.string pf,.int .i64 (i:Int),.int .i64 (i:Int)]) (boxG q []) boxG.start ?_ ?_
 ·intro H b C l L a u I m x c J n
  have j:=z9 u (by decide);obtain _|l:=l
  ·obtain rfl:=Ab c
   exact zs (b 2) rfl rfl (zF x F rfl) a rfl
  obtain _|l:=l
  ·obtain rfl:=Ab c
   have p:b 30= .pointer (some ⟨g,o,none⟩):=zA m n j 0 (by simp);refine zs (.pointer (some ⟨g,o,none⟩)) rfl rfl rfl a ?_;simp only[execOp,BV,p];go_simp
  obtain _|l:=l
  ·obtain rfl:=Ab c
   have p:b 31= .pointer (some ⟨g,o,none⟩):=zA m n j 1 (by simp);refine zs (.pointer (some ⟨g,o,none⟩)) rfl rfl rfl a ?_;simp only[execOp,BV,p];go_simp
  obtain _|l:=l
  ·obtain rfl:=Ab c
   have p:b 32= .pointer (some ⟨g,o,none⟩):=zA m n j 2 (by simp);refine zs (.pointer (some ⟨g,o+1,none⟩)) rfl rfl rfl a ?_;simp only[execOp,BV,p];go_simp
  obtain _|l:=l
  ·obtain rfl:=Ab c
   have p:b 33= .pointer (some ⟨g,o+1,none⟩):=zA m n j 3 (by simp);have K:=BR a.below ca;refine zs (.slice fa fn fc) rfl rfl rfl a ?_;simp only[execOp,BV,p];go_simp
  obtain _|l:=l
  ·obtain rfl:=Ab c
   have p:=zF x B rfl;refine zs (.pointer (some ⟨bk,1,none⟩)) rfl rfl rfl a ?_;simp only[execOp,BV,p];go_simp
  obtain _|l:=l
  ·obtain rfl:=Ab c
   have p:b 35= .pointer (some ⟨bk,1,none⟩):=zA m n j 5 (by simp);have K:=BR a.below cb;refine zs (.string pf) rfl rfl rfl a ?_;simp only[execOp,BV,p];go_simp
  obtain _|l:=l
  ·obtain rfl:=Ab c
   have p:b 34= .slice fa fn fc:=zA m n j 4 (by simp);have e1:b 36= .string pf:=zA m n j 6 (by simp);refine CO 45 #[.tmp 34,.tmp 36] #[94,9] rfl (AN Tryz.func45 (by kernel_rfl) rfl) #[.slice fa fn fc,.string pf] (by simp[BV,p,e1]) ((r C a.below).mono λe w' h=>?_);obtain⟨rfl,D⟩:=h;exact⟨_,rfl,a.step D rfl _,rfl,λk _ _ _ h=>h⟩
  obtain _|l:=l
  ·obtain rfl:=Ab c
   have p:b 37= .int .i64 (i:Int):=zA m n j 7 (by simp);refine zs (.int .i64 (i:Int)) rfl rfl rfl a ?_;simp only[execOp,BV,p];go_simp
  ·exfalso
   have E:l+9<9:=(List.getElem?_eq_some_iff.1 c).1;omega
 ·intro H b C a u y v
  have j:=z9 u (by decide);exact G b C a.below (v 8 (y 8 (by decide)) j)
def RQ:List Oper:=[
 ⟨some 38,.move (.tmp 2),50,"ref.go:346",#[],none⟩,
 ⟨some 39,.nilCheck (.tmp 38),0,"ref.go:346",#[⟨0,.data⟩],none⟩,
 ⟨some 40,.fieldAddr 99 (.tmp 39) 0,0,"ref.go:346",#[⟨1,.data⟩],none⟩,
 ⟨some 41,.fieldAddr 96 (.tmp 40) 1,0,"ref.go:346",#[⟨2,.data⟩],none⟩,
 ⟨some 42,.load 94 (.tmp 41),94,"ref.go:346",#[⟨3,.data⟩],none⟩,
 ⟨some 43,.move (.tmp 14),3,"ref.go:346",#[],none⟩,
 ⟨some 44,.indexAddr 94 (.tmp 42) (.tmp 43),0,"ref.go:346",#[⟨4,.data⟩,⟨5,.data⟩],none⟩,
 ⟨some 45,.load 113 (.tmp 44),113,"ref.go:346",#[⟨6,.data⟩],none⟩,
 ⟨some 46,.move (.tmp 2),50,"ref.go:346",#[{ on := 17,ground := Ground.gcOnly Departure.lateStores }],none⟩,
 ⟨some 47,.nilCheck (.tmp 46),0,"ref.go:346",#[⟨8,.data⟩,{ on := 17,ground := Ground.gcOnly Departure.lateStores }],none⟩,
 ⟨some 48,.fieldAddr 99 (.tmp 47) 1,0,"ref.go:346",#[⟨9,.data⟩,{ on := 17,ground := Ground.gcOnly Departure.lateStores }],none⟩,
 ⟨some 49,.load 97 (.tmp 48),97,"ref.go:346",#[⟨10,.data⟩,{ on := 17,ground := Ground.gcOnly Departure.lateStores }],none⟩,
 ⟨some 50,.move (.tmp 14),3,"ref.go:346",#[{ on := 17,ground := Ground.gcOnly Departure.lateStores }],none⟩,
 ⟨some 51,.indexAddr 97 (.tmp 49) (.tmp 50),0,"ref.go:346",#[⟨11,.data⟩,⟨12,.data⟩,{ on := 17,ground := Ground.gcOnly Departure.lateStores }],none⟩,
 ⟨some 52,.load 92 (.tmp 51),92,"ref.go:346",#[⟨13,.data⟩,{ on := 17,ground := Ground.gcOnly Departure.lateStores }],none⟩,
 ⟨some 15,.alloc 113,0,"ref.go:346",#[],none⟩,
 ⟨some 16,.alloc 92,0,"ref.go:346",#[],none⟩,
 ⟨none,.store 113 (.tmp 15) (.tmp 45),0,"ref.go:346",#[⟨15,.data⟩,⟨7,.data⟩,⟨0,.phase⟩,⟨1,.phase⟩,⟨2,.phase⟩,⟨3,.phase⟩,⟨4,.phase⟩,⟨5,.phase⟩,⟨6,.phase⟩,⟨7,.phase⟩,{ on := 8,ground := Ground.textOnly Departure.lateStores },{ on := 9,ground := Ground.textOnly Departure.lateStores },{ on := 10,ground := Ground.textOnly Departure.lateStores },{ on := 11,ground := Ground.textOnly Departure.lateStores },{ on := 12,ground := Ground.textOnly Departure.lateStores },{ on := 13,ground := Ground.textOnly Departure.lateStores },{ on := 14,ground := Ground.textOnly Departure.lateStores },⟨15,.phase⟩,⟨16,.phase⟩],none⟩,
 ⟨none,.store 92 (.tmp 16) (.tmp 52),0,"ref.go:346",#[⟨16,.data⟩,⟨14,.data⟩,⟨17,.chain⟩,⟨0,.phase⟩,⟨1,.phase⟩,⟨2,.phase⟩,⟨3,.phase⟩,⟨4,.phase⟩,⟨5,.phase⟩,⟨6,.phase⟩,⟨7,.phase⟩,⟨8,.phase⟩,⟨9,.phase⟩,⟨10,.phase⟩,⟨11,.phase⟩,⟨12,.phase⟩,⟨13,.phase⟩,⟨14,.phase⟩,⟨15,.phase⟩,⟨16,.phase⟩,⟨17,.phase⟩],none⟩]
theorem UC{Q:Exit->Act->World->Prop}{K:Act}{A:World}{g o f fo fn fc H x on oc i:Nat}{r fty u w:ByteArray}{D sv:Int}(P : [38,39,40,41,42,43,44,45,46,47,48,49,50,51,52,15,16].all (λd=>decide (d<K.tmps.size))=true)(W:B4 K 2= .pointer (some ⟨g,o,none⟩))(L:B4 K 14= .int .i64 (i:Int))(hi:i<fn)(aa:i<on)(ca:A.cell? ⟨g,o+1,none⟩=some (.slice (some ⟨f,fo,none⟩) fn fc))(cb:A.cell? ⟨g,o+2,none⟩=some (.slice (some ⟨H,x,none⟩) on oc))(c0:A.cell? ⟨f,fo+i*3,none⟩=some (.string r))(c1:A.cell? ⟨f,fo+i*3+1,none⟩=some (.int .i64 D))(c2:A.cell? ⟨f,fo+i*3+2,none⟩=some (.string fty))(d0:A.cell? ⟨H,x+i*3,none⟩=some (.int .i64 sv))(d1:A.cell? ⟨H,x+i*3+1,none⟩=some (.string u))(d2:A.cell? ⟨H,x+i*3+2,none⟩=some (.string w))(hQ:∀s w' M N,Below A.heap.size A w'->s 15= .pointer (some ⟨M,0,none⟩)->A.heap.size<=M->w'.heap[M]? = some (.cells #[.string r,.int .i64 D,.string fty] 113 (0,0))->s 16= .pointer (some ⟨N,0,none⟩)->A.heap.size<=N->w'.heap[N]? = some (.cells #[.int .i64 sv,.string u,.string w] 92 (0,0))->Q .normal (Cn K s [38,39,40,41,42,43,44,45,46,47,48,49,50,51,52,15,16]) w') :
  (Code.region 6 RQ.toArray true).wp Tryz.prog Q K A:=by
 have hi1:(i:Int)<(fn:Int):=by omega
 have hi3:(i:Int)<(on:Int):=by omega
 have hi0:(0:Int)<=(i:Int):=by omega
 refine Cq (by kernel_rfl) (by kernel_rfl) [38,39,40,41,42,43,44,45,46,47,48,49,50,51,52,15,16] (by kernel_rfl) P (by kernel_rfl) (λ_=>99) (It [15,16,17,18] [.pointer (some ⟨g,o,none⟩),.pointer (some ⟨g,o,none⟩),.pointer (some ⟨g,o,none⟩),.pointer (some ⟨g,o+1,none⟩),.slice (some ⟨f,fo,none⟩) fn fc,.int .i64 (i:Int),.pointer (some ⟨f,fo+i*3,none⟩),.agg #[.string r,.int .i64 D,.string fty],.pointer (some ⟨g,o,none⟩),.pointer (some ⟨g,o,none⟩),.pointer (some ⟨g,o+2,none⟩),.slice (some ⟨H,x,none⟩) on oc,.int .i64 (i:Int),.pointer (some ⟨H,x+i*3,none⟩),.agg #[.int .i64 sv,.string u,.string w],undef,undef,undef,undef]) (boxG A [⟨15,17,15,#[.string ⟨#[]⟩,.int .i64 0,.string ⟨#[]⟩],#[.string r,.int .i64 D,.string fty],113⟩,⟨16,18,16,#[.int .i64 0,.string ⟨#[]⟩,.string ⟨#[]⟩],#[.int .i64 sv,.string u,.string w],92⟩]) boxG.start ?_ ?_
 ·intro J c z j oz a R O m I e C l
  have n:=z9 R (by decide);obtain _|j:=j
  ·obtain rfl:=Ab e
   exact zs (c 2) rfl rfl (zF I W rfl) a rfl
  obtain _|j:=j
  ·obtain rfl:=Ab e
   have y:c 38= .pointer (some ⟨g,o,none⟩):=zA m l n 0 (by simp);refine zs (.pointer (some ⟨g,o,none⟩)) rfl rfl rfl a ?_;simp only[execOp,BV,y];go_simp
  obtain _|j:=j
  ·obtain rfl:=Ab e
   have y:c 39= .pointer (some ⟨g,o,none⟩):=zA m l n 1 (by simp);refine zs (.pointer (some ⟨g,o,none⟩)) rfl rfl rfl a ?_;simp only[execOp,BV,y];go_simp
  obtain _|j:=j
  ·obtain rfl:=Ab e
   have y:c 40= .pointer (some ⟨g,o,none⟩):=zA m l n 2 (by simp);refine zs (.pointer (some ⟨g,o+1,none⟩)) rfl rfl rfl a ?_;simp only[execOp,BV,y];go_simp
  obtain _|j:=j
  ·obtain rfl:=Ab e
   have y:c 41= .pointer (some ⟨g,o+1,none⟩):=zA m l n 3 (by simp);have S:=BR a.below ca;refine zs (.slice (some ⟨f,fo,none⟩) fn fc) rfl rfl rfl a ?_;simp only[execOp,BV,y];go_simp
  obtain _|j:=j
  ·obtain rfl:=Ab e
   exact zs (c 14) rfl rfl (zF I L rfl) a rfl
  obtain _|j:=j
  ·obtain rfl:=Ab e
   have y:c 42= .slice (some ⟨f,fo,none⟩) fn fc:=zA m l n 4 (by simp);have e1:c 43= .int .i64 (i:Int):=zA m l n 5 (by simp);refine zs (.pointer (some ⟨f,fo+i*3,none⟩)) rfl rfl rfl a ?_;simp only[execOp,BV,y,e1];go_simp
  obtain _|j:=j
  ·obtain rfl:=Ab e
   have y:c 44= .pointer (some ⟨f,fo+i*3,none⟩):=zA m l n 6 (by simp);have S:=BR a.below c0;have z1:=BR a.below c1;have z2:=BR a.below c2;refine zs (.agg #[.string r,.int .i64 D,.string fty]) rfl rfl rfl a ?_;simp only[execOp,BV,y];go_simp
  obtain _|j:=j
  ·obtain rfl:=Ab e
   exact zs (c 2) rfl rfl (zF I W rfl) a rfl
  obtain _|j:=j
  ·obtain rfl:=Ab e
   have y:c 46= .pointer (some ⟨g,o,none⟩):=zA m l n 8 (by simp);refine zs (.pointer (some ⟨g,o,none⟩)) rfl rfl rfl a ?_;simp only[execOp,BV,y];go_simp
  obtain _|j:=j
  ·obtain rfl:=Ab e
   have y:c 47= .pointer (some ⟨g,o,none⟩):=zA m l n 9 (by simp);refine zs (.pointer (some ⟨g,o+2,none⟩)) rfl rfl rfl a ?_;simp only[execOp,BV,y];go_simp
  obtain _|j:=j
  ·obtain rfl:=Ab e
   have y:c 48= .pointer (some ⟨g,o+2,none⟩):=zA m l n 10 (by simp);have S:=BR a.below cb;refine zs (.slice (some ⟨H,x,none⟩) on oc) rfl rfl rfl a ?_;simp only[execOp,BV,y];go_simp
  obtain _|j:=j
  ·obtain rfl:=Ab e
   exact zs (c 14) rfl rfl (zF I L rfl) a rfl
  obtain _|j:=j
  ·obtain rfl:=Ab e
   have y:c 49= .slice (some ⟨H,x,none⟩) on oc:=zA m l n 11 (by simp);have e1:c 50= .int .i64 (i:Int):=zA m l n 12 (by simp);refine zs (.pointer (some ⟨H,x+i*3,none⟩)) rfl rfl rfl a ?_;simp only[execOp,BV,y,e1];go_simp
  obtain _|j:=j
  ·obtain rfl:=Ab e
   have y:c 51= .pointer (some ⟨H,x+i*3,none⟩):=zA m l n 13 (by simp);have S:=BR a.below d0;have z1:=BR a.below d1;have z2:=BR a.below d2;refine zs (.agg #[.int .i64 sv,.string u,.string w]) rfl rfl rfl a ?_;simp only[execOp,BV,y];go_simp
  obtain _|j:=j
  ·obtain rfl:=Ab e
   have hs:J 17=false:=by
    cases h:J 17 with
    |false=>rfl
    |true=>rw[O 17 _ h rfl ⟨15,.data⟩ (by simp) rfl]at C;cases C
   refine BU (v:=.pointer (some ⟨z.heap.size,0,none⟩)) (w':=z.alloc (.cells #[.string ⟨#[]⟩,.int .i64 0,.string ⟨#[]⟩] 113)) ?_ ⟨a.alloc (q:=⟨15,17,15,#[.string ⟨#[]⟩,.int .i64 0,.string ⟨#[]⟩],#[.string r,.int .i64 D,.string fty],113⟩) (by intro p E;simp only[Bv,Bq,or_false]at E;rcases E with rfl|rfl<;>intro h<;>first|rfl|exact absurd h (AB rfl)) rfl (AB rfl) hs,AM,λk _ _ _ h=>h⟩
   simp only[execOp];go_simp
  obtain _|j:=j
  ·obtain rfl:=Ab e
   have hs:J 18=false:=by
    cases h:J 18 with
    |false=>rfl
    |true=>rw[O 18 _ h rfl ⟨16,.data⟩ (by simp) rfl]at C;cases C
   refine BU (v:=.pointer (some ⟨z.heap.size,0,none⟩)) (w':=z.alloc (.cells #[.int .i64 0,.string ⟨#[]⟩,.string ⟨#[]⟩] 92)) ?_ ⟨a.alloc (q:=⟨16,18,16,#[.int .i64 0,.string ⟨#[]⟩,.string ⟨#[]⟩],#[.int .i64 sv,.string u,.string w],92⟩) (by intro p E;simp only[Bv,Bq,or_false]at E;rcases E with rfl|rfl<;>intro h<;>first|rfl|exact absurd h (AB rfl)) rfl (AB rfl) hs,AM,λk _ _ _ h=>h⟩
   simp only[execOp];go_simp
  obtain _|j:=j
  ·obtain rfl:=Ab e
   have hb:=l ⟨15,.data⟩ (by simp) rfl;obtain⟨b,F,T,G⟩:=a.box ⟨15,17,15,#[.string ⟨#[]⟩,.int .i64 0,.string ⟨#[]⟩],#[.string r,.int .i64 D,.string fty],113⟩ (by simp) hb;rw[C]at G;simp only[Bool.false_eq_true,Bd]at G;replace F:c 15=_:=F;have e2:c 45= .agg #[.string r,.int .i64 D,.string fty]:=zA m l n 7 (by simp);obtain⟨x0,x1,x2⟩:z.cell? ⟨b,0,none⟩=some (.string ⟨#[]⟩)/\z.cell? ⟨b,1,none⟩=some (.int .i64 0)/\z.cell? ⟨b,2,none⟩=some (.string ⟨#[]⟩):=by simp[World.cell?,G]
   obtain⟨y0,y1,y2⟩:z.frozen? ⟨b,0,none⟩=false/\z.frozen? ⟨b,1,none⟩=false/\z.frozen? ⟨b,2,none⟩=false:=by simp[World.frozen?,G]
   have U:=Ao _ b 0 _ 113 (.string r) G;have V:=Ao _ b 1 _ 113 (.int .i64 D) U;have g2:=Ao _ b 2 _ 113 (.string fty) V;refine CV (w':=((z.setCell ⟨b,0,none⟩ (.string r)).setCell ⟨b,1,none⟩ (.int .i64 D)).setCell ⟨b,2,none⟩ (.string fty)) ?_ ⟨a.store (q:=⟨15,17,15,#[.string ⟨#[]⟩,.int .i64 0,.string ⟨#[]⟩],#[.string r,.int .i64 D,.string fty],113⟩) (by intro p E;simp only[Bv,Bq,or_false]at E;rcases E with rfl|rfl<;>intro h<;>first|rfl|exact absurd h (AB rfl)) rfl (by simp) (AB rfl) hb F T (by rw[g2];rfl) ((((OnlyB.refl _ _).set 0 _).set 1 _).set 2 _) _,AM,λk _ _ _ h=>h⟩
   simp only[execOp,BV,F,e2];go_simp
  obtain _|j:=j
  ·obtain rfl:=Ab e
   have hb:=l ⟨16,.data⟩ (by simp) rfl;obtain⟨b,F,T,G⟩:=a.box ⟨16,18,16,#[.int .i64 0,.string ⟨#[]⟩,.string ⟨#[]⟩],#[.int .i64 sv,.string u,.string w],92⟩ (by simp) hb;rw[C]at G;simp only[Bool.false_eq_true,Bd]at G;replace F:c 16=_:=F;have e2:c 52= .agg #[.int .i64 sv,.string u,.string w]:=zA m l n 14 (by simp);obtain⟨x0,x1,x2⟩:z.cell? ⟨b,0,none⟩=some (.int .i64 0)/\z.cell? ⟨b,1,none⟩=some (.string ⟨#[]⟩)/\z.cell? ⟨b,2,none⟩=some (.string ⟨#[]⟩):=by simp[World.cell?,G]
   obtain⟨y0,y1,y2⟩:z.frozen? ⟨b,0,none⟩=false/\z.frozen? ⟨b,1,none⟩=false/\z.frozen? ⟨b,2,none⟩=false:=by simp[World.frozen?,G]
   have U:=Ao _ b 0 _ 92 (.int .i64 sv) G;have V:=Ao _ b 1 _ 92 (.string u) U;have g2:=Ao _ b 2 _ 92 (.string w) V;refine CV (w':=((z.setCell ⟨b,0,none⟩ (.int .i64 sv)).setCell ⟨b,1,none⟩ (.string u)).setCell ⟨b,2,none⟩ (.string w)) ?_ ⟨a.store (q:=⟨16,18,16,#[.int .i64 0,.string ⟨#[]⟩,.string ⟨#[]⟩],#[.int .i64 sv,.string u,.string w],92⟩) (by intro p E;simp only[Bv,Bq,or_false]at E;rcases E with rfl|rfl<;>intro h<;>first|rfl|exact absurd h (AB rfl)) rfl (by simp) (AB rfl) hb F T (by rw[g2];rfl) ((((OnlyB.refl _ _).set 0 _).set 1 _).set 2 _) _,AM,λk _ _ _ h=>h⟩
   simp only[execOp,BV,F,e2];go_simp
  ·exfalso
   have X:j+19<19:=(List.getElem?_eq_some_iff.1 e).1;omega
 ·intro J c z a _ B _
  obtain⟨M,q0,r0,Y⟩:=a.box ⟨15,17,15,#[.string ⟨#[]⟩,.int .i64 0,.string ⟨#[]⟩],#[.string r,.int .i64 D,.string fty],113⟩ (by simp) (B 15 (by decide));rw[show J 17=true from B 17 (by decide)]at Y;obtain⟨N,F,r1,Z⟩:=a.box ⟨16,18,16,#[.int .i64 0,.string ⟨#[]⟩,.string ⟨#[]⟩],#[.int .i64 sv,.string u,.string w],92⟩ (by simp) (B 16 (by decide));rw[show J 18=true from B 18 (by decide)]at Z;exact hQ c z M N a.below q0 r0 Y F r1 Z
def RL:List Oper:=[
 ⟨some 53,.load 72 (.tmp 13),72,"ref.go:347",#[],none⟩,
 ⟨some 54,.call { callee := Callee.value (.func 46),args := #[.tmp 53],argTypes := #[72] },9,"ref.go:347",#[⟨0,.data⟩],none⟩,
 ⟨some 55,.fieldAddr 113 (.tmp 15) 1,0,"ref.go:347",#[],none⟩,
 ⟨some 56,.load 3 (.tmp 55),3,"ref.go:347",#[⟨2,.data⟩],none⟩,
 ⟨some 57,.build 56 #[(0,.tmp 54),(1,.tmp 56)],56,"ref.go:347",#[⟨1,.data⟩,⟨3,.data⟩],none⟩,
 ⟨some 17,.alloc 56,0,"ref.go:347",#[],none⟩,
 ⟨none,.store 56 (.tmp 17) (.tmp 57),0,"ref.go:347",#[⟨5,.data⟩,⟨4,.data⟩,⟨1,.chain⟩,⟨0,.phase⟩,⟨1,.phase⟩,⟨2,.phase⟩,⟨3,.phase⟩,⟨4,.phase⟩,⟨5,.phase⟩],none⟩]
theorem UD{Q:Exit->Act->World->Prop}{y:Act}{m:World}{bp bf pn pc:Nat}{A:Option Addr}{nk pf nm:ByteArray}{kd:Int}(H : [53,54,55,56,57,17].all (λd=>decide (d<y.tmps.size))=true)(s1:B4 y 13= .pointer (some ⟨bp,0,none⟩))(N:B4 y 15= .pointer (some ⟨bf,0,none⟩))(c0:m.cell? ⟨bp,0,none⟩=some (.string nk))(c1:m.cell? ⟨bp,1,none⟩=some (.string pf))(c2:m.cell? ⟨bp,2,none⟩=some (.slice A pn pc))(O:m.cell? ⟨bf,1,none⟩=some (.int .i64 kd))(w:∀E,Below m.heap.size m E->Calls Tryz.prog 46 #[.agg #[.string nk,.string pf,.slice A pn pc]] E λe w'=>e= .returned (.string nm)/\Below E.heap.size E w')(P:∀s w' z,Below m.heap.size m w'->s 17= .pointer (some ⟨z,0,none⟩)->m.heap.size<=z->w'.heap[z]? = some (.cells #[.string nm,.int .i64 kd,.bool false,.string ⟨#[]⟩,.slice none 0 0,.slice none 0 0] 56 (0,0))->Q .normal (Cn y s [53,54,55,56,57,17]) w') :
  (Code.region 7 RL.toArray true).wp Tryz.prog Q y m:=by
 refine Cq (by kernel_rfl) (by kernel_rfl) [53,54,55,56,57,17] (by kernel_rfl) H (by kernel_rfl) (λ_=>99) (It [5,6] [.agg #[.string nk,.string pf,.slice A pn pc],.string nm,.pointer (some ⟨bf,1,none⟩),.int .i64 kd,.agg #[.string nm,.int .i64 kd,.bool false,.string ⟨#[]⟩,.slice none 0 0,.slice none 0 0],undef,undef]) (boxG m [⟨5,6,17,#[.string ⟨#[]⟩,.int .i64 0,.bool false,.string ⟨#[]⟩,.slice none 0 0,.slice none 0 0],#[.string nm,.int .i64 kd,.bool false,.string ⟨#[]⟩,.slice none 0 0,.slice none 0 0],56⟩]) boxG.start ?_ ?_
 ·intro F g c j oz a I J n B i x l
  have o:=z9 I (by decide);obtain _|j:=j
  ·obtain rfl:=Ab i
   have r:=zF B s1 rfl;have R:=BR a.below c0;have z1:=BR a.below c1;have z2:=BR a.below c2;refine zs (.agg #[.string nk,.string pf,.slice A pn pc]) rfl rfl rfl a ?_;simp only[execOp,BV,r];go_simp
  obtain _|j:=j
  ·obtain rfl:=Ab i
   have r:g 53= .agg #[.string nk,.string pf,.slice A pn pc]:=zA n l o 0 (by simp);refine CO 46 #[.tmp 53] #[72] rfl (AN Tryz.func46 (by kernel_rfl) rfl) #[.agg #[.string nk,.string pf,.slice A pn pc]] (by simp[BV,r]) ((w c a.below).mono λe w' h=>?_);obtain⟨rfl,K⟩:=h;exact⟨_,rfl,a.step K rfl _,rfl,λk _ _ _ h=>h⟩
  obtain _|j:=j
  ·obtain rfl:=Ab i
   have r:=zF B N rfl;refine zs (.pointer (some ⟨bf,1,none⟩)) rfl rfl rfl a ?_;simp only[execOp,BV,r];go_simp
  obtain _|j:=j
  ·obtain rfl:=Ab i
   have r:g 55= .pointer (some ⟨bf,1,none⟩):=zA n l o 2 (by simp);have R:=BR a.below O;refine zs (.int .i64 kd) rfl rfl rfl a ?_;simp only[execOp,BV,r];go_simp
  obtain _|j:=j
  ·obtain rfl:=Ab i
   have r:g 54= .string nm:=zA n l o 1 (by simp);have e1:g 56= .int .i64 kd:=zA n l o 3 (by simp);refine zs (.agg #[.string nm,.int .i64 kd,.bool false,.string ⟨#[]⟩,.slice none 0 0,.slice none 0 0]) rfl rfl rfl a ?_;simp only[execOp,BV];go_simp
  obtain _|j:=j
  ·obtain rfl:=Ab i
   have hs:F 6=false:=by
    cases h:F 6 with
    |false=>rfl
    |true=>rw[J 6 _ h rfl ⟨5,.data⟩ (by simp) rfl]at x;cases x
   refine BU (v:=.pointer (some ⟨c.heap.size,0,none⟩)) (w':=c.alloc (.cells #[.string ⟨#[]⟩,.int .i64 0,.bool false,.string ⟨#[]⟩,.slice none 0 0,.slice none 0 0] 56)) ?_ ⟨a.alloc (q:=⟨5,6,17,#[.string ⟨#[]⟩,.int .i64 0,.bool false,.string ⟨#[]⟩,.slice none 0 0,.slice none 0 0],#[.string nm,.int .i64 kd,.bool false,.string ⟨#[]⟩,.slice none 0 0,.slice none 0 0],56⟩) (by intro p C;simp only[Bv,Bq,or_false]at C;subst C;intro _;rfl) rfl (AB rfl) hs,AM,λk _ _ _ h=>h⟩;simp only[execOp];go_simp
  obtain _|j:=j
  ·obtain rfl:=Ab i
   have hb:=l ⟨5,.data⟩ (by simp) rfl;obtain⟨b,G,S,D⟩:=a.box ⟨5,6,17,#[.string ⟨#[]⟩,.int .i64 0,.bool false,.string ⟨#[]⟩,.slice none 0 0,.slice none 0 0],#[.string nm,.int .i64 kd,.bool false,.string ⟨#[]⟩,.slice none 0 0,.slice none 0 0],56⟩ (by simp) hb;rw[x]at D;simp only[Bool.false_eq_true,Bd]at D;replace G:g 17=_:=G;have e2:g 57= .agg #[.string nm,.int .i64 kd,.bool false,.string ⟨#[]⟩,.slice none 0 0,.slice none 0 0]:=zA n l o 4 (by simp);obtain⟨x0,x1,x2,x3,x4,x5⟩:c.cell? ⟨b,0,none⟩=some (.string ⟨#[]⟩)/\c.cell? ⟨b,1,none⟩=some (.int .i64 0)/\c.cell? ⟨b,2,none⟩=some (.bool false)/\c.cell? ⟨b,3,none⟩=some (.string ⟨#[]⟩)/\c.cell? ⟨b,4,none⟩=some (.slice none 0 0)/\c.cell? ⟨b,5,none⟩=some (.slice none 0 0):=by simp[World.cell?,D]
   obtain⟨y0,y1,y2,y3,y4,y5⟩:c.frozen? ⟨b,0,none⟩=false/\c.frozen? ⟨b,1,none⟩=false/\c.frozen? ⟨b,2,none⟩=false/\c.frozen? ⟨b,3,none⟩=false/\c.frozen? ⟨b,4,none⟩=false/\c.frozen? ⟨b,5,none⟩=false:=by simp[World.frozen?,D]
   have T:=Ao _ b 0 _ 56 (.string nm) D;have U:=Ao _ b 1 _ 56 (.int .i64 kd) T;have g2:=Ao _ b 2 _ 56 (.bool false) U;have V:=Ao _ b 3 _ 56 (.string ⟨#[]⟩) g2;have W:=Ao _ b 4 _ 56 (.slice none 0 0) V;have X:=Ao _ b 5 _ 56 (.slice none 0 0) W;refine CV (w':=(((((c.setCell ⟨b,0,none⟩ (.string nm)).setCell ⟨b,1,none⟩ (.int .i64 kd)).setCell ⟨b,2,none⟩ (.bool false)).setCell ⟨b,3,none⟩ (.string ⟨#[]⟩)).setCell ⟨b,4,none⟩ (.slice none 0 0)).setCell ⟨b,5,none⟩ (.slice none 0 0)) ?_ ⟨a.store (q:=⟨5,6,17,#[.string ⟨#[]⟩,.int .i64 0,.bool false,.string ⟨#[]⟩,.slice none 0 0,.slice none 0 0],#[.string nm,.int .i64 kd,.bool false,.string ⟨#[]⟩,.slice none 0 0,.slice none 0 0],56⟩) (by intro p C;simp only[Bv,Bq,or_false]at C;subst C;intro _;rfl) rfl (by simp) (AB rfl) hb G S (by rw[X];rfl) (((((((OnlyB.refl _ _).set 0 _).set 1 _).set 2 _).set 3 _).set 4 _).set 5 _) _,AM,λk _ _ _ h=>h⟩;simp only[execOp,BV,G,e2];go_simp
  ·exfalso
   have L:j+7<7:=(List.getElem?_eq_some_iff.1 i).1;omega
 ·intro F g c a _ u _
  obtain⟨z,Y,Z,M⟩:=a.box ⟨5,6,17,#[.string ⟨#[]⟩,.int .i64 0,.bool false,.string ⟨#[]⟩,.slice none 0 0,.slice none 0 0],#[.string nm,.int .i64 kd,.bool false,.string ⟨#[]⟩,.slice none 0 0,.slice none 0 0],56⟩ (by simp) (u 5 (by decide));rw[show F 6=true from u 6 (by decide)]at M;exact P g c z a.below Y Z M
def OR:List Oper:=[
 ⟨some 107,.fieldAddr 56 (.tmp 17) 5,0,"ref.go:361",#[],none⟩,
 ⟨some 108,.load 54 (.tmp 107),54,"ref.go:361",#[⟨0,.data⟩],none⟩,
 ⟨some 109,.move (.tmp 0),22,"ref.go:361",#[],none⟩,
 ⟨some 110,.move (.tmp 1),37,"ref.go:361",#[],none⟩,
 ⟨some 111,.move (.tmp 23),50,"ref.go:361",#[],none⟩,
 ⟨some 112,.move (.tmp 22),9,"ref.go:361",#[],none⟩,
 ⟨some 113,.fieldAddr 72 (.tmp 13) 2,0,"ref.go:361",#[],none⟩,
 ⟨some 114,.load 23 (.tmp 113),23,"ref.go:361",#[⟨6,.data⟩],none⟩,
 ⟨some 115,.call { callee := Callee.value (.func 21),args := #[.tmp 109,.tmp 110,.tmp 111,.tmp 112,.tmp 114],argTypes := #[22,37,50,9,23] },26,"ref.go:361",#[⟨2,.data⟩,⟨3,.data⟩,⟨4,.data⟩,⟨5,.data⟩,⟨7,.data⟩],none⟩,
 ⟨some 116,.buildSlice 54 1 #[(0,.tmp 115)],54,"ref.go:361",#[⟨8,.data⟩],none⟩,
 ⟨some 117,.call { callee := Callee.builtin Builtin.append,args := #[.tmp 108,.tmp 116],argTypes := #[54,54] },54,"ref.go:361",#[⟨1,.data⟩,⟨9,.data⟩,⟨8,.chain⟩],none⟩,
 ⟨some 118,.fieldAddr 56 (.tmp 17) 5,0,"ref.go:361",#[⟨0,.phase⟩,⟨1,.phase⟩,⟨2,.phase⟩,⟨3,.phase⟩,⟨4,.phase⟩,⟨5,.phase⟩,⟨6,.phase⟩,⟨7,.phase⟩,⟨8,.phase⟩,⟨9,.phase⟩,⟨10,.phase⟩],none⟩,
 ⟨none,.store 54 (.tmp 118) (.tmp 117),0,"ref.go:361",#[⟨11,.data⟩,⟨10,.data⟩,⟨10,.chain⟩,⟨0,.phase⟩,⟨1,.phase⟩,⟨2,.phase⟩,⟨3,.phase⟩,⟨4,.phase⟩,⟨5,.phase⟩,⟨6,.phase⟩,⟨7,.phase⟩,⟨8,.phase⟩,⟨9,.phase⟩,⟨10,.phase⟩],none⟩]
def UH (b:World) (d:Nat) (M:List (DH d)) (base k:Nat) (sv:Nat->Value) (old v:Value) (w:World):Prop := ∃X a c,Below b.heap.size b X/\M.length<=c/\EA (λq=>q<b.heap.size) X (λw=>Dg w d a M)/\w.ownsRow base 26 1 v (k+1) ((List.range (k*1)).map sv++[.slice a M.length c])/\X.grownBy w old.ownBlock/\(v.ownBlock=old.ownBlock\/v.ownBlock=some X.heap.size)
def Va (g:World) (d bg:Nat) (M:List (DH d)) (base n:Nat) (sv:Nat->Value) (old:Value) (e:List Value) (_:Nat->Bool) (k:Nat) (x:Value) (w:World):Prop :=
 if k=8 then ∃a c,x= .slice a M.length c/\M.length<=c/\EA (λq=>q<g.heap.size) w (λw=>Dg w d a M) else
 if k=9 then ∃b a c,x= .slice (some ⟨b,0,none⟩) 1 1/\w.heap[b]? = some (.cells #[.slice a M.length c] 26 (0,0))/\M.length<=c/\EA (λq=>q<g.heap.size) w (λw=>Dg w d a M) else
 if k=10 then UH g d M base n sv old x w else
 if k=12 then ∃w' h,UH g d M base n sv old h w'/\w=w'.setCell ⟨bg,5,none⟩ h else x=e.getD k undef
theorem IS{b:World}{d bg:Nat}{M:List (DH d)}{base n:Nat}{sv:Nat->Value}{old:Value}{a:List Value}{L c:Nat->Bool}{k:Nat}{x:Value}{w w':World}(h0:k≠8)(h1:k≠9)(h2:k≠10)(h3:k≠12)(h:Va b d bg M base n sv old a L k x w):Va b d bg M base n sv old a c k x w':=by
 unfold Va at *;rw[Ae h0,Ae h1,Ae h2,Ae h3] at *;exact h
def KX (k:Nat):Nat:=if k=8 then 9 else if k=9 then 10 else if k=10 then 12 else 99
theorem TK{Q:Exit->Act->World->Prop}{F:Act}{y:World}{d bg bk base k sc n lcap pn pc kn kc:Nat}{la pa sa ka:Option Addr}{P:Option Addr}{key nm tx:ByteArray}{kd:Int}{sv:Nat->Value}{M:List (DH d)}{i0:TypeInfo}(aa:Tryz.prog.info? 26=some i0)(ab:i0.zero=some (.slice none 0 0))(ac:i0.size=1)(ad:i0.bytes=24)(ae : [107,108,109,110,111,112,113,114,115,116,117,118].all (λd=>decide (d<F.tmps.size))=true)(hk:k<=60)(J:base<=y.heap.size)(af:B4 F 17= .pointer (some ⟨bg,0,none⟩))(s0:B4 F 0= .slice la n lcap)(s1:B4 F 1= .slice pa pn pc)(ag:B4 F 23= .pointer P)(ah:B4 F 22= .string key)(ai:B4 F 13= .pointer (some ⟨bk,0,none⟩))(Y:y.heap[bg]? = some (.cells #[.string nm,.int .i64 kd,.bool false,.string tx,.slice none 0 0,.slice sa k sc] 56 (0,0)))(ck:y.cell? ⟨bk,2,none⟩=some (.slice ka kn kc))(hR:B9 y base 26 1 (.slice sa k sc) k sv)(K:∀R,Below y.heap.size y R->Calls Tryz.prog 21 #[.slice la n lcap,.slice pa pn pc,.pointer P,.string key,.slice ka kn kc] R λe w'=>(∃a c,e= .returned (.slice a M.length c)/\M.length<=c/\EA (λq=>q<R.heap.size) w' (λw=>Dg w d a M))/\Below R.heap.size R w')(hQ:∀s w' I,UH y d M base k sv (.slice sa k sc) I w'->Q .normal (Cn F s [107,108,109,110,111,112,113,114,115,116,117,118]) (w'.setCell ⟨bg,5,none⟩ I)) :
  (Code.region 22 OR.toArray true).wp Tryz.prog Q F y:=by
 have aj:y.cell? ⟨bg,5,none⟩=some (.slice sa k sc):=by simp[World.cell?,Y]
 have S:bg<y.heap.size:=Ag Y;refine Cq (by kernel_rfl) (by kernel_rfl) [107,108,109,110,111,112,113,114,115,116,117,118] (by kernel_rfl) ae (by kernel_rfl) KX (Va y d bg M base k sv (.slice sa k sc) [.pointer (some ⟨bg,5,none⟩),.slice sa k sc,.slice la n lcap,.slice pa pn pc,.pointer P,.string key,.pointer (some ⟨bk,2,none⟩),.slice ka kn kc,undef,undef,undef,.pointer (some ⟨bg,5,none⟩)]) (λL _ w=>L 10=false->Below y.heap.size y w) (λ_=>(Aq _ _).drew) ?_ ?_
 ·intro L p r i o A hL D C hF l G ha
  have x:L 99=false:=Vj hL (by decide);have u1:L 10=true->L 1=true:=λh=>D 10 _ h rfl ⟨1,.data⟩ (by simp) rfl;have Z:L 10=true->L 9=true:=λh=>D 10 _ h rfl ⟨9,.data⟩ (by simp) rfl;have u8:L 9=true->L 8=true:=λh=>D 9 _ h rfl ⟨8,.data⟩ (by simp) rfl;have u7:L 8=true->L 7=true:=λh=>D 8 _ h rfl ⟨7,.data⟩ (by simp) rfl;have N:L 12=true->L 10=true:=λh=>D 12 _ h rfl ⟨10,.data⟩ (by simp) rfl;have m:∀j,j≠10->DJ L j 10=false->L 10=false:=λj hj h=>by rw[Dr (BG hj)]at h;exact h
  have T:p 17= .pointer (some ⟨bg,0,none⟩):=(hF 17 (by decide)).trans af;obtain _|i:=i
  ·obtain rfl:=Ab l
   refine BU (v:=.pointer (some ⟨bg,5,none⟩)) (w':=r) ?_ ⟨λh=>A (m 0 (by decide) h),rfl,λk _ _ _ h=>h⟩;simp only[execOp,BV,T];go_simp
  obtain _|i:=i
  ·obtain rfl:=Ab l
   have e1:p 107= .pointer (some ⟨bg,5,none⟩):=C 0 (ha ⟨0,.data⟩ (by simp) rfl) x;have z0:=BR (A (Ce u1 G)) aj;refine BU (v:=.slice sa k sc) (w':=r) ?_ ⟨λh=>A (m 1 (by decide) h),rfl,λk _ _ _ h=>h⟩;simp only[execOp,BV,e1];go_simp
  obtain _|i:=i
  ·obtain rfl:=Ab l
   have e1:p 0= .slice la n lcap:=(hF 0 (by decide)).trans s0;exact BU (v:=p 0) (w':=r) rfl ⟨λh=>A (m 2 (by decide) h),e1,λk _ _ _ h=>h⟩
  obtain _|i:=i
  ·obtain rfl:=Ab l
   have e1:p 1= .slice pa pn pc:=(hF 1 (by decide)).trans s1;exact BU (v:=p 1) (w':=r) rfl ⟨λh=>A (m 3 (by decide) h),e1,λk _ _ _ h=>h⟩
  obtain _|i:=i
  ·obtain rfl:=Ab l
   have e1:p 23= .pointer P:=(hF 23 (by decide)).trans ag;exact BU (v:=p 23) (w':=r) rfl ⟨λh=>A (m 4 (by decide) h),e1,λk _ _ _ h=>h⟩
  obtain _|i:=i
  ·obtain rfl:=Ab l
   have e1:p 22= .string key:=(hF 22 (by decide)).trans ah;exact BU (v:=p 22) (w':=r) rfl ⟨λh=>A (m 5 (by decide) h),e1,λk _ _ _ h=>h⟩
  obtain _|i:=i
  ·obtain rfl:=Ab l
   have e1:p 13= .pointer (some ⟨bk,0,none⟩):=(hF 13 (by decide)).trans ai;refine BU (v:=.pointer (some ⟨bk,2,none⟩)) (w':=r) ?_ ⟨λh=>A (m 6 (by decide) h),rfl,λk _ _ _ h=>h⟩;simp only[execOp,BV,e1];go_simp
  obtain _|i:=i
  ·obtain rfl:=Ab l
   have e1:p 113= .pointer (some ⟨bk,2,none⟩):=C 6 (ha ⟨6,.data⟩ (by simp) rfl) x;have z0:=BR (A (Ce (λh=>u7 (u8 (Z h))) G)) ck;refine BU (v:=.slice ka kn kc) (w':=r) ?_ ⟨λh=>A (m 7 (by decide) h),rfl,λk _ _ _ h=>h⟩;simp only[execOp,BV,e1];go_simp
  obtain _|i:=i
  ·obtain rfl:=Ab l
   have e2:p 109= .slice la n lcap:=C 2 (ha ⟨2,.data⟩ (by simp) rfl) x;have e3:p 110= .slice pa pn pc:=C 3 (ha ⟨3,.data⟩ (by simp) rfl) x;have e4:p 111= .pointer P:=C 4 (ha ⟨4,.data⟩ (by simp) rfl) x;have e5:p 112= .string key:=C 5 (ha ⟨5,.data⟩ (by simp) rfl) x;have e7:p 114= .slice ka kn kc:=C 7 (ha ⟨7,.data⟩ (by simp) rfl) x;have O:L 9=false:=Ce u8 G;have B:L 10=false:=Ce Z O;have E:L 12=false:=Ce N B;have hB:=A B;refine CO 21 #[.tmp 109,.tmp 110,.tmp 111,.tmp 112,.tmp 114] #[22,37,50,9,23] rfl (AN Tryz.func21 (by kernel_rfl) rfl) #[.slice la n lcap,.slice pa pn pc,.pointer P,.string key,.slice ka kn kc] (by simp[BV,e2,e3,e4,e5,e7]) ((K r hB).mono λe w' h=>?_);obtain⟨⟨a,c,rfl,hc,hf⟩,hw'⟩:=h;exact⟨_,rfl,λ_=>hB.trans (hw'.mono hB.size),⟨a,c,rfl,hc,hf.less λq _ hq=>Ah hq hB.size⟩,λk hk g _ h=>IS hk (λe=>by subst e;rw[O]at g;cases g) (λe=>by subst e;rw[B]at g;cases g) (λe=>by subst e;rw[E]at g;cases g) h⟩
  obtain _|i:=i
  ·obtain rfl:=Ab l
   have B:L 10=false:=Ce Z G;have E:L 12=false:=Ce N B;have hB:=A B;obtain⟨a,c,e1,hc,hf⟩:∃a c,p 115= .slice a M.length c/\M.length<=c/\EA (λq=>q<y.heap.size) r (λw=>Dg w d a M):=C 8 (ha ⟨8,.data⟩ (by simp) rfl) G;have hb:=BW r (Obj.cells #[.slice a M.length c] 26);refine BU (v:=.slice (some ⟨r.heap.size,0,none⟩) 1 1) (w':=r.alloc (.cells #[.slice a M.length c] 26)) ?_ ⟨λ_=>hB.trans (hb.mono hB.size),⟨r.heap.size,a,c,rfl,Ap _ _,hc,hf.kept hb⟩,λk hk g z h=>IS (λe=>?_) hk (λe=>by subst e;rw[B]at g;cases g) (λe=>by subst e;rw[E]at g;cases g) h⟩
   ·simp only[execOp,AJ,AG,AI,BV,e1]
    go_simp
   ·subst e
    exact absurd z (by unfold Fc DJ KX;simp)
  obtain _|i:=i
  ·obtain rfl:=Ab l
   have E:L 12=false:=Ce N G;have hB:=A G;have e1:p 108= .slice sa k sc:=C 1 (ha ⟨1,.data⟩ (by simp) rfl) x;have O:L 9=true:=ha ⟨9,.data⟩ (by simp) rfl;obtain⟨b,a,c,e2,hbo,hc,hf⟩:∃b a c,p 116= .slice (some ⟨b,0,none⟩) 1 1/\r.heap[b]? = some (.cells #[.slice a M.length c] 26 (0,0))/\M.length<=c/\EA (λq=>q<y.heap.size) r (λw=>Dg w d a M):=C 9 O G;refine Pg (.tmp 108) (.tmp 116) 54 rfl base 26 i0 _ 1 24 Tryz.underlying54 aa ab ac ad rfl (by decide) (.slice sa k sc) k _ e1 (hR.kept hB) (some ⟨b,0,none⟩) 1 1 [.slice a M.length c] e2 rfl (Tm hbo) (λh=>by cases h) (by intro u hu;simp at hu;subst hu;rfl) (by unfold maxLen;omega) (by omega) (Am J hB.size) ?_;intro I w' U hgr hvb;refine⟨λh=>(by rw[IT]at h;cases h),⟨r,a,c,hB,hc,hf,U,hgr,hvb⟩,λk hk g z h=>IS (λe=>?_) (λe=>?_) hk (λe=>by subst e;rw[E]at g;cases g) h⟩
   ·subst e
    exact absurd z (by unfold Fc KX;rw[Af rfl,Dr (by decide),O];simp)
   ·subst e
    exact absurd z (by unfold Fc DJ KX;simp)
  obtain _|i:=i
  ·obtain rfl:=Ab l
   refine BU (v:=.pointer (some ⟨bg,5,none⟩)) (w':=r) ?_ ⟨λh=>A (m 11 (by decide) h),rfl,λk _ _ _ h=>h⟩;simp only[execOp,BV,T];go_simp
  obtain _|i:=i
  ·obtain rfl:=Ab l
   have H:L 10=true:=ha ⟨10,.data⟩ (by simp) rfl;have e1:p 118= .pointer (some ⟨bg,5,none⟩):=C 11 (ha ⟨11,.data⟩ (by simp) rfl) x;have hr:UH y d M base k sv (.slice sa k sc) (p 117) r:=C 10 H G;obtain⟨X,a,c,r1,rc,r2,r3,r4,r5⟩:=hr;obtain⟨va,vc,e2⟩:=E7 r3;have V:r.heap[bg]? = some (.cells #[.string nm,.int .i64 kd,.bool false,.string tx,.slice none 0 0,.slice sa k sc] 56 (0,0)):=by
    rw[r4.block bg (Ah S r1.size) (λe=>?_),r1.block bg S]
    ·exact Y
    ·obtain⟨cs,ho⟩:=hR.obj e.symm
     rw[Y]at ho;simp at ho
   have hu:r.cell? ⟨bg,5,none⟩=some (.slice sa k sc):=by simp[World.cell?,V]
   have hfz:r.frozen? ⟨bg,5,none⟩=false:=by simp[World.frozen?,V]
   have O:L 9=true:=Z H;refine CV (w':=r.setCell ⟨bg,5,none⟩ (p 117)) ?_ ⟨λh=>(by rw[Dr (by decide),H]at h;cases h),⟨r,p 117,⟨X,a,c,r1,rc,r2,r3,r4,r5⟩,rfl⟩,λk hk g z h=>IS (λe=>?_) (λe=>?_) (λe=>?_) hk h⟩
   ·rw[e2]
    simp only[execOp,BV,e1,e2];go_simp
   ·subst e
    exact absurd z (by unfold Fc KX;rw[Af rfl,Dr (by decide),O];simp)
   ·subst e
    exact absurd z (by unfold Fc KX;rw[Ae (by decide),Af rfl,Dr (by decide),H];simp)
   ·subst e
    exact absurd z (by unfold Fc DJ KX;simp)
  ·exfalso
   have hlen:i+13<13:=(List.getElem?_eq_some_iff.1 l).1;omega
 ·intro L p r A hL W C
  have x:L 99=false:=Vj hL (by decide);obtain⟨w',I,hr,e⟩:∃w' I,UH y d M base k sv (.slice sa k sc) I w'/\r=w'.setCell ⟨bg,5,none⟩ I:=C 12 (W 12 (by decide)) x;rw[e];exact hQ p w' I hr
end Go.Proofs.YtjjggefmmeminabGreat
