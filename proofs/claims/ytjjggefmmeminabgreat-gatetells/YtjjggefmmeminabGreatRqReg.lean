import Derived.Test.YtjjggefmmeminabGreatMnOut
import Derived.Test.YtjjggefmmeminabGreatJRe
set_option maxRecDepth 100000
set_option maxHeartbeats 4000000
namespace Go.Proofs.YtjjggefmmeminabGreat
open Go.RowKit Go.Sort
def Ob:List Oper:=[
 ⟨some 57,.move (.tmp 2),50,"ref.go:418",#[],none⟩,
 ⟨some 58,.nilCheck (.tmp 57),0,"ref.go:418",#[⟨0,.data⟩],none⟩,
 ⟨some 59,.fieldAddr 99 (.tmp 58) 1,0,"ref.go:418",#[⟨1,.data⟩],none⟩,
 ⟨some 60,.load 97 (.tmp 59),97,"ref.go:418",#[⟨2,.data⟩],none⟩,
 ⟨some 61,.move (.tmp 2),50,"ref.go:418",#[],none⟩,
 ⟨some 62,.nilCheck (.tmp 61),0,"ref.go:418",#[⟨4,.data⟩],none⟩,
 ⟨some 63,.fieldAddr 99 (.tmp 62) 0,0,"ref.go:418",#[⟨5,.data⟩],none⟩,
 ⟨some 64,.fieldAddr 96 (.tmp 63) 1,0,"ref.go:418",#[⟨6,.data⟩],none⟩,
 ⟨some 65,.load 94 (.tmp 64),94,"ref.go:418",#[⟨7,.data⟩],none⟩,
 ⟨some 66,.fieldAddr 72 (.tmp 16) 1,0,"ref.go:418",#[],none⟩,
 ⟨some 67,.load 9 (.tmp 66),9,"ref.go:418",#[⟨9,.data⟩],none⟩,
 ⟨some 68,.call { callee := Callee.value (.func 45),args := #[.tmp 65,.tmp 67],argTypes := #[94,9] },3,"ref.go:418",#[⟨8,.data⟩,⟨10,.data⟩],none⟩,
 ⟨some 69,.indexAddr 97 (.tmp 60) (.tmp 68),0,"ref.go:418",#[⟨3,.data⟩,⟨11,.data⟩],none⟩,
 ⟨some 70,.load 92 (.tmp 69),92,"ref.go:418",#[⟨12,.data⟩],none⟩,
 ⟨some 17,.alloc 92,0,"ref.go:418",#[],none⟩,
 ⟨none,.store 92 (.tmp 17) (.tmp 70),0,"ref.go:418",#[⟨14,.data⟩,⟨13,.data⟩,⟨11,.chain⟩,⟨0,.phase⟩,⟨1,.phase⟩,⟨2,.phase⟩,⟨3,.phase⟩,⟨4,.phase⟩,⟨5,.phase⟩,⟨6,.phase⟩,⟨7,.phase⟩,⟨8,.phase⟩,⟨9,.phase⟩,⟨10,.phase⟩,⟨11,.phase⟩,⟨12,.phase⟩,⟨13,.phase⟩,⟨14,.phase⟩],none⟩]
theorem Tq{Q:Exit->Act->World->Prop}{G:Act}{z:World}{g o bk fn fc B y on oc i:Nat}{fa:Option Addr}{pf u w:ByteArray}{sv:Int}(N : [57,58,59,60,61,62,63,64,65,66,67,68,69,70,17].all (λd=>decide (d<G.tmps.size))=true)(U:B4 G 2= .pointer (some ⟨g,o,none⟩))(O:B4 G 16= .pointer (some ⟨bk,0,none⟩))(hi:i<on)(ca:z.cell? ⟨g,o+1,none⟩=some (.slice fa fn fc))(cb:z.cell? ⟨g,o+2,none⟩=some (.slice (some ⟨B,y,none⟩) on oc))(X:z.cell? ⟨bk,1,none⟩=some (.string pf))(d0:z.cell? ⟨B,y+i*3,none⟩=some (.int .i64 sv))(Y:z.cell? ⟨B,y+i*3+1,none⟩=some (.string u))(Z:z.cell? ⟨B,y+i*3+2,none⟩=some (.string w))(D:∀K,Below z.heap.size z K->Calls Tryz.prog 45 #[.slice fa fn fc,.string pf] K λe w'=>e= .returned (.int .i64 (i:Int))/\Below K.heap.size K w')(hQ:∀s w' H,Below z.heap.size z w'->s 17= .pointer (some ⟨H,0,none⟩)->z.heap.size<=H->w'.heap[H]? = some (.cells #[.int .i64 sv,.string u,.string w] 92 (0,0))->Q .normal (Cn G s [57,58,59,60,61,62,63,64,65,66,67,68,69,70,17]) w') :
  (Code.region 9 Ob.toArray true).wp Tryz.prog Q G z:=by
 have hi1:(i:Int)<(on:Int):=by omega
 have hi0:(0:Int)<=(i:Int):=by omega
 refine Cq (by kernel_rfl) (by kernel_rfl) [57,58,59,60,61,62,63,64,65,66,67,68,69,70,17] (by kernel_rfl) N (by kernel_rfl) (λ_=>99) (It [14,15] [.pointer (some ⟨g,o,none⟩),.pointer (some ⟨g,o,none⟩),.pointer (some ⟨g,o+2,none⟩),.slice (some ⟨B,y,none⟩) on oc,.pointer (some ⟨g,o,none⟩),.pointer (some ⟨g,o,none⟩),.pointer (some ⟨g,o,none⟩),.pointer (some ⟨g,o+1,none⟩),.slice fa fn fc,.pointer (some ⟨bk,1,none⟩),.string pf,.int .i64 (i:Int),.pointer (some ⟨B,y+i*3,none⟩),.agg #[.int .i64 sv,.string u,.string w],undef,undef]) (boxG z [⟨14,15,17,#[.int .i64 0,.string ⟨#[]⟩,.string ⟨#[]⟩],#[.int .i64 sv,.string u,.string w],92⟩]) boxG.start ?_ ?_
 ·intro L c A l oz a P R n E j F m
  have r:=z9 P (by decide);obtain _|l:=l
  ·obtain rfl:=Ab j
   exact zs (c 2) rfl rfl (zF E U rfl) a rfl
  obtain _|l:=l
  ·obtain rfl:=Ab j
   have x:c 57= .pointer (some ⟨g,o,none⟩):=zA n m r 0 (by simp);refine zs (.pointer (some ⟨g,o,none⟩)) rfl rfl rfl a ?_;simp only[execOp,BV,x];go_simp
  obtain _|l:=l
  ·obtain rfl:=Ab j
   have x:c 58= .pointer (some ⟨g,o,none⟩):=zA n m r 1 (by simp);refine zs (.pointer (some ⟨g,o+2,none⟩)) rfl rfl rfl a ?_;simp only[execOp,BV,x];go_simp
  obtain _|l:=l
  ·obtain rfl:=Ab j
   have x:c 59= .pointer (some ⟨g,o+2,none⟩):=zA n m r 2 (by simp);have S:=BR a.below cb;refine zs (.slice (some ⟨B,y,none⟩) on oc) rfl rfl rfl a ?_;simp only[execOp,BV,x];go_simp
  obtain _|l:=l
  ·obtain rfl:=Ab j
   exact zs (c 2) rfl rfl (zF E U rfl) a rfl
  obtain _|l:=l
  ·obtain rfl:=Ab j
   have x:c 61= .pointer (some ⟨g,o,none⟩):=zA n m r 4 (by simp);refine zs (.pointer (some ⟨g,o,none⟩)) rfl rfl rfl a ?_;simp only[execOp,BV,x];go_simp
  obtain _|l:=l
  ·obtain rfl:=Ab j
   have x:c 62= .pointer (some ⟨g,o,none⟩):=zA n m r 5 (by simp);refine zs (.pointer (some ⟨g,o,none⟩)) rfl rfl rfl a ?_;simp only[execOp,BV,x];go_simp
  obtain _|l:=l
  ·obtain rfl:=Ab j
   have x:c 63= .pointer (some ⟨g,o,none⟩):=zA n m r 6 (by simp);refine zs (.pointer (some ⟨g,o+1,none⟩)) rfl rfl rfl a ?_;simp only[execOp,BV,x];go_simp
  obtain _|l:=l
  ·obtain rfl:=Ab j
   have x:c 64= .pointer (some ⟨g,o+1,none⟩):=zA n m r 7 (by simp);have S:=BR a.below ca;refine zs (.slice fa fn fc) rfl rfl rfl a ?_;simp only[execOp,BV,x];go_simp
  obtain _|l:=l
  ·obtain rfl:=Ab j
   have x:=zF E O rfl;refine zs (.pointer (some ⟨bk,1,none⟩)) rfl rfl rfl a ?_;simp only[execOp,BV,x];go_simp
  obtain _|l:=l
  ·obtain rfl:=Ab j
   have x:c 66= .pointer (some ⟨bk,1,none⟩):=zA n m r 9 (by simp);have S:=BR a.below X;refine zs (.string pf) rfl rfl rfl a ?_;simp only[execOp,BV,x];go_simp
  obtain _|l:=l
  ·obtain rfl:=Ab j
   have x:c 65= .slice fa fn fc:=zA n m r 8 (by simp);have e1:c 67= .string pf:=zA n m r 10 (by simp);refine CO 45 #[.tmp 65,.tmp 67] #[94,9] rfl (AN Tryz.func45 (by kernel_rfl) rfl) #[.slice fa fn fc,.string pf] (by simp[BV,x,e1]) ((D A a.below).mono λe w' h=>?_);obtain⟨rfl,T⟩:=h;exact⟨_,rfl,a.step T rfl _,rfl,λk _ _ _ h=>h⟩
  obtain _|l:=l
  ·obtain rfl:=Ab j
   have x:c 60= .slice (some ⟨B,y,none⟩) on oc:=zA n m r 3 (by simp);have e1:c 68= .int .i64 (i:Int):=zA n m r 11 (by simp);refine zs (.pointer (some ⟨B,y+i*3,none⟩)) rfl rfl rfl a ?_;simp only[execOp,BV,x,e1];go_simp
  obtain _|l:=l
  ·obtain rfl:=Ab j
   have x:c 69= .pointer (some ⟨B,y+i*3,none⟩):=zA n m r 12 (by simp);have S:=BR a.below d0;have z1:=BR a.below Y;have z2:=BR a.below Z;refine zs (.agg #[.int .i64 sv,.string u,.string w]) rfl rfl rfl a ?_;simp only[execOp,BV,x];go_simp
  obtain _|l:=l
  ·obtain rfl:=Ab j
   have hs:L 15=false:=by
    cases h:L 15 with
    |false=>rfl
    |true=>rw[R 15 _ h rfl ⟨14,.data⟩ (by simp) rfl]at F;cases F
   refine BU (v:=.pointer (some ⟨A.heap.size,0,none⟩)) (w':=A.alloc (.cells #[.int .i64 0,.string ⟨#[]⟩,.string ⟨#[]⟩] 92)) ?_ ⟨a.alloc (q:=⟨14,15,17,#[.int .i64 0,.string ⟨#[]⟩,.string ⟨#[]⟩],#[.int .i64 sv,.string u,.string w],92⟩) (by intro p I;simp only[Bv,Bq,or_false]at I;subst I;intro _;rfl) rfl (AB rfl) hs,AM,λk _ _ _ h=>h⟩;simp only[execOp];go_simp
  obtain _|l:=l
  ·obtain rfl:=Ab j
   have hb:=m ⟨14,.data⟩ (by simp) rfl;obtain⟨b,M,q2,J⟩:=a.box ⟨14,15,17,#[.int .i64 0,.string ⟨#[]⟩,.string ⟨#[]⟩],#[.int .i64 sv,.string u,.string w],92⟩ (by simp) hb;rw[F]at J;simp only[Bool.false_eq_true,Bd]at J;replace M:c 17=_:=M;have e2:c 70= .agg #[.int .i64 sv,.string u,.string w]:=zA n m r 13 (by simp);obtain⟨x0,x1,x2⟩:A.cell? ⟨b,0,none⟩=some (.int .i64 0)/\A.cell? ⟨b,1,none⟩=some (.string ⟨#[]⟩)/\A.cell? ⟨b,2,none⟩=some (.string ⟨#[]⟩):=by simp[World.cell?,J]
   obtain⟨y0,y1,y2⟩:A.frozen? ⟨b,0,none⟩=false/\A.frozen? ⟨b,1,none⟩=false/\A.frozen? ⟨b,2,none⟩=false:=by simp[World.frozen?,J]
   have g0:=Ao _ b 0 _ 92 (.int .i64 sv) J;have g1:=Ao _ b 1 _ 92 (.string u) g0;have g2:=Ao _ b 2 _ 92 (.string w) g1;refine CV (w':=((A.setCell ⟨b,0,none⟩ (.int .i64 sv)).setCell ⟨b,1,none⟩ (.string u)).setCell ⟨b,2,none⟩ (.string w)) ?_ ⟨a.store (q:=⟨14,15,17,#[.int .i64 0,.string ⟨#[]⟩,.string ⟨#[]⟩],#[.int .i64 sv,.string u,.string w],92⟩) (by intro p I;simp only[Bv,Bq,or_false]at I;subst I;intro _;rfl) rfl (by simp) (AB rfl) hb M q2 (by rw[g2];rfl) ((((OnlyB.refl _ _).set 0 _).set 1 _).set 2 _) _,AM,λk _ _ _ h=>h⟩;simp only[execOp,BV,M,e2];go_simp
  ·exfalso
   have V:l+16<16:=(List.getElem?_eq_some_iff.1 j).1;omega
 ·intro L c A a _ C _
  obtain⟨H,q0,r0,W⟩:=a.box ⟨14,15,17,#[.int .i64 0,.string ⟨#[]⟩,.string ⟨#[]⟩],#[.int .i64 sv,.string u,.string w],92⟩ (by simp) (C 14 (by decide));rw[show L 15=true from C 15 (by decide)]at W;exact hQ c A H a.below q0 r0 W
def Sw:List Oper:=[
 ⟨some 121,.move (.tmp 2),50,"ref.go:430",#[],none⟩,
 ⟨some 122,.nilCheck (.tmp 121),0,"ref.go:430",#[⟨0,.data⟩],none⟩,
 ⟨some 123,.fieldAddr 99 (.tmp 122) 0,0,"ref.go:430",#[⟨1,.data⟩],none⟩,
 ⟨some 124,.fieldAddr 96 (.tmp 123) 1,0,"ref.go:430",#[⟨2,.data⟩],none⟩,
 ⟨some 125,.load 94 (.tmp 124),94,"ref.go:430",#[⟨3,.data⟩],none⟩,
 ⟨some 126,.fieldAddr 72 (.tmp 22) 1,0,"ref.go:430",#[],none⟩,
 ⟨some 127,.load 9 (.tmp 126),9,"ref.go:430",#[⟨5,.data⟩],none⟩,
 ⟨some 128,.call { callee := Callee.value (.func 45),args := #[.tmp 125,.tmp 127],argTypes := #[94,9] },3,"ref.go:430",#[⟨4,.data⟩,⟨6,.data⟩],none⟩,
 ⟨some 23,.assign (.tmp 128),3,"ref.go:430",#[⟨7,.data⟩,⟨7,.chain⟩,⟨0,.phase⟩,⟨1,.phase⟩,⟨2,.phase⟩,⟨3,.phase⟩,⟨4,.phase⟩,⟨5,.phase⟩,⟨6,.phase⟩,⟨7,.phase⟩],none⟩]
theorem U5{Q:Exit->Act->World->Prop}{w:Act}{q:World}{g o bk fn fc i:Nat}{fa:Option Addr}{pf:ByteArray}(A : [121,122,123,124,125,126,127,128,23].all (λd=>decide (d<w.tmps.size))=true)(F:B4 w 2= .pointer (some ⟨g,o,none⟩))(B:B4 w 22= .pointer (some ⟨bk,0,none⟩))(ca:q.cell? ⟨g,o+1,none⟩=some (.slice fa fn fc))(cb:q.cell? ⟨bk,1,none⟩=some (.string pf))(r:∀z,Below q.heap.size q z->Calls Tryz.prog 45 #[.slice fa fn fc,.string pf] z λe w'=>e= .returned (.int .i64 (i:Int))/\Below z.heap.size z w')(G:∀s w',Below q.heap.size q w'->s 23= .int .i64 (i:Int)->Q .normal (Cn w s [121,122,123,124,125,126,127,128,23]) w') :
  (Code.region 24 Sw.toArray true).wp Tryz.prog Q w q:=by
 refine Cq (by kernel_rfl) (by kernel_rfl) [121,122,123,124,125,126,127,128,23] (by kernel_rfl) A (by kernel_rfl) (λ_=>99) (It [] [.pointer (some ⟨g,o,none⟩),.pointer (some ⟨g,o,none⟩),.pointer (some ⟨g,o,none⟩),.pointer (some ⟨g,o+1,none⟩),.slice fa fn fc,.pointer (some ⟨bk,1,none⟩),.string pf,.int .i64 (i:Int),.int .i64 (i:Int)]) (boxG q []) boxG.start ?_ ?_
 ·intro H b C l L a u I m x c J n
  have j:=z9 u (by decide);obtain _|l:=l
  ·obtain rfl:=Ab c
   exact zs (b 2) rfl rfl (zF x F rfl) a rfl
  obtain _|l:=l
  ·obtain rfl:=Ab c
   have p:b 121= .pointer (some ⟨g,o,none⟩):=zA m n j 0 (by simp);refine zs (.pointer (some ⟨g,o,none⟩)) rfl rfl rfl a ?_;simp only[execOp,BV,p];go_simp
  obtain _|l:=l
  ·obtain rfl:=Ab c
   have p:b 122= .pointer (some ⟨g,o,none⟩):=zA m n j 1 (by simp);refine zs (.pointer (some ⟨g,o,none⟩)) rfl rfl rfl a ?_;simp only[execOp,BV,p];go_simp
  obtain _|l:=l
  ·obtain rfl:=Ab c
   have p:b 123= .pointer (some ⟨g,o,none⟩):=zA m n j 2 (by simp);refine zs (.pointer (some ⟨g,o+1,none⟩)) rfl rfl rfl a ?_;simp only[execOp,BV,p];go_simp
  obtain _|l:=l
  ·obtain rfl:=Ab c
   have p:b 124= .pointer (some ⟨g,o+1,none⟩):=zA m n j 3 (by simp);have K:=BR a.below ca;refine zs (.slice fa fn fc) rfl rfl rfl a ?_;simp only[execOp,BV,p];go_simp
  obtain _|l:=l
  ·obtain rfl:=Ab c
   have p:=zF x B rfl;refine zs (.pointer (some ⟨bk,1,none⟩)) rfl rfl rfl a ?_;simp only[execOp,BV,p];go_simp
  obtain _|l:=l
  ·obtain rfl:=Ab c
   have p:b 126= .pointer (some ⟨bk,1,none⟩):=zA m n j 5 (by simp);have K:=BR a.below cb;refine zs (.string pf) rfl rfl rfl a ?_;simp only[execOp,BV,p];go_simp
  obtain _|l:=l
  ·obtain rfl:=Ab c
   have p:b 125= .slice fa fn fc:=zA m n j 4 (by simp);have e1:b 127= .string pf:=zA m n j 6 (by simp);refine CO 45 #[.tmp 125,.tmp 127] #[94,9] rfl (AN Tryz.func45 (by kernel_rfl) rfl) #[.slice fa fn fc,.string pf] (by simp[BV,p,e1]) ((r C a.below).mono λe w' h=>?_);obtain⟨rfl,D⟩:=h;exact⟨_,rfl,a.step D rfl _,rfl,λk _ _ _ h=>h⟩
  obtain _|l:=l
  ·obtain rfl:=Ab c
   have p:b 128= .int .i64 (i:Int):=zA m n j 7 (by simp);refine zs (.int .i64 (i:Int)) rfl rfl rfl a ?_;simp only[execOp,BV,p];go_simp
  ·exfalso
   have E:l+9<9:=(List.getElem?_eq_some_iff.1 c).1;omega
 ·intro H b C a u y v
  have j:=z9 u (by decide);exact G b C a.below (v 8 (y 8 (by decide)) j)
def NI:List Oper:=[
 ⟨some 152,.move (.tmp 0),22,"ref.go:437",#[],none⟩,
 ⟨some 153,.fieldAddr 92 (.tmp 24) 0,0,"ref.go:437",#[],none⟩,
 ⟨some 154,.load 3 (.tmp 153),3,"ref.go:437",#[⟨1,.data⟩],none⟩,
 ⟨some 155,.indexAddr 22 (.tmp 152) (.tmp 154),0,"ref.go:437",#[⟨0,.data⟩,⟨2,.data⟩],none⟩,
 ⟨some 156,.fieldAddr 81 (.tmp 155) 2,0,"ref.go:437",#[⟨3,.data⟩],none⟩,
 ⟨some 157,.load 79 (.tmp 156),79,"ref.go:437",#[⟨4,.data⟩],none⟩,
 ⟨some 158,.fieldAddr 92 (.tmp 24) 1,0,"ref.go:437",#[],none⟩,
 ⟨some 159,.load 9 (.tmp 158),9,"ref.go:437",#[⟨6,.data⟩],none⟩,
 ⟨some 160,.move (.tmp 27),9,"ref.go:437",#[],none⟩,
 ⟨some 161,.call { callee := Callee.value (.func 44),args := #[.tmp 157,.tmp 159,.tmp 160],argTypes := #[79,9,9] },115,"ref.go:437",#[⟨5,.data⟩,⟨7,.data⟩,⟨8,.data⟩],none⟩,
 ⟨some 28,.assign (.tmp 161),115,"ref.go:437",#[⟨9,.data⟩,⟨9,.chain⟩,⟨0,.phase⟩,⟨1,.phase⟩,⟨2,.phase⟩,⟨3,.phase⟩,⟨4,.phase⟩,⟨5,.phase⟩,⟨6,.phase⟩,⟨7,.phase⟩,⟨8,.phase⟩,⟨9,.phase⟩],none⟩]
theorem S7{Q:Exit->Act->World->Prop}{w:Act}{p:World}{bo l lo n lcap s xn xc:Nat}{x tp:Option Addr}{ty key:ByteArray}(B : [152,153,154,155,156,157,158,159,160,161,28].all (λd=>decide (d<w.tmps.size))=true)(s0:B4 w 0= .slice (some ⟨l,lo,none⟩) n lcap)(y:B4 w 24= .pointer (some ⟨bo,0,none⟩))(C:B4 w 27= .string key)(hs:s<n)(c0:p.cell? ⟨bo,0,none⟩=some (.int .i64 (s:Int)))(c1:p.cell? ⟨bo,1,none⟩=some (.string ty))(H:p.cell? ⟨l,lo+s*3+2,none⟩=some (.slice x xn xc))(r:∀A,Below p.heap.size p A->Calls Tryz.prog 44 #[.slice x xn xc,.string ty,.string key] A λe w'=>e= .returned (.pointer tp)/\Below A.heap.size A w')(I:∀s w',Below p.heap.size p w'->s 28= .pointer tp->Q .normal (Cn w s [152,153,154,155,156,157,158,159,160,161,28]) w') :
  (Code.region 31 NI.toArray true).wp Tryz.prog Q w p:=by
 have J:(s:Int)<(n:Int):=by omega
 have K:(0:Int)<=(s:Int):=by omega
 refine Cq (by kernel_rfl) (by kernel_rfl) [152,153,154,155,156,157,158,159,160,161,28] (by kernel_rfl) B (by kernel_rfl) (λ_=>99) (It [] [.slice (some ⟨l,lo,none⟩) n lcap,.pointer (some ⟨bo,0,none⟩),.int .i64 (s:Int),.pointer (some ⟨l,lo+s*3,none⟩),.pointer (some ⟨l,lo+s*3+2,none⟩),.slice x xn xc,.pointer (some ⟨bo,1,none⟩),.string ty,.string key,.pointer tp,.pointer tp]) (boxG p []) boxG.start ?_ ?_
 ·intro L b D i O a u M j q c N m
  have g:=z9 u (by decide);obtain _|i:=i
  ·obtain rfl:=Ab c
   exact zs (b 0) rfl rfl (zF q s0 rfl) a rfl
  obtain _|i:=i
  ·obtain rfl:=Ab c
   have o:=zF q y rfl;refine zs (.pointer (some ⟨bo,0,none⟩)) rfl rfl rfl a ?_;simp only[execOp,BV,o];go_simp
  obtain _|i:=i
  ·obtain rfl:=Ab c
   have o:b 153= .pointer (some ⟨bo,0,none⟩):=zA j m g 1 (by simp);have F:=BR a.below c0;refine zs (.int .i64 (s:Int)) rfl rfl rfl a ?_;simp only[execOp,BV,o];go_simp
  obtain _|i:=i
  ·obtain rfl:=Ab c
   have o:b 152= .slice (some ⟨l,lo,none⟩) n lcap:=zA j m g 0 (by simp);have e1:b 154= .int .i64 (s:Int):=zA j m g 2 (by simp);refine zs (.pointer (some ⟨l,lo+s*3,none⟩)) rfl rfl rfl a ?_;simp only[execOp,BV,o,e1];go_simp
  obtain _|i:=i
  ·obtain rfl:=Ab c
   have o:b 155= .pointer (some ⟨l,lo+s*3,none⟩):=zA j m g 3 (by simp);refine zs (.pointer (some ⟨l,lo+s*3+2,none⟩)) rfl rfl rfl a ?_;simp only[execOp,BV,o];go_simp
  obtain _|i:=i
  ·obtain rfl:=Ab c
   have o:b 156= .pointer (some ⟨l,lo+s*3+2,none⟩):=zA j m g 4 (by simp);have F:=BR a.below H;refine zs (.slice x xn xc) rfl rfl rfl a ?_;simp only[execOp,BV,o];go_simp
  obtain _|i:=i
  ·obtain rfl:=Ab c
   have o:=zF q y rfl;refine zs (.pointer (some ⟨bo,1,none⟩)) rfl rfl rfl a ?_;simp only[execOp,BV,o];go_simp
  obtain _|i:=i
  ·obtain rfl:=Ab c
   have o:b 158= .pointer (some ⟨bo,1,none⟩):=zA j m g 6 (by simp);have F:=BR a.below c1;refine zs (.string ty) rfl rfl rfl a ?_;simp only[execOp,BV,o];go_simp
  obtain _|i:=i
  ·obtain rfl:=Ab c
   exact zs (b 27) rfl rfl (zF q C rfl) a rfl
  obtain _|i:=i
  ·obtain rfl:=Ab c
   have o:b 157= .slice x xn xc:=zA j m g 5 (by simp);have e1:b 159= .string ty:=zA j m g 7 (by simp);have e2:b 160= .string key:=zA j m g 8 (by simp);refine CO 44 #[.tmp 157,.tmp 159,.tmp 160] #[79,9,9] rfl (AN Tryz.func44 (by kernel_rfl) rfl) #[.slice x xn xc,.string ty,.string key] (by simp[BV,o,e1,e2]) ((r D a.below).mono λe w' h=>?_);obtain⟨rfl,E⟩:=h;exact⟨_,rfl,a.step E rfl _,rfl,λk _ _ _ h=>h⟩
  obtain _|i:=i
  ·obtain rfl:=Ab c
   have o:b 161= .pointer tp:=zA j m g 9 (by simp);refine zs (.pointer tp) rfl rfl rfl a ?_;simp only[execOp,BV,o];go_simp
  ·exfalso
   have G:i+11<11:=(List.getElem?_eq_some_iff.1 c).1;omega
 ·intro L b D a u z v
  have g:=z9 u (by decide);exact I b D a.below (v 10 (z 10 (by decide)) g)
end Go.Proofs.YtjjggefmmeminabGreat
