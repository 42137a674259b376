import Derived.Test.YtjjggefmmeminabGreatRqSame
set_option maxRecDepth 100000
set_option maxHeartbeats 4000000
namespace Go.Proofs.YtjjggefmmeminabGreat
open Go.RowKit Go.Sort
def PE:List Oper:=[
 ⟨some 19,.move (.tmp 0),26,"ref.go:399",#[],none⟩,
 ⟨some 20,.move (.tmp 5),3,"ref.go:399",#[],none⟩,
 ⟨some 21,.indexAddr 26 (.tmp 19) (.tmp 20),0,"ref.go:399",#[⟨0,.data⟩,⟨1,.data⟩],none⟩,
 ⟨some 22,.load 56 (.tmp 21),56,"ref.go:399",#[⟨2,.data⟩],none⟩,
 ⟨some 23,.move (.tmp 1),26,"ref.go:399",#[{ on := 10,ground := Ground.gcOnly Departure.lateStores }],none⟩,
 ⟨some 24,.move (.tmp 5),3,"ref.go:399",#[{ on := 10,ground := Ground.gcOnly Departure.lateStores }],none⟩,
 ⟨some 25,.indexAddr 26 (.tmp 23) (.tmp 24),0,"ref.go:399",#[⟨4,.data⟩,⟨5,.data⟩,{ on := 10,ground := Ground.gcOnly Departure.lateStores }],none⟩,
 ⟨some 26,.load 56 (.tmp 25),56,"ref.go:399",#[⟨6,.data⟩,{ on := 10,ground := Ground.gcOnly Departure.lateStores }],none⟩,
 ⟨some 6,.alloc 56,0,"ref.go:399",#[],none⟩,
 ⟨some 7,.alloc 56,0,"ref.go:399",#[],none⟩,
 ⟨none,.store 56 (.tmp 6) (.tmp 22),0,"ref.go:399",#[⟨8,.data⟩,⟨3,.data⟩,⟨0,.phase⟩,⟨1,.phase⟩,⟨2,.phase⟩,⟨3,.phase⟩,{ on := 4,ground := Ground.textOnly Departure.lateStores },{ on := 5,ground := Ground.textOnly Departure.lateStores },{ on := 6,ground := Ground.textOnly Departure.lateStores },{ on := 7,ground := Ground.textOnly Departure.lateStores },⟨8,.phase⟩,⟨9,.phase⟩],none⟩,
 ⟨none,.store 56 (.tmp 7) (.tmp 26),0,"ref.go:399",#[⟨9,.data⟩,⟨7,.data⟩,⟨10,.chain⟩,⟨0,.phase⟩,⟨1,.phase⟩,⟨2,.phase⟩,⟨3,.phase⟩,⟨4,.phase⟩,⟨5,.phase⟩,⟨6,.phase⟩,⟨7,.phase⟩,⟨8,.phase⟩,⟨9,.phase⟩,⟨10,.phase⟩],none⟩]
theorem Tx{Q:Exit->Act->World->Prop}{N:Act}{u:World}{g o n ca g2 o2 cb k m C p D E F:Nat}{nm tx:ByteArray}{kd:Int}{l:Bool}{A B G B':Option Addr}(S : [19,20,21,22,23,24,25,26,6,7].all (λd=>decide (d<N.tmps.size))=true)(s0:B4 N 0= .slice (some ⟨g,o,none⟩) n ca)(s1:B4 N 1= .slice (some ⟨g2,o2,none⟩) n cb)(s5:B4 N 5= .int .i64 (k:Int))(hk:k<n)(c0:u.cell? ⟨g,o+k*6,none⟩=some (.string nm))(c1:u.cell? ⟨g,o+k*6+1,none⟩=some (.int .i64 kd))(c2:u.cell? ⟨g,o+k*6+2,none⟩=some (.bool l))(c3:u.cell? ⟨g,o+k*6+3,none⟩=some (.string tx))(c4:u.cell? ⟨g,o+k*6+4,none⟩=some (.slice A m C))(c5:u.cell? ⟨g,o+k*6+5,none⟩=some (.slice B p D))(d0:u.cell? ⟨g2,o2+k*6,none⟩=some (.string nm))(d1:u.cell? ⟨g2,o2+k*6+1,none⟩=some (.int .i64 kd))(d2:u.cell? ⟨g2,o2+k*6+2,none⟩=some (.bool l))(d3:u.cell? ⟨g2,o2+k*6+3,none⟩=some (.string tx))(d4:u.cell? ⟨g2,o2+k*6+4,none⟩=some (.slice G m E))(d5:u.cell? ⟨g2,o2+k*6+5,none⟩=some (.slice B' p F))(hQ:∀s w' O P,Below u.heap.size u w'->s 6= .pointer (some ⟨O,0,none⟩)->u.heap.size<=O->w'.heap[O]? = some (.cells #[.string nm,.int .i64 kd,.bool l,.string tx,.slice A m C,.slice B p D] 56 (0,0))->s 7= .pointer (some ⟨P,0,none⟩)->u.heap.size<=P->w'.heap[P]? = some (.cells #[.string nm,.int .i64 kd,.bool l,.string tx,.slice G m E,.slice B' p F] 56 (0,0))->Q .normal (Cn N s [19,20,21,22,23,24,25,26,6,7]) w') :
  (Code.region 6 PE.toArray true).wp Tryz.prog Q N u:=by
 refine Cq (by kernel_rfl) (by kernel_rfl) [19,20,21,22,23,24,25,26,6,7] (by kernel_rfl) S (by kernel_rfl) (λ_=>99) (It [8,9,10,11] [.slice (some ⟨g,o,none⟩) n ca,.int .i64 (k:Int),.pointer (some ⟨g,o+k*6,none⟩),.agg #[.string nm,.int .i64 kd,.bool l,.string tx,.slice A m C,.slice B p D],.slice (some ⟨g2,o2,none⟩) n cb,.int .i64 (k:Int),.pointer (some ⟨g2,o2+k*6,none⟩),.agg #[.string nm,.int .i64 kd,.bool l,.string tx,.slice G m E,.slice B' p F],undef,undef,undef,undef]) (boxG u [⟨8,10,6,#[.string ⟨#[]⟩,.int .i64 0,.bool false,.string ⟨#[]⟩,.slice none 0 0,.slice none 0 0],#[.string nm,.int .i64 kd,.bool l,.string tx,.slice A m C,.slice B p D],56⟩,⟨9,11,7,#[.string ⟨#[]⟩,.int .i64 0,.bool false,.string ⟨#[]⟩,.slice none 0 0,.slice none 0 0],#[.string nm,.int .i64 kd,.bool l,.string tx,.slice G m E,.slice B' p F],56⟩]) boxG.start ?_ ?_
 ·intro L c e j oz a T R w K i z r
  have hk1:(k:Int)<(n:Int):=by omega
  have hk0:(0:Int)<=(k:Int):=by omega
  have x:=z9 T (by decide);obtain _|j:=j
  ·obtain rfl:=Ab i
   exact zs (c 0) rfl rfl (zF K s0 rfl) a rfl
  obtain _|j:=j
  ·obtain rfl:=Ab i
   exact zs (c 5) rfl rfl (zF K s5 rfl) a rfl
  obtain _|j:=j
  ·obtain rfl:=Ab i
   have M:c 19= .slice (some ⟨g,o,none⟩) n ca:=zA w r x 0 (by simp);have e1:c 20= .int .i64 (k:Int):=zA w r x 1 (by simp);refine zs (.pointer (some ⟨g,o+k*6,none⟩)) rfl rfl rfl a ?_;simp only[execOp,BV,M,e1];go_simp
  obtain _|j:=j
  ·obtain rfl:=Ab i
   have M:c 21= .pointer (some ⟨g,o+k*6,none⟩):=zA w r x 2 (by simp);have z0:=BR a.below c0;have z1:=BR a.below c1;have z2:=BR a.below c2;have z3:=BR a.below c3;have z4:=BR a.below c4;have z5:=BR a.below c5;refine zs (.agg #[.string nm,.int .i64 kd,.bool l,.string tx,.slice A m C,.slice B p D]) rfl rfl rfl a ?_;simp only[execOp,BV,M];go_simp
  obtain _|j:=j
  ·obtain rfl:=Ab i
   exact zs (c 1) rfl rfl (zF K s1 rfl) a rfl
  obtain _|j:=j
  ·obtain rfl:=Ab i
   exact zs (c 5) rfl rfl (zF K s5 rfl) a rfl
  obtain _|j:=j
  ·obtain rfl:=Ab i
   have M:c 23= .slice (some ⟨g2,o2,none⟩) n cb:=zA w r x 4 (by simp);have e1:c 24= .int .i64 (k:Int):=zA w r x 5 (by simp);refine zs (.pointer (some ⟨g2,o2+k*6,none⟩)) rfl rfl rfl a ?_;simp only[execOp,BV,M,e1];go_simp
  obtain _|j:=j
  ·obtain rfl:=Ab i
   have M:c 25= .pointer (some ⟨g2,o2+k*6,none⟩):=zA w r x 6 (by simp);have z0:=BR a.below d0;have z1:=BR a.below d1;have z2:=BR a.below d2;have z3:=BR a.below d3;have z4:=BR a.below d4;have z5:=BR a.below d5;refine zs (.agg #[.string nm,.int .i64 kd,.bool l,.string tx,.slice G m E,.slice B' p F]) rfl rfl rfl a ?_;simp only[execOp,BV,M];go_simp
  obtain _|j:=j
  ·obtain rfl:=Ab i
   have hs:L 10=false:=by
    cases h:L 10 with
    |false=>rfl
    |true=>rw[R 10 _ h rfl ⟨8,.data⟩ (by simp) rfl]at z;cases z
   refine BU (v:=.pointer (some ⟨e.heap.size,0,none⟩)) (w':=e.alloc (.cells #[.string ⟨#[]⟩,.int .i64 0,.bool false,.string ⟨#[]⟩,.slice none 0 0,.slice none 0 0] 56)) ?_ ⟨a.alloc (q:=⟨8,10,6,#[.string ⟨#[]⟩,.int .i64 0,.bool false,.string ⟨#[]⟩,.slice none 0 0,.slice none 0 0],#[.string nm,.int .i64 kd,.bool l,.string tx,.slice A m C,.slice B p D],56⟩) (by intro p H;simp only[Bv,Bq,or_false]at H;rcases H with rfl|rfl<;>intro h<;>first|rfl|exact absurd h (AB rfl)) rfl (AB rfl) hs,AM,λk _ _ _ h=>h⟩
   simp only[execOp];go_simp
  obtain _|j:=j
  ·obtain rfl:=Ab i
   have hs:L 11=false:=by
    cases h:L 11 with
    |false=>rfl
    |true=>rw[R 11 _ h rfl ⟨9,.data⟩ (by simp) rfl]at z;cases z
   refine BU (v:=.pointer (some ⟨e.heap.size,0,none⟩)) (w':=e.alloc (.cells #[.string ⟨#[]⟩,.int .i64 0,.bool false,.string ⟨#[]⟩,.slice none 0 0,.slice none 0 0] 56)) ?_ ⟨a.alloc (q:=⟨9,11,7,#[.string ⟨#[]⟩,.int .i64 0,.bool false,.string ⟨#[]⟩,.slice none 0 0,.slice none 0 0],#[.string nm,.int .i64 kd,.bool l,.string tx,.slice G m E,.slice B' p F],56⟩) (by intro p H;simp only[Bv,Bq,or_false]at H;rcases H with rfl|rfl<;>intro h<;>first|rfl|exact absurd h (AB rfl)) rfl (AB rfl) hs,AM,λk _ _ _ h=>h⟩
   simp only[execOp];go_simp
  obtain _|j:=j
  ·obtain rfl:=Ab i
   have hb:=r ⟨8,.data⟩ (by simp) rfl;obtain⟨b,I,U,J⟩:=a.box ⟨8,10,6,#[.string ⟨#[]⟩,.int .i64 0,.bool false,.string ⟨#[]⟩,.slice none 0 0,.slice none 0 0],#[.string nm,.int .i64 kd,.bool l,.string tx,.slice A m C,.slice B p D],56⟩ (by simp) hb;rw[z]at J;simp only[Bool.false_eq_true,Bd]at J;replace I:c 6=_:=I;have e2:c 22= .agg #[.string nm,.int .i64 kd,.bool l,.string tx,.slice A m C,.slice B p D]:=zA w r x 3 (by simp);obtain⟨x0,x1,x2,x3,x4,x5⟩:e.cell? ⟨b,0,none⟩=some (.string ⟨#[]⟩)/\e.cell? ⟨b,1,none⟩=some (.int .i64 0)/\e.cell? ⟨b,2,none⟩=some (.bool false)/\e.cell? ⟨b,3,none⟩=some (.string ⟨#[]⟩)/\e.cell? ⟨b,4,none⟩=some (.slice none 0 0)/\e.cell? ⟨b,5,none⟩=some (.slice none 0 0):=by simp[World.cell?,J]
   obtain⟨y0,y1,y2,y3,y4,y5⟩:e.frozen? ⟨b,0,none⟩=false/\e.frozen? ⟨b,1,none⟩=false/\e.frozen? ⟨b,2,none⟩=false/\e.frozen? ⟨b,3,none⟩=false/\e.frozen? ⟨b,4,none⟩=false/\e.frozen? ⟨b,5,none⟩=false:=by simp[World.frozen?,J]
   have V:=Ao _ b 0 _ 56 (.string nm) J;have W:=Ao _ b 1 _ 56 (.int .i64 kd) V;have g2:=Ao _ b 2 _ 56 (.bool l) W;have X:=Ao _ b 3 _ 56 (.string tx) g2;have Y:=Ao _ b 4 _ 56 (.slice A m C) X;have Z:=Ao _ b 5 _ 56 (.slice B p D) Y;refine CV (w':=(((((e.setCell ⟨b,0,none⟩ (.string nm)).setCell ⟨b,1,none⟩ (.int .i64 kd)).setCell ⟨b,2,none⟩ (.bool l)).setCell ⟨b,3,none⟩ (.string tx)).setCell ⟨b,4,none⟩ (.slice A m C)).setCell ⟨b,5,none⟩ (.slice B p D)) ?_ ⟨a.store (q:=⟨8,10,6,#[.string ⟨#[]⟩,.int .i64 0,.bool false,.string ⟨#[]⟩,.slice none 0 0,.slice none 0 0],#[.string nm,.int .i64 kd,.bool l,.string tx,.slice A m C,.slice B p D],56⟩) (by intro p H;simp only[Bv,Bq,or_false]at H;rcases H with rfl|rfl<;>intro h<;>first|rfl|exact absurd h (AB rfl)) rfl (by simp) (AB rfl) hb I U (by rw[Z];rfl) (((((((OnlyB.refl _ _).set 0 _).set 1 _).set 2 _).set 3 _).set 4 _).set 5 _) _,AM,λk _ _ _ h=>h⟩
   simp only[execOp,BV,I,e2];go_simp
  obtain _|j:=j
  ·obtain rfl:=Ab i
   have hb:=r ⟨9,.data⟩ (by simp) rfl;obtain⟨b,I,U,J⟩:=a.box ⟨9,11,7,#[.string ⟨#[]⟩,.int .i64 0,.bool false,.string ⟨#[]⟩,.slice none 0 0,.slice none 0 0],#[.string nm,.int .i64 kd,.bool l,.string tx,.slice G m E,.slice B' p F],56⟩ (by simp) hb;rw[z]at J;simp only[Bool.false_eq_true,Bd]at J;replace I:c 7=_:=I;have e2:c 26= .agg #[.string nm,.int .i64 kd,.bool l,.string tx,.slice G m E,.slice B' p F]:=zA w r x 7 (by simp);obtain⟨x0,x1,x2,x3,x4,x5⟩:e.cell? ⟨b,0,none⟩=some (.string ⟨#[]⟩)/\e.cell? ⟨b,1,none⟩=some (.int .i64 0)/\e.cell? ⟨b,2,none⟩=some (.bool false)/\e.cell? ⟨b,3,none⟩=some (.string ⟨#[]⟩)/\e.cell? ⟨b,4,none⟩=some (.slice none 0 0)/\e.cell? ⟨b,5,none⟩=some (.slice none 0 0):=by simp[World.cell?,J]
   obtain⟨y0,y1,y2,y3,y4,y5⟩:e.frozen? ⟨b,0,none⟩=false/\e.frozen? ⟨b,1,none⟩=false/\e.frozen? ⟨b,2,none⟩=false/\e.frozen? ⟨b,3,none⟩=false/\e.frozen? ⟨b,4,none⟩=false/\e.frozen? ⟨b,5,none⟩=false:=by simp[World.frozen?,J]
   have V:=Ao _ b 0 _ 56 (.string nm) J;have W:=Ao _ b 1 _ 56 (.int .i64 kd) V;have g2:=Ao _ b 2 _ 56 (.bool l) W;have X:=Ao _ b 3 _ 56 (.string tx) g2;have Y:=Ao _ b 4 _ 56 (.slice G m E) X;have Z:=Ao _ b 5 _ 56 (.slice B' p F) Y;refine CV (w':=(((((e.setCell ⟨b,0,none⟩ (.string nm)).setCell ⟨b,1,none⟩ (.int .i64 kd)).setCell ⟨b,2,none⟩ (.bool l)).setCell ⟨b,3,none⟩ (.string tx)).setCell ⟨b,4,none⟩ (.slice G m E)).setCell ⟨b,5,none⟩ (.slice B' p F)) ?_ ⟨a.store (q:=⟨9,11,7,#[.string ⟨#[]⟩,.int .i64 0,.bool false,.string ⟨#[]⟩,.slice none 0 0,.slice none 0 0],#[.string nm,.int .i64 kd,.bool l,.string tx,.slice G m E,.slice B' p F],56⟩) (by intro p H;simp only[Bv,Bq,or_false]at H;rcases H with rfl|rfl<;>intro h<;>first|rfl|exact absurd h (AB rfl)) rfl (by simp) (AB rfl) hb I U (by rw[Z];rfl) (((((((OnlyB.refl _ _).set 0 _).set 1 _).set 2 _).set 3 _).set 4 _).set 5 _) _,AM,λk _ _ _ h=>h⟩
   simp only[execOp,BV,I,e2];go_simp
  ·exfalso
   have hlen:j+12<12:=(List.getElem?_eq_some_iff.1 i).1;omega
 ·intro L c e a _ y _
  obtain⟨O,q0,r0,t0⟩:=a.box ⟨8,10,6,#[.string ⟨#[]⟩,.int .i64 0,.bool false,.string ⟨#[]⟩,.slice none 0 0,.slice none 0 0],#[.string nm,.int .i64 kd,.bool l,.string tx,.slice A m C,.slice B p D],56⟩ (by simp) (y 8 (by decide));rw[show L 10=true from y 10 (by decide)]at t0;obtain⟨P,I,r1,t1⟩:=a.box ⟨9,11,7,#[.string ⟨#[]⟩,.int .i64 0,.bool false,.string ⟨#[]⟩,.slice none 0 0,.slice none 0 0],#[.string nm,.int .i64 kd,.bool l,.string tx,.slice G m E,.slice B' p F],56⟩ (by simp) (y 9 (by decide));rw[show L 11=true from y 11 (by decide)]at t1;exact hQ c e O P a.below q0 r0 t0 I r1 t1
def PV:List Oper:=[
 ⟨some 76,.fieldAddr 56 (.tmp 6) 5,0,"ref.go:404",#[],none⟩,
 ⟨some 77,.load 54 (.tmp 76),54,"ref.go:404",#[⟨0,.data⟩],none⟩,
 ⟨some 78,.move (.tmp 8),3,"ref.go:404",#[],none⟩,
 ⟨some 79,.indexAddr 54 (.tmp 77) (.tmp 78),0,"ref.go:404",#[⟨1,.data⟩,⟨2,.data⟩],none⟩,
 ⟨some 80,.load 26 (.tmp 79),26,"ref.go:404",#[⟨3,.data⟩],none⟩,
 ⟨some 81,.fieldAddr 56 (.tmp 7) 5,0,"ref.go:404",#[],none⟩,
 ⟨some 82,.load 54 (.tmp 81),54,"ref.go:404",#[⟨5,.data⟩],none⟩,
 ⟨some 83,.move (.tmp 8),3,"ref.go:404",#[],none⟩,
 ⟨some 84,.indexAddr 54 (.tmp 82) (.tmp 83),0,"ref.go:404",#[⟨6,.data⟩,⟨7,.data⟩],none⟩,
 ⟨some 85,.load 26 (.tmp 84),26,"ref.go:404",#[⟨8,.data⟩],none⟩,
 ⟨some 86,.call { callee := Callee.value (.func 8),args := #[.tmp 80,.tmp 85],argTypes := #[26,26] },4,"ref.go:404",#[⟨4,.data⟩,⟨9,.data⟩],none⟩,
 ⟨some 87,.unOp UnOp.not 4 (.tmp 86),4,"ref.go:404",#[⟨10,.data⟩],none⟩]
theorem T4{Q:Exit->Act->World->Prop}{z:Act}{u:World}{bx bY p q m D p' q' G j n C B:Nat}{A E:Option Addr}(I : [76,77,78,79,80,81,82,83,84,85,86,87].all (λd=>decide (d<z.tmps.size))=true)(O:B4 z 6= .pointer (some ⟨bx,0,none⟩))(P:B4 z 7= .pointer (some ⟨bY,0,none⟩))(M:B4 z 8= .int .i64 (j:Int))(Z:j<m)(ca:u.cell? ⟨bx,5,none⟩=some (.slice (some ⟨p,q,none⟩) m D))(cb:u.cell? ⟨bY,5,none⟩=some (.slice (some ⟨p',q',none⟩) m G))(R:u.cell? ⟨p,q+j,none⟩=some (.slice A n C))(S:u.cell? ⟨p',q' + j,none⟩=some (.slice E n B))(w:∀H,Below u.heap.size u H->Calls Tryz.prog 8 #[.slice A n C,.slice E n B] H λe w'=>e= .returned (.bool true)/\Below H.heap.size H w')(T:∀s w',Below u.heap.size u w'->s 87= .bool false->Q .normal (Cn z s [76,77,78,79,80,81,82,83,84,85,86,87]) w') :
  (Code.region 12 PV.toArray true).wp Tryz.prog Q z u:=by
 refine Cq (by kernel_rfl) (by kernel_rfl) [76,77,78,79,80,81,82,83,84,85,86,87] (by kernel_rfl) I (by kernel_rfl) (λ_=>99) (It [] [.pointer (some ⟨bx,5,none⟩),.slice (some ⟨p,q,none⟩) m D,.int .i64 (j:Int),.pointer (some ⟨p,q+j,none⟩),.slice A n C,.pointer (some ⟨bY,5,none⟩),.slice (some ⟨p',q',none⟩) m G,.int .i64 (j:Int),.pointer (some ⟨p',q' + j,none⟩),.slice E n B,.bool true,.bool false]) (boxG u []) boxG.start ?_ ?_
 ·intro U b J i oz a x V l v c W o
  have X:(j:Int)<(m:Int):=by omega
  have Y:(0:Int)<=(j:Int):=by omega
  have g:=z9 x (by decide);obtain _|i:=i
  ·obtain rfl:=Ab c
   have r:=zF v O rfl;refine zs (.pointer (some ⟨bx,5,none⟩)) rfl rfl rfl a ?_;simp only[execOp,BV,r];go_simp
  obtain _|i:=i
  ·obtain rfl:=Ab c
   have r:b 76= .pointer (some ⟨bx,5,none⟩):=zA l o g 0 (by simp);have K:=BR a.below ca;refine zs (.slice (some ⟨p,q,none⟩) m D) rfl rfl rfl a ?_;simp only[execOp,BV,r];go_simp
  obtain _|i:=i
  ·obtain rfl:=Ab c
   exact zs (b 8) rfl rfl (zF v M rfl) a rfl
  obtain _|i:=i
  ·obtain rfl:=Ab c
   have r:b 77= .slice (some ⟨p,q,none⟩) m D:=zA l o g 1 (by simp);have e1:b 78= .int .i64 (j:Int):=zA l o g 2 (by simp);refine zs (.pointer (some ⟨p,q+j,none⟩)) rfl rfl rfl a ?_;simp only[execOp,BV,r,e1];go_simp
  obtain _|i:=i
  ·obtain rfl:=Ab c
   have r:b 79= .pointer (some ⟨p,q+j,none⟩):=zA l o g 3 (by simp);have K:=BR a.below R;refine zs (.slice A n C) rfl rfl rfl a ?_;simp only[execOp,BV,r];go_simp
  obtain _|i:=i
  ·obtain rfl:=Ab c
   have r:=zF v P rfl;refine zs (.pointer (some ⟨bY,5,none⟩)) rfl rfl rfl a ?_;simp only[execOp,BV,r];go_simp
  obtain _|i:=i
  ·obtain rfl:=Ab c
   have r:b 81= .pointer (some ⟨bY,5,none⟩):=zA l o g 5 (by simp);have K:=BR a.below cb;refine zs (.slice (some ⟨p',q',none⟩) m G) rfl rfl rfl a ?_;simp only[execOp,BV,r];go_simp
  obtain _|i:=i
  ·obtain rfl:=Ab c
   exact zs (b 8) rfl rfl (zF v M rfl) a rfl
  obtain _|i:=i
  ·obtain rfl:=Ab c
   have r:b 82= .slice (some ⟨p',q',none⟩) m G:=zA l o g 6 (by simp);have e1:b 83= .int .i64 (j:Int):=zA l o g 7 (by simp);refine zs (.pointer (some ⟨p',q' + j,none⟩)) rfl rfl rfl a ?_;simp only[execOp,BV,r,e1];go_simp
  obtain _|i:=i
  ·obtain rfl:=Ab c
   have r:b 84= .pointer (some ⟨p',q' + j,none⟩):=zA l o g 8 (by simp);have K:=BR a.below S;refine zs (.slice E n B) rfl rfl rfl a ?_;simp only[execOp,BV,r];go_simp
  obtain _|i:=i
  ·obtain rfl:=Ab c
   have r:b 80= .slice A n C:=zA l o g 4 (by simp);have e1:b 85= .slice E n B:=zA l o g 9 (by simp);refine CO 8 #[.tmp 80,.tmp 85] #[26,26] rfl (AN Tryz.func8 (by kernel_rfl) rfl) #[.slice A n C,.slice E n B] (by simp[BV,r,e1]) ((w J a.below).mono λe w' h=>?_);obtain⟨rfl,L⟩:=h;exact⟨_,rfl,a.step L rfl _,rfl,λk _ _ _ h=>h⟩
  obtain _|i:=i
  ·obtain rfl:=Ab c
   have r:b 86= .bool true:=zA l o g 10 (by simp);refine zs (.bool false) rfl rfl rfl a ?_;simp only[execOp,BV,r];go_simp
  ·exfalso
   have N:i+12<12:=(List.getElem?_eq_some_iff.1 c).1;omega
 ·intro U b J a x F y
  have g:=z9 x (by decide);exact T b J a.below (y 11 (F 11 (by decide)) g)
def ME (d:Nat):Prop := ∀(a b:Option Addr) (ca cb:Nat) (L:List (DH d)) (w:World),Dg w d a L->Dg w d b L->Calls Tryz.prog 8 #[.slice a L.length ca,.slice b L.length cb] w λe w'=>e= .returned (.bool true)/\Below w.heap.size w w'
theorem ML:ME 0:=by
 intro a b ca cb L w _ _;have h0:=Ve L;subst h0
 go_enter Tryz.func8,Tryz.ntmps8
 go_wp2_with fail
 go_loopw [16] (λi wr=>i= .int .i64 0/\Below w.heap.size w wr) (λ_ _=>0)
 case atStart=>exact⟨rfl,Aq _ _⟩
 case round =>
  obtain⟨rfl,c⟩:=hrel
  go_wp2_with fail
  go_ret;exact⟨rfl,c⟩
theorem MT(d:Nat)(ih:ME d):ME (d+1):=by
 intro a b ca cb L w hA hB;have hn:L.length<=9223372036854775807:=hA.1;have HA:=Aa hA;have HB:=Aa hB;have R:=Aa ih;clear hA hB ih
 go_enter Tryz.func8,Tryz.ntmps8
 go_wp2_with fail
 go_loopw [16] (λi wr => ∃k:Nat,k<=L.length/\i= .int .i64 k/\Below w.heap.size w wr) (λi _=>L.length - (intOf i).toNat)
 case atStart=>exact⟨0,Ai _,rfl,Aq _ _⟩
 case round =>
  obtain⟨k,hk,rfl,Q⟩:=hrel
  by_cases I:k<L.length
  ·obtain⟨g,o,A,C,B,D,rfl,c0,c1,c2,c3,c4,c5,-,-,S,J⟩:=(HA.out.kept Q).2 k I
   obtain⟨g2,o2,A',C',B',D',rfl,d0,d1,d2,d3,d4,d5,-,-,x,y⟩:=(HB.out.kept Q).2 k I;have hlt':(k:Int)<(L.length:Int):=by omega
   have T:=Aa S;have U:=Aa J;have E:=Aa x;have F:=Aa y;have hsl:(DN (Ei L k)).length<=9223372036854775807:=J.1;clear S J x y
   go_upto_region 6 with fail
   refine Tx (g:=g) (o:=o) (n:=L.length) (g2:=g2) (o2:=o2) (k:=k) (by kernel_rfl) rfl rfl rfl I c0 c1 c2 c3 c4 c5 d0 d1 d2 d3 d4 d5 ?_;intro s l bx c r hs6 _ V hs7 _ W;have G:Below w.heap.size w l:=Q.trans (r.mono Q.size);obtain⟨x0,x1,x2,x3,x4,X⟩:l.cell? ⟨bx,0,none⟩=some (.string (Fp (Ei L k)))/\l.cell? ⟨bx,1,none⟩=some (.int .i64 (Fq (Ei L k)))/\l.cell? ⟨bx,2,none⟩=some (.bool (Fo (Ei L k)))/\l.cell? ⟨bx,3,none⟩=some (.string (Fm (Ei L k)))/\l.cell? ⟨bx,4,none⟩=some (.slice A (Fr (Ei L k)).length C)/\l.cell? ⟨bx,5,none⟩=some (.slice B (DN (Ei L k)).length D):=by simp[World.cell?,V]
   obtain⟨y0,y1,y2,y3,y4,Y⟩:l.cell? ⟨c,0,none⟩=some (.string (Fp (Ei L k)))/\l.cell? ⟨c,1,none⟩=some (.int .i64 (Fq (Ei L k)))/\l.cell? ⟨c,2,none⟩=some (.bool (Fo (Ei L k)))/\l.cell? ⟨c,3,none⟩=some (.string (Fm (Ei L k)))/\l.cell? ⟨c,4,none⟩=some (.slice A' (Fr (Ei L k)).length C')/\l.cell? ⟨c,5,none⟩=some (.slice B' (DN (Ei L k)).length D'):=by simp[World.cell?,W]
   have Z:=R.out A A' C C' (Fr (Ei L k)) l (T.out.kept r) (E.out.kept r);have K:=Aa G;have M:=Aa r;have aa:=Aa X;have ab:=Aa Y;clear Q G r V W c0 c1 c2 c3 c4 c5 d0 d1 d2 d3 d4 d5 T E;simp only[Cn,Act.put,Au,AD,AE,hs6,hs7];generalize s 19=t19;generalize s 20=t20;generalize s 21=t21;generalize s 22=t22;generalize s 23=t23;generalize s 24=t24;generalize s 25=t25;generalize s 26=t26;generalize Ei L k=gg at *;have hkb:∀z:Int,(z != z)=false:=λz=>by simp
   have hnb:∀z:Bool,(z != z)=false:=λz=>by simp
   go_wp2_with fail
   refine Z.mono ?_;clear Z;rintro e w3 ⟨rfl,u⟩;have X:=BR u X;have Y:=BR u Y;have aa:=Aa X;have ab:=Aa Y;have N:=Aa (M.out.trans (u.mono M.out.size));have H:=Aa (K.out.trans (u.mono K.out.size));clear u K M x0 x1 x2 x3 x4 y0 y1 y2 y3 y4
   go_wp2_with fail
   clear X Y;obtain⟨wo,ac⟩:∃wo,wo=wr:=⟨_,rfl⟩;rw[<-ac]at N U F;clear ac
   go_loopw [73] (λi wq => ∃j:Nat,j<=(DN gg).length/\i= .int .i64 j/\Below w3.heap.size w3 wq) (λi _=>(DN gg).length - (intOf i).toNat)
   case atStart=>exact⟨0,Ai _,rfl,Aq _ _⟩
   case round =>
    obtain⟨j,hj,rfl,h⟩:=hrel
    by_cases O:j<(DN gg).length
    ·obtain⟨p,q,A2,E2,rfl,ea,-,hG⟩:=U.out.2 j O
     obtain⟨p',q',A3,E3,rfl,eb,-,ad⟩:=F.out.2 j O;have hjt':(j:Int)<((DN gg).length:Int):=by omega
     have v:Below wo.heap.size wo wr:=N.out.trans (h.mono N.out.size);have HG:=Aa (hG.kept v);have ae:=Aa (ad.kept v);have af:=Aa (BR v ea);have ag:=Aa (BR v eb);have ah:=Aa (BR h aa.out);have ai:=Aa (BR h ab.out);have P:=Aa h;clear hG ad ea eb v h
     go_upto_region 12 with fail
     refine T4 (bx:=bx) (bY:=c) (p:=p) (q:=q) (m:=(DN gg).length) (p':=p') (q':=q') (j:=j) (n:=(FG (DN gg) j).length) (by kernel_rfl) rfl rfl rfl O ah.out ai.out af.out ag.out (λw1 h1=>R.out A2 A3 E2 E3 (FG (DN gg) j) w1 (HG.out.kept h1) (ae.out.kept h1)) ?_;intro s w4 aj ak;have HW4:=Aa (P.out.trans (aj.mono P.out.size));clear aj HG ae af ag ah ai P;simp only[Cn,Act.put,Au,AD,AE,ak];generalize s 76=t76;generalize s 77=t77;generalize s 78=t78;generalize s 79=t79;generalize s 80=t80;generalize s 81=t81;generalize s 82=t82;generalize s 83=t83;generalize s 84=t84;generalize s 85=t85;generalize s 86=t86
     go_wp2_with fail
     go_roundw
     case rel=>exact⟨j+1,by omega,by go_num,HW4.out⟩
     case measure=>simp[intOf];omega
    ·have HWE:=Aa (H.out.trans (h.mono H.out.size))
     clear h
     go_wp2_with fail
     go_roundw
     case rel=>exact⟨k+1,by omega,by go_num,HWE.out⟩
     case measure=>simp[intOf];omega
  ·go_wp2_with fail
   go_ret;exact⟨rfl,Q⟩
theorem JD:∀d,ME d
 | 0=>ML
 | d+1=>MT d (JD d)
end Go.Proofs.YtjjggefmmeminabGreat
namespace Go.Proofs.YtjjggefmmeminabGreat
open Go.RowKit Go.Sort Go.PlainAid
theorem K9(k:Qy 9)(l:Qy 10)(a:Option Addr)(n cap:Nat)(V:Nat->LServ)(d:Nat)(type key:ByteArray)(pa:Option Addr)(b:Nat)(ps:List (Cg d))(w:World)(hS:Dc w a n V)(O:CB w d pa ps)(m:ps.length<=b)(y:BY type)(z:BY key) :
  Calls Tryz.prog 4 #[.slice a n cap,.agg #[.string type,.string key,.slice pa ps.length b]] w λe w'=>e= .returned (.bool true)/\Below w.heap.size w w':=by
 generalize A:w.alloc (Obj.cells #[.string type,.string key,.slice pa ps.length b] 25)=W;have h:Below w.heap.size w W:=by rw[<-A];exact BW _ _
 have Y:W.cell? ⟨w.heap.size,0,none⟩=some (.string type):=by rw[<-A,Ac _ _ _ _ rfl];rfl
 have Z:W.cell? ⟨w.heap.size,1,none⟩=some (.string key):=by rw[<-A,Ac _ _ _ _ rfl];rfl
 have a2:W.cell? ⟨w.heap.size,2,none⟩=some (.slice pa ps.length b):=by rw[<-A,Ac _ _ _ _ rfl];rfl
 have c:=k a n cap V d type key pa b ps W (hS.kept h) (O.kept h) m y z;have p:=Aa h;have B:Hid (∀i,Below w.heap.size w i->Calls Tryz.prog 10 #[.slice a n cap,.agg #[.string type,.string key,.slice pa ps.length b]] i λe w'=>PM d (Jx n V d type key ps) (Tt n V d type key ps) (GB n V d type key ps) e w'/\Below i.heap.size i w'):=Aa λi h3=>l a n cap V d type key pa b ps i (hS.kept h3) (O.kept h3) m y z;clear hS O h k l;generalize Jx n V d type key ps=M at *;generalize GB n V d type key ps=x at *;generalize Tt n V d type key ps=R at *
 go_enter Tryz.func4,Tryz.ntmps4
 go_wp2_with fail
 clear A;refine c.mono ?_;clear c;rintro e i ⟨⟨P,Q,C,D,rfl,-,-,E,F⟩,g⟩;have Y:=BR g Y;have Z:=BR g Z;have a2:=BR g a2;have q:Below w.heap.size w i:=p.out.trans (g.mono p.out.size);have c:=B.out i q;have G:=Aa E;have H:=Aa F;have r:=Aa q;clear g B E F q p
 go_wp2_with fail
 refine c.mono ?_;clear c;rintro e S ⟨⟨T,U,I,J,rfl,-,-,K,L⟩,j⟩;have c:=JD d P T Q U M S (G.out.kept j) K;have HQ:Hid (∀o,Below S.heap.size S o->Calls Tryz.prog 11 #[.slice C R.length D,.slice I R.length J] o λe w'=>e= .returned (.bool true)/\Below o.heap.size o w'):=Aa λo h5=>Mp C I D J R o ((H.out.kept j).kept h5) (L.kept h5);have s:=Aa (r.out.trans (j.mono r.out.size));clear j K L G H r
 go_wp2_with fail
 refine c.mono ?_;clear c;rintro e o ⟨rfl,u⟩;have c:=HQ.out o u;have v:=Aa (s.out.trans (u.mono s.out.size));clear u s HQ
 go_wp2_with fail
 refine c.mono ?_;clear c;rintro e w6 ⟨rfl,N⟩;have X:=Aa (v.out.trans (N.mono v.out.size));clear N v
 go_wp2_with fail
 go_ret;exact⟨rfl,X.out⟩
end Go.Proofs.YtjjggefmmeminabGreat
