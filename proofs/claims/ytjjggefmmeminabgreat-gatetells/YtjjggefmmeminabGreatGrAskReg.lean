import Derived.Test.YtjjggefmmeminabGreatJRc
import Derived.Test.YtjjggefmmeminabGreatGrMem
set_option maxRecDepth 100000
set_option maxHeartbeats 4000000
namespace Go.Proofs.YtjjggefmmeminabGreat
open Go.RowKit Go.Sort Go.PlainAid
def O8:List Oper:=[
 ⟨some 16,.move (.tmp 0),121,"gate.go:40",#[],none⟩,
 ⟨some 17,.nilCheck (.tmp 16),0,"gate.go:40",#[⟨0,.data⟩],none⟩,
 ⟨some 18,.fieldAddr 58 (.tmp 17) 1,0,"gate.go:40",#[⟨1,.data⟩],none⟩,
 ⟨some 19,.load 37 (.tmp 18),37,"gate.go:40",#[⟨2,.data⟩],none⟩,
 ⟨some 20,.move (.tmp 0),121,"gate.go:40",#[],none⟩,
 ⟨some 21,.nilCheck (.tmp 20),0,"gate.go:40",#[⟨4,.data⟩],none⟩,
 ⟨some 22,.fieldAddr 58 (.tmp 21) 1,0,"gate.go:40",#[⟨5,.data⟩],none⟩,
 ⟨some 23,.load 37 (.tmp 22),37,"gate.go:40",#[⟨6,.data⟩],none⟩,
 ⟨some 24,.move (.tmp 1),9,"gate.go:40",#[],none⟩,
 ⟨some 25,.call { callee := Callee.value (.func 34),args := #[.tmp 23,.tmp 24],argTypes := #[37,9] },3,"gate.go:40",#[⟨7,.data⟩,⟨8,.data⟩],none⟩,
 ⟨some 26,.indexAddr 37 (.tmp 19) (.tmp 25),0,"gate.go:40",#[⟨3,.data⟩,⟨9,.data⟩],none⟩,
 ⟨some 27,.load 99 (.tmp 26),99,"gate.go:40",#[⟨10,.data⟩],none⟩,
 ⟨some 9,.alloc 99,0,"gate.go:40",#[],none⟩,
 ⟨none,.store 99 (.tmp 9) (.tmp 27),0,"gate.go:40",#[⟨12,.data⟩,⟨11,.data⟩,⟨9,.chain⟩,⟨0,.phase⟩,⟨1,.phase⟩,⟨2,.phase⟩,⟨3,.phase⟩,⟨4,.phase⟩,⟨5,.phase⟩,⟨6,.phase⟩,⟨7,.phase⟩,⟨8,.phase⟩,⟨9,.phase⟩,⟨10,.phase⟩,⟨11,.phase⟩,⟨12,.phase⟩],none⟩]
theorem TA{Q:Exit->Act->World->Prop}{I:Act}{T:World}(P:Nat->(Nat->Value)->Option Nat->World->Prop){bg pb pn pc fn fc on oc hn hc i:Nat}{fa oa ha:Option Addr}{ty nm:ByteArray}(K : [16,17,18,19,20,21,22,23,24,25,26,27,9].all (λd=>decide (d<I.tmps.size))=true)(s0:B4 I 0= .pointer (some ⟨bg,0,none⟩))(s1:B4 I 1= .string ty)(W:(0:Int)<=(i:Int))(X:(i:Int)<(pn:Int))(Y:∀j x o w,1<=j->P j x o w->x 0= .int .i64 (i:Int))(L:∀x,P 0 x none T.drew)(G:∀j x o w,j<2->P j x o w->w.cell? ⟨bg,1,none⟩=some (.slice (some ⟨pb,0,none⟩) pn pc)/\w.cell? ⟨pb,i*4,none⟩=some (.string nm)/\w.cell? ⟨pb,i*4+1,none⟩=some (.slice fa fn fc)/\w.cell? ⟨pb,i*4+2,none⟩=some (.slice oa on oc)/\w.cell? ⟨pb,i*4+3,none⟩=some (.slice ha hn hc))(M:∀x o w,P 0 x o w->Calls Tryz.prog 34 #[.slice (some ⟨pb,0,none⟩) pn pc,.string ty] w λe w' => ∃v,e= .returned v/\(∀N,N 0=v->(∀i,i≠0->N i=x i)->P 1 N o w'))(O:∀x b w,P 1 x (some b) w->w.heap[b]? = some (.cells #[.string ⟨#[]⟩,.slice none 0 0,.slice none 0 0,.slice none 0 0] 99 (0,0))/\P 2 x (some b) ((((w.setCell ⟨b,0,none⟩ (.string nm)).setCell ⟨b,1,none⟩ (.slice fa fn fc)).setCell ⟨b,2,none⟩ (.slice oa on oc)).setCell ⟨b,3,none⟩ (.slice ha hn hc)))(R:∀j x w,P j x none w->P j x (some w.heap.size) (w.alloc (.cells #[.string ⟨#[]⟩,.slice none 0 0,.slice none 0 0,.slice none 0 0] 99)))(Z:∀s b w',s 9= .pointer (some ⟨b,0,none⟩)->P 2 (λi=>s ([25,0].getD i 0)) (some b) w'->Q .normal (Cn I s [16,17,18,19,20,21,22,23,24,25,26,27,9]) w') :
  (Code.region 1 O8.toArray true).wp Tryz.prog Q I T:=by
 refine Cq (by kernel_rfl) (by kernel_rfl) [16,17,18,19,20,21,22,23,24,25,26,27,9] (by kernel_rfl) K (by kernel_rfl) (λ_=>99) (It [9,13,12] [.pointer (some ⟨bg,0,none⟩),.pointer (some ⟨bg,0,none⟩),.pointer (some ⟨bg,1,none⟩),.slice (some ⟨pb,0,none⟩) pn pc,.pointer (some ⟨bg,0,none⟩),.pointer (some ⟨bg,0,none⟩),.pointer (some ⟨bg,1,none⟩),.slice (some ⟨pb,0,none⟩) pn pc,.string ty,undef,.pointer (some ⟨pb,i*4,none⟩),.agg #[.string nm,.slice fa fn fc,.slice oa on oc,.slice ha hn hc],undef,undef]) (NZ [9,13] [25,0] 12 9 P) (NZ.start (L _)) ?_ ?_
 ·intro z c n l oz a S C q H g u m
  have r:=z9 S (by decide);obtain _|l:=l
  ·obtain rfl:=Ab g
   have p:=zF H s0 rfl;refine BU (v:=.pointer (some ⟨bg,0,none⟩)) (w':=n) ?_ ⟨a.read rfl rfl _,rfl,λk _ _ _ h=>h⟩;simp only[execOp,BV,p];go_simp
  obtain _|l:=l
  ·obtain rfl:=Ab g
   have p:c 16= .pointer (some ⟨bg,0,none⟩):=zA q m r 0 (by simp);refine BU (v:=.pointer (some ⟨bg,0,none⟩)) (w':=n) ?_ ⟨a.read rfl rfl _,rfl,λk _ _ _ h=>h⟩;simp only[execOp,BV,p];go_simp
  obtain _|l:=l
  ·obtain rfl:=Ab g
   have p:c 17= .pointer (some ⟨bg,0,none⟩):=zA q m r 1 (by simp);refine BU (v:=.pointer (some ⟨bg,1,none⟩)) (w':=n) ?_ ⟨a.read rfl rfl _,rfl,λk _ _ _ h=>h⟩;simp only[execOp,BV,p];go_simp
  obtain _|l:=l
  ·obtain rfl:=Ab g
   have p:c 18= .pointer (some ⟨bg,1,none⟩):=zA q m r 2 (by simp);have J:z 13=false:=Ce (λh=>C 13 _ h rfl ⟨3,.phase⟩ (by simp) rfl) u;obtain⟨z0,-,-,-,-⟩:=G _ _ _ _ (CS (E:=[9,13]) (by simp) J) a.2;refine BU (v:=.slice (some ⟨pb,0,none⟩) pn pc) (w':=n) ?_ ⟨a.read rfl rfl _,rfl,λk _ _ _ h=>h⟩;simp only[execOp,BV,p];go_simp
  obtain _|l:=l
  ·obtain rfl:=Ab g
   have p:=zF H s0 rfl;refine BU (v:=.pointer (some ⟨bg,0,none⟩)) (w':=n) ?_ ⟨a.read rfl rfl _,rfl,λk _ _ _ h=>h⟩;simp only[execOp,BV,p];go_simp
  obtain _|l:=l
  ·obtain rfl:=Ab g
   have p:c 20= .pointer (some ⟨bg,0,none⟩):=zA q m r 4 (by simp);refine BU (v:=.pointer (some ⟨bg,0,none⟩)) (w':=n) ?_ ⟨a.read rfl rfl _,rfl,λk _ _ _ h=>h⟩;simp only[execOp,BV,p];go_simp
  obtain _|l:=l
  ·obtain rfl:=Ab g
   have p:c 21= .pointer (some ⟨bg,0,none⟩):=zA q m r 5 (by simp);refine BU (v:=.pointer (some ⟨bg,1,none⟩)) (w':=n) ?_ ⟨a.read rfl rfl _,rfl,λk _ _ _ h=>h⟩;simp only[execOp,BV,p];go_simp
  obtain _|l:=l
  ·obtain rfl:=Ab g
   have p:c 22= .pointer (some ⟨bg,1,none⟩):=zA q m r 6 (by simp);have J:z 13=false:=Ce (λh=>C 13 _ h rfl ⟨7,.phase⟩ (by simp) rfl) u;obtain⟨z0,-,-,-,-⟩:=G _ _ _ _ (CS (E:=[9,13]) (by simp) J) a.2;refine BU (v:=.slice (some ⟨pb,0,none⟩) pn pc) (w':=n) ?_ ⟨a.read rfl rfl _,rfl,λk _ _ _ h=>h⟩;simp only[execOp,BV,p];go_simp
  obtain _|l:=l
  ·obtain rfl:=Ab g
   have p:=zF H s1 rfl;refine BU (v:=.string ty) (w':=n) ?_ ⟨a.read rfl rfl _,rfl,λk _ _ _ h=>h⟩;simp only[execOp,BV,p];go_simp
  obtain _|l:=l
  ·obtain rfl:=Ab g
   have t1:z 13=false:=Ce (λh=>C 13 _ h rfl ⟨9,.chain⟩ (by simp) rfl) u;have y:DR [9,13] z=0:=by simp[DR,u,t1]
   have D:P 0 (λi=>c ([25,0].getD i 0)) (Mh 12 9 z c) n:=by
    have h:=a.2;rw[y]at h;exact h
   have p:c 23= .slice (some ⟨pb,0,none⟩) pn pc:=zA q m r 7 (by simp);have e1:c 24= .string ty:=zA q m r 8 (by simp);have F:∀i,i≠0->([25,0]:List Nat).getD i 0≠25:=λi hi=>by
    rcases i with _|_|i<;>simp at hi ⊢
   refine CO 34 #[.tmp 23,.tmp 24] #[37,9] rfl (AN Tryz.func34 (by kernel_rfl) rfl) _ (by simp only[AJ,AG,AI,BV,p,e1];first|done|rfl) ((M _ _ n D).mono λe w' h=>?_)
   obtain⟨v,rfl,hv⟩:=h;exact⟨v,rfl,a.eff (by decide) (by decide) u y (by decide) (Cw (by decide)) (hv _ CJ (λi hi=>Cw (F i hi))),AM,λk _ _ _ h=>h⟩
  obtain _|l:=l
  ·obtain rfl:=Ab g
   have p:c 19= .slice (some ⟨pb,0,none⟩) pn pc:=zA q m r 3 (by simp);have t9:z 9=true:=m ⟨9,.data⟩ (by simp) rfl;have y:1<=DR [9,13] z:=by
    simp only[DR,List.filter_cons,t9,BK,AP];omega
   have ex:c 25= .int .i64 (i:Int):=Y _ _ _ _ y a.2;refine BU (v:=.pointer (some ⟨pb,i*4,none⟩)) (w':=n) ?_ ⟨a.read rfl rfl _,rfl,λk _ _ _ h=>h⟩;simp only[execOp,BV,p,ex];go_simp
  obtain _|l:=l
  ·obtain rfl:=Ab g
   have p:c 26= .pointer (some ⟨pb,i*4,none⟩):=zA q m r 10 (by simp);have J:z 13=false:=Ce (λh=>C 13 _ h rfl ⟨11,.data⟩ (by simp) rfl) u;obtain⟨-,z1,z2,z3,z4⟩:=G _ _ _ _ (CS (E:=[9,13]) (by simp) J) a.2;refine BU (v:=.agg #[.string nm,.slice fa fn fc,.slice oa on oc,.slice ha hn hc]) (w':=n) ?_ ⟨a.read rfl rfl _,rfl,λk _ _ _ h=>h⟩;simp only[execOp,BV,p];go_simp
  obtain _|l:=l
  ·obtain rfl:=Ab g
   refine BU (v:=.pointer (some ⟨n.heap.size,0,none⟩)) (w':=n.alloc (.cells #[.string ⟨#[]⟩,.slice none 0 0,.slice none 0 0,.slice none 0 0] 99)) ?_ ⟨a.alloc u rfl rfl (λj x h=>R j x n h),AM,λk _ _ _ h=>h⟩;simp only[execOp];go_simp
  obtain _|l:=l
  ·obtain rfl:=Ab g
   have t0:z 9=true:=m ⟨9,.chain⟩ (by simp) rfl;have y:DR [9,13] z=1:=by simp[DR,t0,u]
   have D:P 1 (λi=>c ([25,0].getD i 0)) (Mh 12 9 z c) n:=by
    have h:=a.2;rw[y]at h;exact h
   have p:c 27= .agg #[.string nm,.slice fa fn fc,.slice oa on oc,.slice ha hn hc]:=zA q m r 11 (by simp);have A:z 12=true:=m ⟨12,.data⟩ (by simp) rfl;obtain⟨b,hb⟩:=a.1 A;rw[FN A hb]at D;obtain⟨U,hp⟩:=O _ b n D;obtain⟨x0,x1,x2,x3⟩:n.cell? ⟨b,0,none⟩=some (.string ⟨#[]⟩)/\n.cell? ⟨b,1,none⟩=some (.slice none 0 0)/\n.cell? ⟨b,2,none⟩=some (.slice none 0 0)/\n.cell? ⟨b,3,none⟩=some (.slice none 0 0):=by simp[World.cell?,U]
   obtain⟨y0,y1,y2,y3⟩:n.frozen? ⟨b,0,none⟩=false/\n.frozen? ⟨b,1,none⟩=false/\n.frozen? ⟨b,2,none⟩=false/\n.frozen? ⟨b,3,none⟩=false:=by simp[World.frozen?,U]
   refine CV (w':=_) ?_ ⟨a.eff (by decide) (by decide) u y (by decide) (rfl) (by rw[FN A hb];exact hp),AM,λk _ _ _ h=>h⟩;simp only[execOp,BV,hb,p];go_simp
  ·exfalso
   have V:l+14<14:=(List.getElem?_eq_some_iff.1 g).1;omega
 ·intro z c n a _ B _
  obtain⟨b,hb⟩:=a.1 (B 12 (by decide));have h:=a.2;rw[FN (B 12 (by decide)) hb]at h;rw[EW (λe he=>by simp at he;rcases he with rfl|rfl<;>exact B _ (by decide))]at h
  exact Z c b n hb h
def Kb:List Oper:=[
 ⟨some 38,.load 63 (.tmp 10),63,"gate.go:44",#[],none⟩,
 ⟨some 39,.load 92 (.tmp 12),92,"gate.go:44",#[],none⟩,
 ⟨some 40,.move (.tmp 2),65,"gate.go:44",#[],none⟩,
 ⟨some 41,.move (.tmp 0),121,"gate.go:44",#[],none⟩,
 ⟨some 42,.load 92 (.tmp 12),92,"gate.go:44",#[],none⟩,
 ⟨some 43,.move (.tmp 2),65,"gate.go:44",#[],none⟩,
 ⟨some 44,.load 63 (.tmp 10),63,"gate.go:44",#[],none⟩,
 ⟨some 45,.load 92 (.tmp 12),92,"gate.go:44",#[],none⟩,
 ⟨some 46,.call { callee := Callee.value (.func 50),args := #[.tmp 44,.tmp 45],argTypes := #[63,92] },65,"gate.go:44",#[⟨6,.data⟩,⟨7,.data⟩],none⟩,
 ⟨some 47,.call { callee := Callee.value (.func 49),args := #[.tmp 41,.tmp 42,.tmp 43,.tmp 46],argTypes := #[121,92,65,65] },127,"gate.go:44",#[⟨3,.data⟩,⟨4,.data⟩,⟨5,.data⟩,⟨8,.data⟩,⟨8,.chain⟩],none⟩,
 ⟨some 48,.call { callee := Callee.value (.func 48),args := #[.tmp 38,.tmp 39,.tmp 40,.tmp 47],argTypes := #[63,92,65,127] },0,"gate.go:44",#[⟨0,.data⟩,⟨1,.data⟩,⟨2,.data⟩,⟨9,.data⟩,⟨9,.chain⟩],none⟩]
theorem TL{Q:Exit->Act->World->Prop}{I:Act}{X:World}(P:Nat->(Nat->Value)->World->Prop){bg bl bo cn cc bh bv kn kc:Nat}{ca ka:Option Addr}{h:POwner}(M : [38,39,40,41,42,43,44,45,46,47,48].all (λd=>decide (d<I.tmps.size))=true)(s0:B4 I 0= .pointer (some ⟨bg,0,none⟩))(K:B4 I 10= .pointer (some ⟨bl,0,none⟩))(J:B4 I 12= .pointer (some ⟨bo,0,none⟩))(Y:B4 I 2= .slice ka kn kc)(N:∀x,P 0 x X.drew)(z:∀j x w,j<3->P j x w->w.cell? ⟨bl,0,none⟩=some (.slice ca cn cc)/\w.cell? ⟨bl,1,none⟩=some (.map (some bh))/\w.cell? ⟨bl,2,none⟩=some (.map (some bv))/\w.cell? ⟨bo,0,none⟩=some (.int .i64 h.svc)/\w.cell? ⟨bo,1,none⟩=some (.string h.type)/\w.cell? ⟨bo,2,none⟩=some (.string h.field))(O:∀x w,P 0 x w->Calls Tryz.prog 50 #[.agg #[.slice ca cn cc,.map (some bh),.map (some bv)],.agg #[.int .i64 h.svc,.string h.type,.string h.field]] w λe w' => ∃v,e= .returned v/\(∀A,A 0=v->(∀i,i≠0->A i=x i)->P 1 A w'))(R:∀x w,P 1 x w->Calls Tryz.prog 49 #[.pointer (some ⟨bg,0,none⟩),.agg #[.int .i64 h.svc,.string h.type,.string h.field],.slice ka kn kc,x 0] w λe w' => ∃v,e= .returned v/\(∀A,A 1=v->(∀i,i≠1->A i=x i)->P 2 A w'))(S:∀x w,P 2 x w->Calls Tryz.prog 48 #[.agg #[.slice ca cn cc,.map (some bh),.map (some bv)],.agg #[.int .i64 h.svc,.string h.type,.string h.field],.slice ka kn kc,x 1] w λe w' => ∃v,e= .returned v/\(∀A,A 2=v->(∀i,i≠2->A i=x i)->P 3 A w'))(hQ:∀s w',P 3 (λi=>s ([46,47,48].getD i 0)) w'->Q .normal (Cn I s [38,39,40,41,42,43,44,45,46,47,48]) w') :
  (Code.region 6 Kb.toArray true).wp Tryz.prog Q I X:=by
 refine Cq (by kernel_rfl) (by kernel_rfl) [38,39,40,41,42,43,44,45,46,47,48] (by kernel_rfl) M (by kernel_rfl) (λ_=>99) (It [8,9,10] [.agg #[.slice ca cn cc,.map (some bh),.map (some bv)],.agg #[.int .i64 h.svc,.string h.type,.string h.field],.slice ka kn kc,.pointer (some ⟨bg,0,none⟩),.agg #[.int .i64 h.svc,.string h.type,.string h.field],.slice ka kn kc,.agg #[.slice ca cn cc,.map (some bh),.map (some bv)],.agg #[.int .i64 h.svc,.string h.type,.string h.field],undef,undef,undef]) (DS [8,9,10] [46,47,48] P) (DS.start (N _)) ?_ ?_
 ·intro y g H m oz a T b p q l c n
  have r:=z9 T (by decide);obtain _|m:=m
  ·obtain rfl:=Ab l
   have o:=zF q K rfl;have C:y 10=false:=Ce (λh=>b 10 _ h rfl ⟨0,.data⟩ (by simp) rfl) c;obtain⟨z0,z1,z2,-,-,-⟩:=z _ _ _ (CS (E:=[8,9,10]) (by simp) C) a;refine zr (.agg #[.slice ca cn cc,.map (some bh),.map (some bv)]) rfl rfl rfl rfl a ?_;simp only[execOp,BV,o];go_simp
  obtain _|m:=m
  ·obtain rfl:=Ab l
   have o:=zF q J rfl;have C:y 10=false:=Ce (λh=>b 10 _ h rfl ⟨1,.data⟩ (by simp) rfl) c;obtain⟨-,-,-,Z,z4,z5⟩:=z _ _ _ (CS (E:=[8,9,10]) (by simp) C) a;refine zr (.agg #[.int .i64 h.svc,.string h.type,.string h.field]) rfl rfl rfl rfl a ?_;simp only[execOp,BV,o];go_simp
  obtain _|m:=m
  ·obtain rfl:=Ab l
   have o:=zF q Y rfl;refine zr (.slice ka kn kc) rfl rfl rfl rfl a ?_;simp only[execOp,BV,o];go_simp
  obtain _|m:=m
  ·obtain rfl:=Ab l
   have o:=zF q s0 rfl;refine zr (.pointer (some ⟨bg,0,none⟩)) rfl rfl rfl rfl a ?_;simp only[execOp,BV,o];go_simp
  obtain _|m:=m
  ·obtain rfl:=Ab l
   have o:=zF q J rfl;have C:y 10=false:=Ce (λh=>b 10 _ h rfl ⟨9,.data⟩ (by simp) rfl) (Ce (λh=>b 9 _ h rfl ⟨4,.data⟩ (by simp) rfl) c);obtain⟨-,-,-,Z,z4,z5⟩:=z _ _ _ (CS (E:=[8,9,10]) (by simp) C) a;refine zr (.agg #[.int .i64 h.svc,.string h.type,.string h.field]) rfl rfl rfl rfl a ?_;simp only[execOp,BV,o];go_simp
  obtain _|m:=m
  ·obtain rfl:=Ab l
   have o:=zF q Y rfl;refine zr (.slice ka kn kc) rfl rfl rfl rfl a ?_;simp only[execOp,BV,o];go_simp
  obtain _|m:=m
  ·obtain rfl:=Ab l
   have o:=zF q K rfl;have C:y 10=false:=Ce (λh=>b 10 _ h rfl ⟨9,.data⟩ (by simp) rfl) (Ce (λh=>b 9 _ h rfl ⟨8,.data⟩ (by simp) rfl) (Ce (λh=>b 8 _ h rfl ⟨6,.data⟩ (by simp) rfl) c));obtain⟨z0,z1,z2,-,-,-⟩:=z _ _ _ (CS (E:=[8,9,10]) (by simp) C) a;refine zr (.agg #[.slice ca cn cc,.map (some bh),.map (some bv)]) rfl rfl rfl rfl a ?_;simp only[execOp,BV,o];go_simp
  obtain _|m:=m
  ·obtain rfl:=Ab l
   have o:=zF q J rfl;have C:y 10=false:=Ce (λh=>b 10 _ h rfl ⟨9,.data⟩ (by simp) rfl) (Ce (λh=>b 9 _ h rfl ⟨8,.data⟩ (by simp) rfl) (Ce (λh=>b 8 _ h rfl ⟨7,.data⟩ (by simp) rfl) c));obtain⟨-,-,-,Z,z4,z5⟩:=z _ _ _ (CS (E:=[8,9,10]) (by simp) C) a;refine zr (.agg #[.int .i64 h.svc,.string h.type,.string h.field]) rfl rfl rfl rfl a ?_;simp only[execOp,BV,o];go_simp
  obtain _|m:=m
  ·obtain rfl:=Ab l
   have U:y 9=false:=Ce (λh=>b 9 _ h rfl ⟨8,.data⟩ (by simp) rfl) c;have V:y 10=false:=Ce (λh=>b 10 _ h rfl ⟨9,.data⟩ (by simp) rfl) (Ce (λh=>b 9 _ h rfl ⟨8,.data⟩ (by simp) rfl) c);have u:DR [8,9,10] y=0:=by simp[DR,c,U,V]
   have B:P 0 (λi=>g ([46,47,48].getD i 0)) H:=by
    have h:=a;unfold DS at h;rw[u]at h;exact h
   have o:g 44= .agg #[.slice ca cn cc,.map (some bh),.map (some bv)]:=zA p n r 6 (by simp);have e1:g 45= .agg #[.int .i64 h.svc,.string h.type,.string h.field]:=zA p n r 7 (by simp);have D:∀i,i≠0->([46,47,48]:List Nat).getD i 0≠46:=λi hi=>by
    rcases i with _|_|_|i<;>simp at hi ⊢
   refine CO 50 #[.tmp 44,.tmp 45] #[63,92] rfl (AN Tryz.func50 (by kernel_rfl) rfl) _ (by simp only[AJ,AG,AI,BV,o,e1];first|done|rfl) ((O _ H B).mono λe w' h=>?_)
   obtain⟨v,rfl,hv⟩:=h;exact⟨v,rfl,DS.eff (by decide) (by decide) c u (hv _ CJ (λi hi=>Cw (D i hi))),AM,λk _ _ _ h=>h⟩
  obtain _|m:=m
  ·obtain rfl:=Ab l
   have W:y 8=true:=n ⟨8,.data⟩ (by simp) rfl;have V:y 10=false:=Ce (λh=>b 10 _ h rfl ⟨9,.data⟩ (by simp) rfl) c;have u:DR [8,9,10] y=1:=by simp[DR,W,c,V]
   have B:P 1 (λi=>g ([46,47,48].getD i 0)) H:=by
    have h:=a;unfold DS at h;rw[u]at h;exact h
   have o:g 41= .pointer (some ⟨bg,0,none⟩):=zA p n r 3 (by simp);have e1:g 42= .agg #[.int .i64 h.svc,.string h.type,.string h.field]:=zA p n r 4 (by simp);have e2:g 43= .slice ka kn kc:=zA p n r 5 (by simp);have F:∀i,i≠1->([46,47,48]:List Nat).getD i 0≠47:=λi hi=>by
    rcases i with _|_|_|i<;>simp at hi ⊢
   refine CO 49 #[.tmp 41,.tmp 42,.tmp 43,.tmp 46] #[121,92,65,65] rfl (AN Tryz.func49 (by kernel_rfl) rfl) _ (by simp only[AJ,AG,AI,BV,o,e1,e2];first|done|rfl) ((R _ H B).mono λe w' h=>?_)
   obtain⟨v,rfl,hv⟩:=h;exact⟨v,rfl,DS.eff (by decide) (by decide) c u (hv _ CJ (λi hi=>Cw (F i hi))),AM,λk _ _ _ h=>h⟩
  obtain _|m:=m
  ·obtain rfl:=Ab l
   have W:y 8=true:=b 9 _ (n ⟨9,.data⟩ (by simp) rfl) rfl ⟨8,.data⟩ (by simp) rfl;have U:y 9=true:=n ⟨9,.data⟩ (by simp) rfl;have u:DR [8,9,10] y=2:=by simp[DR,W,U,c]
   have B:P 2 (λi=>g ([46,47,48].getD i 0)) H:=by
    have h:=a;unfold DS at h;rw[u]at h;exact h
   have o:g 38= .agg #[.slice ca cn cc,.map (some bh),.map (some bv)]:=zA p n r 0 (by simp);have e1:g 39= .agg #[.int .i64 h.svc,.string h.type,.string h.field]:=zA p n r 1 (by simp);have e2:g 40= .slice ka kn kc:=zA p n r 2 (by simp);have G:∀i,i≠2->([46,47,48]:List Nat).getD i 0≠48:=λi hi=>by
    rcases i with _|_|_|i<;>simp at hi ⊢
   refine CO 48 #[.tmp 38,.tmp 39,.tmp 40,.tmp 47] #[63,92,65,127] rfl (AN Tryz.func48 (by kernel_rfl) rfl) _ (by simp only[AJ,AG,AI,BV,o,e1,e2];first|done|rfl) ((S _ H B).mono λe w' h=>?_)
   obtain⟨v,rfl,hv⟩:=h;exact⟨v,rfl,DS.eff (by decide) (by decide) c u (hv _ CJ (λi hi=>Cw (G i hi))),AM,λk _ _ _ h=>h⟩
  ·exfalso
   have hlen:m+11<11:=(List.getElem?_eq_some_iff.1 l).1;omega
 ·intro y g H a _ L _
  have h:=a;unfold DS at h;rw[EW (λe he=>by simp at he;rcases he with rfl|rfl|rfl<;>exact L _ (by decide))]at h
  exact hQ g H h
def KG:List Oper:=[
 ⟨some 70,.fieldAddr 63 (.tmp 10) 0,0,"gate.go:51",#[],none⟩,
 ⟨some 71,.load 59 (.tmp 70),59,"gate.go:51",#[⟨0,.data⟩],none⟩,
 ⟨some 72,.move (.tmp 13),3,"gate.go:51",#[],none⟩,
 ⟨some 73,.move (.tmp 0),121,"gate.go:51",#[],none⟩,
 ⟨some 74,.fieldAddr 131 (.tmp 14) 2,0,"gate.go:51",#[],none⟩,
 ⟨some 75,.fieldAddr 113 (.tmp 74) 2,0,"gate.go:51",#[⟨4,.data⟩],none⟩,
 ⟨some 76,.load 9 (.tmp 75),9,"gate.go:51",#[⟨5,.data⟩],none⟩,
 ⟨some 77,.move (.tmp 15),65,"gate.go:51",#[],none⟩,
 ⟨some 78,.fieldAddr 131 (.tmp 14) 1,0,"gate.go:51",#[],none⟩,
 ⟨some 79,.load 23 (.tmp 78),23,"gate.go:51",#[⟨8,.data⟩],none⟩,
 ⟨some 80,.call { callee := Callee.value (.func 22),args := #[.tmp 73,.tmp 76,.tmp 77,.tmp 79],argTypes := #[121,9,65,23] },63,"gate.go:51",#[⟨3,.data⟩,⟨6,.data⟩,⟨7,.data⟩,⟨9,.data⟩],none⟩,
 ⟨some 81,.indexAddr 59 (.tmp 71) (.tmp 72),0,"gate.go:51",#[⟨1,.data⟩,⟨2,.data⟩,⟨0,.phase⟩,⟨1,.phase⟩,⟨2,.phase⟩,⟨3,.phase⟩,⟨4,.phase⟩,⟨5,.phase⟩,⟨6,.phase⟩,⟨7,.phase⟩,⟨8,.phase⟩,⟨9,.phase⟩,⟨10,.phase⟩],none⟩,
 ⟨some 82,.fieldAddr 131 (.tmp 81) 4,0,"gate.go:51",#[⟨11,.data⟩,⟨0,.phase⟩,⟨1,.phase⟩,⟨2,.phase⟩,⟨3,.phase⟩,⟨4,.phase⟩,⟨5,.phase⟩,⟨6,.phase⟩,⟨7,.phase⟩,⟨8,.phase⟩,⟨9,.phase⟩,⟨10,.phase⟩],none⟩,
 ⟨none,.store 63 (.tmp 82) (.tmp 80),0,"gate.go:51",#[⟨12,.data⟩,⟨10,.data⟩,⟨10,.chain⟩,⟨0,.phase⟩,⟨1,.phase⟩,⟨2,.phase⟩,⟨3,.phase⟩,⟨4,.phase⟩,⟨5,.phase⟩,⟨6,.phase⟩,⟨7,.phase⟩,⟨8,.phase⟩,⟨9,.phase⟩,⟨10,.phase⟩],none⟩]
theorem T2{Q:Exit->Act->World->Prop}{D:Act}{Y:World}(P:Nat->(Nat->Value)->World->Prop){bg bl bc cb cn cc kn kc sn sc k:Nat}{ka sa:Option Addr}{ty:ByteArray}(M : [70,71,72,73,74,75,76,77,78,79,80,81,82].all (λd=>decide (d<D.tmps.size))=true)(s0:B4 D 0= .pointer (some ⟨bg,0,none⟩))(N:B4 D 10= .pointer (some ⟨bl,0,none⟩))(J:B4 D 14= .pointer (some ⟨bc,0,none⟩))(O:B4 D 13= .int .i64 (k:Int))(R:B4 D 15= .slice ka kn kc)(hk0:(0:Int)<=(k:Int))(hk1:(k:Int)<(cn:Int))(S:∀x,P 0 x Y.drew)(G:∀j x w,j<2->P j x w->w.cell? ⟨bl,0,none⟩=some (.slice (some ⟨cb,0,none⟩) cn cc)/\w.cell? ⟨bc,4,none⟩=some (.string ty)/\w.cell? ⟨bc,1,none⟩=some (.slice sa sn sc))(T:∀x w,P 0 x w->Calls Tryz.prog 22 #[.pointer (some ⟨bg,0,none⟩),.string ty,.slice ka kn kc,.slice sa sn sc] w λe w' => ∃v,e= .returned v/\(∀U,U 0=v->(∀i,i≠0->U i=x i)->P 1 U w'))(V:∀x w,P 1 x w->∃(l:LV) (Z u1 u2:Value),x 0= .agg #[.slice l.a l.n l.c,.map l.h,.map l.v]/\w.cell? ⟨cb,k*11+8,none⟩=some Z/\w.cell? ⟨cb,k*11+9,none⟩=some u1/\w.cell? ⟨cb,k*11+10,none⟩=some u2/\w.frozen? ⟨cb,k*11+8,none⟩=false/\w.frozen? ⟨cb,k*11+9,none⟩=false/\w.frozen? ⟨cb,k*11+10,none⟩=false/\P 2 x (((w.setCell ⟨cb,k*11+8,none⟩ (.slice l.a l.n l.c)).setCell ⟨cb,k*11+9,none⟩ (.map l.h)).setCell ⟨cb,k*11+10,none⟩ (.map l.v)))(hQ:∀s w',P 2 (λi=>s ([80,0].getD i 0)) w'->Q .normal (Cn D s [70,71,72,73,74,75,76,77,78,79,80,81,82]) w') :
  (Code.region 14 KG.toArray true).wp Tryz.prog Q D Y:=by
 refine Cq (by kernel_rfl) (by kernel_rfl) [70,71,72,73,74,75,76,77,78,79,80,81,82] (by kernel_rfl) M (by kernel_rfl) (λ_=>99) (It [10,13] [.pointer (some ⟨bl,0,none⟩),.slice (some ⟨cb,0,none⟩) cn cc,.int .i64 (k:Int),.pointer (some ⟨bg,0,none⟩),.pointer (some ⟨bc,2,none⟩),.pointer (some ⟨bc,4,none⟩),.string ty,.slice ka kn kc,.pointer (some ⟨bc,1,none⟩),.slice sa sn sc,undef,.pointer (some ⟨cb,k*11,none⟩),.pointer (some ⟨cb,k*11+8,none⟩),undef]) (DS [10,13] [80,0] P) (DS.start (S _)) ?_ ?_
 ·intro F g I o oz b W B r z m y p
  have u:=z9 W (by decide);obtain _|o:=o
  ·obtain rfl:=Ab m
   have q:=zF z N rfl;refine zr (.pointer (some ⟨bl,0,none⟩)) rfl rfl rfl rfl b ?_;simp only[execOp,BV,q];go_simp
  obtain _|o:=o
  ·obtain rfl:=Ab m
   have q:g 70= .pointer (some ⟨bl,0,none⟩):=zA r p u 0 (by simp);have K:F 13=false:=Ce (λh=>B 13 _ h rfl ⟨1,.phase⟩ (by simp) rfl) y;obtain⟨z0,-,-⟩:=G _ _ _ (CS (E:=[10,13]) (by simp) K) b;refine zr (.slice (some ⟨cb,0,none⟩) cn cc) rfl rfl rfl rfl b ?_;simp only[execOp,BV,q];go_simp
  obtain _|o:=o
  ·obtain rfl:=Ab m
   have q:=zF z O rfl;refine zr (.int .i64 (k:Int)) rfl rfl rfl rfl b ?_;simp only[execOp,BV,q];go_simp
  obtain _|o:=o
  ·obtain rfl:=Ab m
   have q:=zF z s0 rfl;refine zr (.pointer (some ⟨bg,0,none⟩)) rfl rfl rfl rfl b ?_;simp only[execOp,BV,q];go_simp
  obtain _|o:=o
  ·obtain rfl:=Ab m
   have q:=zF z J rfl;refine zr (.pointer (some ⟨bc,2,none⟩)) rfl rfl rfl rfl b ?_;simp only[execOp,BV,q];go_simp
  obtain _|o:=o
  ·obtain rfl:=Ab m
   have q:g 74= .pointer (some ⟨bc,2,none⟩):=zA r p u 4 (by simp);refine zr (.pointer (some ⟨bc,4,none⟩)) rfl rfl rfl rfl b ?_;simp only[execOp,BV,q];go_simp
  obtain _|o:=o
  ·obtain rfl:=Ab m
   have q:g 75= .pointer (some ⟨bc,4,none⟩):=zA r p u 5 (by simp);have K:F 13=false:=Ce (λh=>B 13 _ h rfl ⟨6,.phase⟩ (by simp) rfl) y;obtain⟨-,z1,-⟩:=G _ _ _ (CS (E:=[10,13]) (by simp) K) b;refine zr (.string ty) rfl rfl rfl rfl b ?_;simp only[execOp,BV,q];go_simp
  obtain _|o:=o
  ·obtain rfl:=Ab m
   have q:=zF z R rfl;refine zr (.slice ka kn kc) rfl rfl rfl rfl b ?_;simp only[execOp,BV,q];go_simp
  obtain _|o:=o
  ·obtain rfl:=Ab m
   have q:=zF z J rfl;refine zr (.pointer (some ⟨bc,1,none⟩)) rfl rfl rfl rfl b ?_;simp only[execOp,BV,q];go_simp
  obtain _|o:=o
  ·obtain rfl:=Ab m
   have q:g 78= .pointer (some ⟨bc,1,none⟩):=zA r p u 8 (by simp);have K:F 13=false:=Ce (λh=>B 13 _ h rfl ⟨9,.phase⟩ (by simp) rfl) y;obtain⟨-,-,z2⟩:=G _ _ _ (CS (E:=[10,13]) (by simp) K) b;refine zr (.slice sa sn sc) rfl rfl rfl rfl b ?_;simp only[execOp,BV,q];go_simp
  obtain _|o:=o
  ·obtain rfl:=Ab m
   have t1:F 13=false:=Ce (λh=>B 13 _ h rfl ⟨10,.data⟩ (by simp) rfl) y;have A:DR [10,13] F=0:=by simp[DR,y,t1]
   have H:P 0 (λi=>g ([80,0].getD i 0)) I:=by
    have h:=b;unfold DS at h;rw[A]at h;exact h
   have q:g 73= .pointer (some ⟨bg,0,none⟩):=zA r p u 3 (by simp);have e1:g 76= .string ty:=zA r p u 6 (by simp);have e2:g 77= .slice ka kn kc:=zA r p u 7 (by simp);have e3:g 79= .slice sa sn sc:=zA r p u 9 (by simp);have C:∀i,i≠0->([80,0]:List Nat).getD i 0≠80:=λi hi=>by
    rcases i with _|_|i<;>simp at hi ⊢
   refine CO 22 #[.tmp 73,.tmp 76,.tmp 77,.tmp 79] #[121,9,65,23] rfl (AN Tryz.func22 (by kernel_rfl) rfl) _ (by simp only[AJ,AG,AI,BV,q,e1,e2,e3];first|done|rfl) ((T _ I H).mono λe w' h=>?_)
   obtain⟨v,rfl,hv⟩:=h;exact⟨v,rfl,DS.eff (by decide) (by decide) y A (hv _ CJ (λi hi=>Cw (C i hi))),AM,λk _ _ _ h=>h⟩
  obtain _|o:=o
  ·obtain rfl:=Ab m
   have q:g 71= .slice (some ⟨cb,0,none⟩) cn cc:=zA r p u 1 (by simp);have e1:g 72= .int .i64 (k:Int):=zA r p u 2 (by simp);refine zr (.pointer (some ⟨cb,k*11,none⟩)) rfl rfl rfl rfl b ?_;simp only[execOp,BV,q,e1];go_simp
  obtain _|o:=o
  ·obtain rfl:=Ab m
   have q:g 81= .pointer (some ⟨cb,k*11,none⟩):=zA r p u 11 (by simp);refine zr (.pointer (some ⟨cb,k*11+8,none⟩)) rfl rfl rfl rfl b ?_;simp only[execOp,BV,q];go_simp
  obtain _|o:=o
  ·obtain rfl:=Ab m
   have t0:F 10=true:=p ⟨10,.data⟩ (by simp) rfl;have A:DR [10,13] F=1:=by simp[DR,t0,y]
   have H:P 1 (λi=>g ([80,0].getD i 0)) I:=by
    have h:=b;unfold DS at h;rw[A]at h;exact h
   have q:g 82= .pointer (some ⟨cb,k*11+8,none⟩):=zA r p u 12 (by simp);obtain⟨l,Z,u1,u2,X,hu0,hu1,hu2,hf0,hf1,hf2,hp⟩:=V _ I H;have ex:g 80= .agg #[.slice l.a l.n l.c,.map l.h,.map l.v]:=X;refine CV (w':=_) ?_ ⟨DS.eff (by decide) (by decide) y A hp,AM,λk _ _ _ h=>h⟩;simp only[execOp,BV,q,ex];go_simp
  ·exfalso
   have hlen:o+14<14:=(List.getElem?_eq_some_iff.1 m).1;omega
 ·intro F g I b _ L _
  have h:=b;unfold DS at h;rw[EW (λe he=>by simp at he;rcases he with rfl|rfl<;>exact L _ (by decide))]at h
  exact hQ g I h
end Go.Proofs.YtjjggefmmeminabGreat
