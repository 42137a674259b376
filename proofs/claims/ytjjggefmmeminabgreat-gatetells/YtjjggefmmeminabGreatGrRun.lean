import Derived.Test.YtjjggefmmeminabGreatGrAsk
import Derived.Test.YtjjggefmmeminabGreatMgAll
set_option maxRecDepth 100000
set_option maxHeartbeats 4000000
namespace Go.Proofs.YtjjggefmmeminabGreat
open Go.RowKit Go.Sort Go.PlainAid
def Rh:List Oper:=[
 ⟨some 33,.fieldAddr 25 (.tmp 3) 0,0,"gate.go:23",#[],none⟩,
 ⟨some 34,.load 9 (.tmp 33),9,"gate.go:23",#[⟨0,.data⟩],none⟩,
 ⟨some 35,.fieldAddr 25 (.tmp 3) 1,0,"gate.go:23",#[],none⟩,
 ⟨some 36,.load 9 (.tmp 35),9,"gate.go:23",#[⟨2,.data⟩],none⟩,
 ⟨some 37,.buildSlice 65 1 #[(0,.tmp 36)],65,"gate.go:23",#[⟨3,.data⟩],none⟩,
 ⟨some 38,.fieldAddr 25 (.tmp 3) 2,0,"gate.go:23",#[],none⟩,
 ⟨some 39,.load 23 (.tmp 38),23,"gate.go:23",#[⟨5,.data⟩],none⟩,
 ⟨some 40,.call { callee := Callee.value (.func 22),args := #[.tmp 10,.tmp 34,.tmp 37,.tmp 39],argTypes := #[58,9,65,23] },63,"gate.go:23",#[⟨1,.data⟩,⟨4,.data⟩,⟨6,.data⟩],none⟩,
 ⟨some 41,.fieldAddr 25 (.tmp 3) 1,0,"gate.go:23",#[],none⟩,
 ⟨some 42,.load 9 (.tmp 41),9,"gate.go:23",#[⟨8,.data⟩],none⟩,
 { dst := some 43, op := Op.call { callee := Callee.value (Operand.func 23), args := #[Operand.tmp 40, Operand.tmp 42], argTypes := #[63, 9] }, type := 47, pos := "gate.go:23", after := #[⟨7, .data⟩, ⟨9, .data⟩, ⟨7, .chain⟩], guard := none },
 { dst := some 32, op := Op.move (Operand.tmp 43), type := 47, pos := "gate.go:23", after := #[⟨10, .data⟩], guard := none },
 ⟨some 44,.extract (.tmp 32) 0,26,"gate.go:23",#[⟨11,.data⟩],none⟩,
 ⟨some 45,.extract (.tmp 32) 1,4,"gate.go:23",#[⟨11,.data⟩,{ on := 14,ground := Ground.gcOnly Departure.lateStores }],none⟩,
 ⟨some 11,.assign (.tmp 44),26,"gate.go:23",#[⟨12,.data⟩,⟨10,.chain⟩,⟨0,.phase⟩,⟨1,.phase⟩,⟨2,.phase⟩,⟨3,.phase⟩,⟨4,.phase⟩,⟨5,.phase⟩,⟨6,.phase⟩,⟨7,.phase⟩,⟨8,.phase⟩,⟨9,.phase⟩,⟨10,.phase⟩,⟨11,.phase⟩,⟨12,.phase⟩,{ on := 13,ground := Ground.textOnly Departure.lateStores }],none⟩,
 ⟨some 12,.assign (.tmp 45),4,"gate.go:23",#[⟨13,.data⟩,⟨14,.chain⟩,⟨0,.phase⟩,⟨1,.phase⟩,⟨2,.phase⟩,⟨3,.phase⟩,⟨4,.phase⟩,⟨5,.phase⟩,⟨6,.phase⟩,⟨7,.phase⟩,⟨8,.phase⟩,⟨9,.phase⟩,⟨10,.phase⟩,⟨11,.phase⟩,⟨12,.phase⟩,⟨13,.phase⟩,⟨14,.phase⟩],none⟩]
theorem Uz{Q:Exit->Act->World->Prop}{X:Act}{w5:World}(P:Nat->(Nat->Value)->World->Prop){ba bg pn pc:Nat}{pa:Option Addr}{ty key:ByteArray}{b:Bool}(hsz : [33,34,35,36,37,38,39,40,41,42,43,32,44,45,11,12].all (λd=>decide (d<X.tmps.size))=true)(s3:B4 X 3= .pointer (some ⟨ba,0,none⟩))(s10:B4 X 10= .pointer (some ⟨bg,0,none⟩))(hX:∀j x w,4<=j->P j x w->∃y,x 3= .tuple #[y,.bool b])(hP0:∀x,P 0 x w5.drew)(M:∀j x w,j<7->P j x w->w.cell? ⟨ba,0,none⟩=some (.string ty)/\w.cell? ⟨ba,1,none⟩=some (.string key)/\w.cell? ⟨ba,2,none⟩=some (.slice pa pn pc))(he0:∀x w,P 0 x w->∀r,r 0= .slice (some ⟨w.heap.size,0,none⟩) 1 1->(∀i,i≠0->r i=x i)->P 1 r (w.alloc (.cells #[.string key] 9)))(he1:∀x w,P 1 x w->Calls Tryz.prog 22 #[.pointer (some ⟨bg,0,none⟩),.string ty,x 0,.slice pa pn pc] w λe w' => ∃v,e= .returned v/\(∀r,r 1=v->(∀i,i≠1->r i=x i)->P 2 r w'))(he2:∀x w,P 2 x w->Calls Tryz.prog 23 #[x 1,.string key] w λe w' => ∃v,e= .returned v/\(∀r,r 2=v->(∀i,i≠2->r i=x i)->P 3 r w'))(he3:∀x w,P 3 x w->∀r,r 3=x 2->(∀i,i≠3->r i=x i)->P 4 r w)(he4:∀x w,P 4 x w->∃va vn vc,x 3= .tuple #[.slice va vn vc,.bool b]/\∀r,r 4= .slice va vn vc->(∀i,i≠4->r i=x i)->P 5 r w)(he5:∀x w,P 5 x w->∀r,r 5=x 4->(∀i,i≠5->r i=x i)->P 6 r w)(he6:∀x w,P 6 x w->∀r,r 6= .bool b->(∀i,i≠6->r i=x i)->P 7 r w)(hQ:∀s w',P 7 (λi=>s ([37,40,43,32,44,11,12].getD i 0)) w'->Q .normal (Cn X s [33,34,35,36,37,38,39,40,41,42,43,32,44,45,11,12]) w') :
  (Code.region 8 Rh.toArray true).wp Tryz.prog Q X w5:=by
 refine Cq (by kernel_rfl) (by kernel_rfl) [33,34,35,36,37,38,39,40,41,42,43,32,44,45,11,12] (by kernel_rfl) hsz (by kernel_rfl) (λ_=>99) (It [4,7,10,11,12,14,15] [.pointer (some ⟨ba,0,none⟩),.string ty,.pointer (some ⟨ba,1,none⟩),.string key,undef,.pointer (some ⟨ba,2,none⟩),.slice pa pn pc,undef,.pointer (some ⟨ba,1,none⟩),.string key,undef,undef,undef,.bool b,undef,undef]) (DS [4,7,10,11,12,14,15] [37,40,43,32,44,11,12] P) (DS.start (hP0 _)) ?_ ?_
 ·intro l n z q oz m hLz a B F p c g
  have C:=z9 hLz (by decide);obtain _|q:=q
  ·obtain rfl:=Ab p
   have A:=zF F s3 rfl;refine zr (.pointer (some ⟨ba,0,none⟩)) rfl rfl rfl rfl m ?_;simp only[execOp,BV,A];go_simp
  obtain _|q:=q
  ·obtain rfl:=Ab p
   have A:n 33= .pointer (some ⟨ba,0,none⟩):=zA B g C 0 (by simp);have W:l 15=false:=Ce (λh=>a 15 _ h rfl ⟨1,.phase⟩ (by simp) rfl) c;obtain⟨z0,-,-⟩:=M _ _ _ (CS (E:=[4,7,10,11,12,14,15]) (by simp) W) m;refine zr (.string ty) rfl rfl rfl rfl m ?_;simp only[execOp,BV,A];go_simp
  obtain _|q:=q
  ·obtain rfl:=Ab p
   have A:=zF F s3 rfl;refine zr (.pointer (some ⟨ba,1,none⟩)) rfl rfl rfl rfl m ?_;simp only[execOp,BV,A];go_simp
  obtain _|q:=q
  ·obtain rfl:=Ab p
   have A:n 35= .pointer (some ⟨ba,1,none⟩):=zA B g C 2 (by simp);have W:l 15=false:=Ce (λh=>a 15 _ h rfl ⟨3,.phase⟩ (by simp) rfl) c;obtain⟨-,z1,-⟩:=M _ _ _ (CS (E:=[4,7,10,11,12,14,15]) (by simp) W) m;refine zr (.string key) rfl rfl rfl rfl m ?_;simp only[execOp,BV,A];go_simp
  obtain _|q:=q
  ·obtain rfl:=Ab p
   have G:l 7=false:=Ce (λh=>a 7 _ h rfl ⟨4,.data⟩ (by simp) rfl) c;have H:l 10=false:=Ce (λh=>a 10 _ h rfl ⟨7,.data⟩ (by simp) rfl) (Ce (λh=>a 7 _ h rfl ⟨4,.data⟩ (by simp) rfl) c);have I:l 11=false:=Ce (λh=>a 11 _ h rfl ⟨10,.data⟩ (by simp) rfl) (Ce (λh=>a 10 _ h rfl ⟨7,.data⟩ (by simp) rfl) (Ce (λh=>a 7 _ h rfl ⟨4,.data⟩ (by simp) rfl) c));have D:l 12=false:=Ce (λh=>a 12 _ h rfl ⟨11,.data⟩ (by simp) rfl) (Ce (λh=>a 11 _ h rfl ⟨10,.data⟩ (by simp) rfl) (Ce (λh=>a 10 _ h rfl ⟨7,.data⟩ (by simp) rfl) (Ce (λh=>a 7 _ h rfl ⟨4,.data⟩ (by simp) rfl) c)));have J:l 14=false:=Ce (λh=>a 14 _ h rfl ⟨4,.phase⟩ (by simp) rfl) c;have K:l 15=false:=Ce (λh=>a 15 _ h rfl ⟨4,.phase⟩ (by simp) rfl) c;have o:DR [4,7,10,11,12,14,15] l=0:=by simp[DR,c,G,H,I,D,J,K]
   have u:P 0 (λi=>n ([37,40,43,32,44,11,12].getD i 0)) z:=by
    have h:=m;unfold DS at h;rw[o]at h;exact h
   have A:n 36= .string key:=zA B g C 3 (by simp);have N:∀i,i≠0->([37,40,43,32,44,11,12]:List Nat).getD i 0≠37:=λi hi=>by
    rcases i with _|_|_|_|_|_|_|i<;>simp at hi ⊢
   refine BU (v:=.slice (some ⟨z.heap.size,0,none⟩) 1 1) (w':=z.alloc (.cells #[.string key] 9)) ?_ ⟨DS.eff (by decide) (by decide) c o (he0 _ z u _ CJ (λi hi=>Cw (N i hi))),AM,λk _ _ _ h=>h⟩;simp only[execOp,AJ,AG,AI,BV,A];go_simp
  obtain _|q:=q
  ·obtain rfl:=Ab p
   have A:=zF F s3 rfl;refine zr (.pointer (some ⟨ba,2,none⟩)) rfl rfl rfl rfl m ?_;simp only[execOp,BV,A];go_simp
  obtain _|q:=q
  ·obtain rfl:=Ab p
   have A:n 38= .pointer (some ⟨ba,2,none⟩):=zA B g C 5 (by simp);have W:l 15=false:=Ce (λh=>a 15 _ h rfl ⟨6,.phase⟩ (by simp) rfl) c;obtain⟨-,-,z2⟩:=M _ _ _ (CS (E:=[4,7,10,11,12,14,15]) (by simp) W) m;refine zr (.slice pa pn pc) rfl rfl rfl rfl m ?_;simp only[execOp,BV,A];go_simp
  obtain _|q:=q
  ·obtain rfl:=Ab p
   have L:l 4=true:=g ⟨4,.data⟩ (by simp) rfl;have H:l 10=false:=Ce (λh=>a 10 _ h rfl ⟨7,.data⟩ (by simp) rfl) c;have I:l 11=false:=Ce (λh=>a 11 _ h rfl ⟨10,.data⟩ (by simp) rfl) (Ce (λh=>a 10 _ h rfl ⟨7,.data⟩ (by simp) rfl) c);have D:l 12=false:=Ce (λh=>a 12 _ h rfl ⟨11,.data⟩ (by simp) rfl) (Ce (λh=>a 11 _ h rfl ⟨10,.data⟩ (by simp) rfl) (Ce (λh=>a 10 _ h rfl ⟨7,.data⟩ (by simp) rfl) c));have J:l 14=false:=Ce (λh=>a 14 _ h rfl ⟨7,.phase⟩ (by simp) rfl) c;have K:l 15=false:=Ce (λh=>a 15 _ h rfl ⟨7,.phase⟩ (by simp) rfl) c;have o:DR [4,7,10,11,12,14,15] l=1:=by simp[DR,L,c,H,I,D,J,K]
   have u:P 1 (λi=>n ([37,40,43,32,44,11,12].getD i 0)) z:=by
    have h:=m;unfold DS at h;rw[o]at h;exact h
   have A:=zF F s10 rfl;have e1:n 34= .string ty:=zA B g C 1 (by simp);have e3:n 39= .slice pa pn pc:=zA B g C 6 (by simp);have O:∀i,i≠1->([37,40,43,32,44,11,12]:List Nat).getD i 0≠40:=λi hi=>by
    rcases i with _|_|_|_|_|_|_|i<;>simp at hi ⊢
   refine CO 22 #[.tmp 10,.tmp 34,.tmp 37,.tmp 39] #[58,9,65,23] rfl (AN Tryz.func22 (by kernel_rfl) rfl) _ (by simp only[AJ,AG,AI,BV,A,e1,e3];first|done|rfl) ((he1 _ z u).mono λe w' h=>?_)
   obtain⟨v,rfl,hv⟩:=h;exact⟨v,rfl,DS.eff (by decide) (by decide) c o (hv _ CJ (λi hi=>Cw (O i hi))),AM,λk _ _ _ h=>h⟩
  obtain _|q:=q
  ·obtain rfl:=Ab p
   have A:=zF F s3 rfl;refine zr (.pointer (some ⟨ba,1,none⟩)) rfl rfl rfl rfl m ?_;simp only[execOp,BV,A];go_simp
  obtain _|q:=q
  ·obtain rfl:=Ab p
   have A:n 41= .pointer (some ⟨ba,1,none⟩):=zA B g C 8 (by simp);have W:l 15=false:=Ce (λh=>a 15 _ h rfl ⟨9,.phase⟩ (by simp) rfl) c;obtain⟨-,z1,-⟩:=M _ _ _ (CS (E:=[4,7,10,11,12,14,15]) (by simp) W) m;refine zr (.string key) rfl rfl rfl rfl m ?_;simp only[execOp,BV,A];go_simp
  obtain _|q:=q
  ·obtain rfl:=Ab p
   have L:l 4=true:=a 7 _ (g ⟨7,.data⟩ (by simp) rfl) rfl ⟨4,.data⟩ (by simp) rfl;have G:l 7=true:=g ⟨7,.data⟩ (by simp) rfl;have I:l 11=false:=Ce (λh=>a 11 _ h rfl ⟨10,.data⟩ (by simp) rfl) c;have D:l 12=false:=Ce (λh=>a 12 _ h rfl ⟨11,.data⟩ (by simp) rfl) (Ce (λh=>a 11 _ h rfl ⟨10,.data⟩ (by simp) rfl) c);have J:l 14=false:=Ce (λh=>a 14 _ h rfl ⟨10,.chain⟩ (by simp) rfl) c;have K:l 15=false:=Ce (λh=>a 15 _ h rfl ⟨10,.phase⟩ (by simp) rfl) c;have o:DR [4,7,10,11,12,14,15] l=2:=by simp[DR,L,G,c,I,D,J,K]
   have u:P 2 (λi=>n ([37,40,43,32,44,11,12].getD i 0)) z:=by
    have h:=m;unfold DS at h;rw[o]at h;exact h
   have e1:n 42= .string key:=zA B g C 9 (by simp);have R:∀i,i≠2->([37,40,43,32,44,11,12]:List Nat).getD i 0≠43:=λi hi=>by
    rcases i with _|_|_|_|_|_|_|i<;>simp at hi ⊢
   refine CO 23 #[.tmp 40,.tmp 42] #[63,9] rfl (AN Tryz.func23 (by kernel_rfl) rfl) _ (by simp only[AJ,AG,AI,BV,e1];first|done|rfl) ((he2 _ z u).mono λe w' h=>?_)
   obtain⟨v,rfl,hv⟩:=h;exact⟨v,rfl,DS.eff (by decide) (by decide) c o (hv _ CJ (λi hi=>Cw (R i hi))),AM,λk _ _ _ h=>h⟩
  obtain _|q:=q
  ·obtain rfl:=Ab p
   have L:l 4=true:=a 7 _ (a 10 _ (g ⟨10,.data⟩ (by simp) rfl) rfl ⟨7,.data⟩ (by simp) rfl) rfl ⟨4,.data⟩ (by simp) rfl;have G:l 7=true:=a 10 _ (g ⟨10,.data⟩ (by simp) rfl) rfl ⟨7,.data⟩ (by simp) rfl;have H:l 10=true:=g ⟨10,.data⟩ (by simp) rfl;have D:l 12=false:=Ce (λh=>a 12 _ h rfl ⟨11,.data⟩ (by simp) rfl) c;have J:l 14=false:=Ce (λh=>a 14 _ h rfl ⟨11,.phase⟩ (by simp) rfl) c;have K:l 15=false:=Ce (λh=>a 15 _ h rfl ⟨11,.phase⟩ (by simp) rfl) c;have o:DR [4,7,10,11,12,14,15] l=3:=by simp[DR,L,G,H,c,D,J,K]
   have u:P 3 (λi=>n ([37,40,43,32,44,11,12].getD i 0)) z:=by
    have h:=m;unfold DS at h;rw[o]at h;exact h
   have S:∀i,i≠3->([37,40,43,32,44,11,12]:List Nat).getD i 0≠32:=λi hi=>by
    rcases i with _|_|_|_|_|_|_|i<;>simp at hi ⊢
   refine BU (v:=n 43) (w':=z) ?_ ⟨DS.eff (by decide) (by decide) c o (he3 _ z u _ CJ (λi hi=>Cw (S i hi))),AM,λk _ _ _ h=>h⟩;rfl
  obtain _|q:=q
  ·obtain rfl:=Ab p
   have L:l 4=true:=a 7 _ (a 10 _ (a 11 _ (g ⟨11,.data⟩ (by simp) rfl) rfl ⟨10,.data⟩ (by simp) rfl) rfl ⟨7,.data⟩ (by simp) rfl) rfl ⟨4,.data⟩ (by simp) rfl;have G:l 7=true:=a 10 _ (a 11 _ (g ⟨11,.data⟩ (by simp) rfl) rfl ⟨10,.data⟩ (by simp) rfl) rfl ⟨7,.data⟩ (by simp) rfl;have H:l 10=true:=a 11 _ (g ⟨11,.data⟩ (by simp) rfl) rfl ⟨10,.data⟩ (by simp) rfl;have I:l 11=true:=g ⟨11,.data⟩ (by simp) rfl;have J:l 14=false:=Ce (λh=>a 14 _ h rfl ⟨12,.data⟩ (by simp) rfl) c;have K:l 15=false:=Ce (λh=>a 15 _ h rfl ⟨12,.phase⟩ (by simp) rfl) c;have o:DR [4,7,10,11,12,14,15] l=4:=by simp[DR,L,G,H,I,c,J,K]
   have u:P 4 (λi=>n ([37,40,43,32,44,11,12].getD i 0)) z:=by
    have h:=m;unfold DS at h;rw[o]at h;exact h
   have T:∀i,i≠4->([37,40,43,32,44,11,12]:List Nat).getD i 0≠44:=λi hi=>by
    rcases i with _|_|_|_|_|_|_|i<;>simp at hi ⊢
   obtain⟨f1,f2,f3,hx9,hp⟩:=he4 _ z u;have ex:n 32= .tuple #[.slice f1 f2 f3,.bool b]:=hx9;refine BU (v:=.slice f1 f2 f3) (w':=z) ?_ ⟨DS.eff (by decide) (by decide) c o (hp _ CJ (λi hi=>Cw (T i hi))),AM,λk _ _ _ h=>h⟩;simp only[execOp,BV,ex];go_simp
  obtain _|q:=q
  ·obtain rfl:=Ab p
   have Y:l 11=true:=g ⟨11,.data⟩ (by simp) rfl;have Z:l 10=true:=a 11 _ Y rfl ⟨10,.data⟩ (by simp) rfl;have t7:l 7=true:=a 10 _ Z rfl ⟨7,.data⟩ (by simp) rfl;have D:l 4=true:=a 7 _ t7 rfl ⟨4,.data⟩ (by simp) rfl;have o:4<=DR [4,7,10,11,12,14,15] l:=by
    simp only[DR,List.filter_cons,D,t7,Z,Y,BK,AP];omega
   obtain⟨y,hy⟩:=hX _ _ _ o m;have ex:n 32= .tuple #[y,.bool b]:=hy;refine zr (.bool b) rfl rfl rfl rfl m ?_;simp only[execOp,BV,ex];go_simp
  obtain _|q:=q
  ·obtain rfl:=Ab p
   have L:l 4=true:=g ⟨4,.phase⟩ (by simp) rfl;have G:l 7=true:=g ⟨7,.phase⟩ (by simp) rfl;have H:l 10=true:=g ⟨10,.chain⟩ (by simp) rfl;have I:l 11=true:=g ⟨11,.phase⟩ (by simp) rfl;have D:l 12=true:=g ⟨12,.data⟩ (by simp) rfl;have K:l 15=false:=Ce (λh=>a 15 _ h rfl ⟨14,.chain⟩ (by simp) rfl) c;have o:DR [4,7,10,11,12,14,15] l=5:=by simp[DR,L,G,H,I,D,c,K]
   have u:P 5 (λi=>n ([37,40,43,32,44,11,12].getD i 0)) z:=by
    have h:=m;unfold DS at h;rw[o]at h;exact h
   have U:∀i,i≠5->([37,40,43,32,44,11,12]:List Nat).getD i 0≠11:=λi hi=>by
    rcases i with _|_|_|_|_|_|_|i<;>simp at hi ⊢
   refine BU (v:=n 44) (w':=z) ?_ ⟨DS.eff (by decide) (by decide) c o (he5 _ z u _ CJ (λi hi=>Cw (U i hi))),AM,λk _ _ _ h=>h⟩;rfl
  obtain _|q:=q
  ·obtain rfl:=Ab p
   have L:l 4=true:=g ⟨4,.phase⟩ (by simp) rfl;have G:l 7=true:=g ⟨7,.phase⟩ (by simp) rfl;have H:l 10=true:=g ⟨10,.phase⟩ (by simp) rfl;have I:l 11=true:=g ⟨11,.phase⟩ (by simp) rfl;have D:l 12=true:=g ⟨12,.phase⟩ (by simp) rfl;have J:l 14=true:=g ⟨14,.chain⟩ (by simp) rfl;have o:DR [4,7,10,11,12,14,15] l=6:=by simp[DR,L,G,H,I,D,J,c]
   have u:P 6 (λi=>n ([37,40,43,32,44,11,12].getD i 0)) z:=by
    have h:=m;unfold DS at h;rw[o]at h;exact h
   have A:n 45= .bool b:=zA B g C 13 (by simp);have V:∀i,i≠6->([37,40,43,32,44,11,12]:List Nat).getD i 0≠12:=λi hi=>by
    rcases i with _|_|_|_|_|_|_|i<;>simp at hi ⊢
   refine BU (v:=.bool b) (w':=z) ?_ ⟨DS.eff (by decide) (by decide) c o (he6 _ z u _ CJ (λi hi=>Cw (V i hi))),AM,λk _ _ _ h=>h⟩;simp only[execOp,BV,A];go_simp
  ·exfalso
   have hlen:q+16<16:=(List.getElem?_eq_some_iff.1 p).1;omega
 ·intro l n z m _ aa _
  have h:=m;unfold DS at h;rw[EW (λe he=>by simp at he;rcases he with rfl|rfl|rfl|rfl|rfl|rfl|rfl<;>exact aa _ (by decide))]at h
  exact hQ n z h
def Gd (d:Nat):Prop := ∀(pa:Option Addr) (pn b:Nat) (P:Nat->LPart) (name:ByteArray) (a:Option Addr) (cap:Nat) (L:List (Cg d)) (w:World),EX w pa pn P->CB w d a L->L.length<=cap ->
  Calls Tryz.prog 32 #[.slice pa pn b,.string name,.slice a L.length cap] w λe w'=>e= .returned (.int .i64 (cL pn P d name L))/\Below w.heap.size w w'
theorem OD{n:Nat}{F:Nat->LField}{name:ByteArray}(h : ¬BX n F name<0):∃k:Nat,BX n F name=(k:Int)/\k<n:=by
 rcases CE n (λi=>eqs (F i).name name) with⟨h1,-⟩|⟨k,hk,h1,-⟩
 ·exact absurd (by unfold BX;rw[h1];decide) h
 ·exact⟨k,h1,hk⟩
theorem Lo(d:Nat)(ih:Gd d)(pa:Option Addr)(pn m:Nat)(P:Nat->LPart)(fa:Option Addr)(nf H:Nat)(F:Nat->LField)(a:Option Addr)(cap:Nat)(L:List (Cg (d+1)))(i:Nat)(w:World)(hp:EX w pa pn P)(hF:Cl w fa nf F)(Z:CB w (d+1) a L)(hcap:L.length<=cap)(hi:i<L.length) :
  Calls Tryz.prog 61 #[.slice pa pn m,.slice fa nf H,.slice a L.length cap,.int .i64 (i:Int)] w λe w'=>e= .returned (.int .i64 (cP pn P d nf F ((L.take i).map B8) (BS L i)))/\Below w.heap.size w w':=by
 have hn:L.length<=9223372036854775807:=Z.max;have hnf:nf<=9223372036854775807:=hF.1;obtain⟨b,o,A,C,ha,c0,c1,c2,hC,s0,s1,hs⟩:=Z.2 i hi;subst ha;have I:Hid (cP pn P d nf F ((L.take i).map B8) (BS L i)=if BX nf F (BT (BS L i))<0 then 5 else if ((L.take i).map B8).any (λq=>eqs q (B8 (BS L i))) then 6 else
   if decide ((F (BX nf F (BT (BS L i))).toNat).kind=1) == !(subs (BS L i)).isEmpty then 7 else if (subs (BS L i)).isEmpty then 0 else cL pn P d (F (BX nf F (BT (BS L i))).toNat).type (subs (BS L i))):=rfl
 have htk:(L.take i).length=i:=by rw[Bb];omega
 have R:=Z.less i;have hi':(i:Int)<(L.length:Int):=by omega
 have hi0:(0:Int)<=(i:Int):=by omega
 have hic:(i:Int)<=(cap:Int):=by omega
 generalize S:w.alloc (Obj.cells #[.string (Di (BS L i)),.string (BT (BS L i)),.slice A (subs (BS L i)).length C] 72)=V;have J:Below w.heap.size w V:=by rw[<-S];exact BW _ _
 have v0:V.cell? ⟨w.heap.size,0,none⟩=some (.string (Di (BS L i))):=by rw[<-S,Ac _ _ _ _ rfl];rfl
 have v1:V.cell? ⟨w.heap.size,1,none⟩=some (.string (BT (BS L i))):=by rw[<-S,Ac _ _ _ _ rfl];rfl
 have v2:V.cell? ⟨w.heap.size,2,none⟩=some (.slice A (subs (BS L i)).length C):=by rw[<-S,Ac _ _ _ _ rfl];rfl
 have T:=E9 fa nf H F (BT (BS L i)) V (hF.kept J);have K:=C6 J;have HPT:=C6 R;have Hp:=C6 hp;have HF:=C6 hF;have HS:=C6 hs;clear Z R hp hF hs J;generalize BS L i=p at *;generalize U:(L.take i).map B8=D at *;have HAH:=C6 U;clear U
 go_enter Tryz.func61,Tryz.ntmps61
 go_wp2_with fail
 clear S c0 c1 c2;refine T.mono ?_;clear T;rintro e B ⟨rfl,n⟩;have k0:=BR n v0;have k1:=BR n v1;have O:=BR n v2;have s:Hid (Below w.heap.size w B):=K.out.trans (n.mono K.out.size);clear n v0 v1 v2 K
 by_cases l:BX nf F (BT p)<0
 ·have u:Hid (cP pn P d nf F D p=5):=by rw[I.out,Af l];rfl
  go_wp2_with fail
  go_ret;exact⟨by rw[u.out];rfl,s.out⟩
 rw[Ae l]at I;obtain⟨x,hx,hxn⟩:=OD l;rw[hx]at I ⊢;rw[Ax]at I;have hx0 : ¬(x:Int)<0:=by omega
 clear l hx;have cC:∀v os,Calls Tryz.prog 67 #[.agg #[.string (Di p),.string (BT p),.slice A (subs p).length C]] (grow (redrawn B v) os) λe w''=>e= .returned (.string (B8 p))/\∃r:Regrown,w''=grow (redrawn B r.d) r.os:=λv os=>AF (G8 _ _ _ _ _ _);have cI:∀v os,Calls Tryz.prog 94 #[.slice (some ⟨b,o,none⟩) i cap,.string (B8 p)] (grow (redrawn B v) os) λe w''=>e= .returned (.bool (D.any (λq=>eqs q (B8 p))))/\∃r:Regrown,w''=grow (redrawn B r.d) r.os:=λv os=>by
  have h:=MD d (some ⟨b,o,none⟩) cap (L.take i) (B8 p) (grow (redrawn B v) os) ((HPT.out.kept s.out).kept (Av B v os));rw[htk,HAH.out]at h;exact AF h
 have d0:=As k0;have d1:=As k1;have d2:=As O;generalize D.any (λq=>eqs q (B8 p))=any at *
 go_wp2_with fail
 refine Ar (by kernel_rfl) (by kernel_rfl) ?_
 repeat (go_big_quiet_step (first|exact cC _ _|exact cI _ _))
 refine AK ?_;intro _ M;obtain⟨⟨N,osq⟩,y⟩:=M;subst y;have W:=Av B N osq;have j:Hid (Below w.heap.size w (grow (redrawn B N) osq)):=s.out.trans (W.mono s.out.size);have O:=d2 N osq;clear W cC cI d0 d1 d2 k0 k1 s;generalize grow (redrawn B N) osq=w2 at *
 cases any with
 |true =>
  have u:Hid (cP pn P d nf F D p=6):=by rw[I.out];rfl
  go_wp2_with fail
  go_ret;exact⟨by rw[u.out];rfl,j.out⟩
 |false =>
 obtain⟨fb,fo,hfa,f0,f1,f2,hfs0,hfs2,hfw⟩:=(HF.out.kept j.out).2 x hxn;subst hfa;have hx':(x:Int)<(nf:Int):=by omega
 have hx00:(0:Int)<=(x:Int):=by omega
 clear hx0;have k:Hid (cP pn P d nf F D p=if decide ((F x).kind=1) == !(subs p).isEmpty then 7 else if (subs p).isEmpty then 0 else cL pn P d (F x).type (subs p)):=by rw[I.out];rfl
 clear I;generalize hkd:(F x).kind=kd at *;generalize hty:(F x).type=ty at *
 by_cases Q:(subs p).length=0
 ·have g:(subs p).isEmpty=true:=by rw[BE];exact AC Q
  rw[g]at k;have hz' : ¬0<((subs p).length:Int):=by omega
  have hzd:decide (0<(subs p).length)=false:=AY (by omega);have hzn : ¬0<(subs p).length:=by omega
  by_cases c:kd=1
  ·have z:(kd==1)=true:=by simpa using c
   have u:Hid (cP pn P d nf F D p=0):=by rw[k.out,c];rfl
   clear Q c g
   go_wp2_with fail
   go_quiet (fail)
   go_wp2_with fail
   go_ret;exact⟨by rw[u.out];rfl,j.out.trans ((Cz _ _).mono j.out.size)⟩
  ·have z:(kd==1)=false:=by simpa using c
   have u:Hid (cP pn P d nf F D p=7):=by rw[k.out,AY c];rfl
   clear Q c g
   go_wp2_with fail
   go_quiet (fail)
   go_wp2_with fail
   go_ret;exact⟨by rw[u.out];rfl,j.out.trans ((Cz _ _).mono j.out.size)⟩
 ·have g:(subs p).isEmpty=false:=by
   cases h:(subs p).isEmpty with
   |false=>rfl
   |true=>exact absurd (by rw[List.isEmpty_iff.1 h];rfl) Q
  rw[g]at k;have hz':0<((subs p).length:Int):=by omega
  have hzd:decide (0<(subs p).length)=true:=Bi (by omega);have hzn:0<(subs p).length:=by omega
  by_cases c:kd=1
  ·have z:(kd==1)=true:=by simpa using c
   have u:Hid (cP pn P d nf F D p=7):=by rw[k.out,c];rfl
   clear Q c g
   go_wp2_with fail
   go_quiet (fail)
   go_wp2_with fail
   go_ret;exact⟨by rw[u.out];rfl,j.out.trans ((Cz _ _).mono j.out.size)⟩
  ·have z:(kd==1)=false:=by simpa using c
   have u:Hid (cP pn P d nf F D p=cL pn P d ty (subs p)):=by rw[k.out,AY c];rfl
   clear Q c g k
   go_wp2_with fail
   go_quiet (fail)
   go_wp2_with fail
   have E:=Cz w2 nq;have O:=BR E O;have f2:=BR E f2;have G:Hid (Below w.heap.size w (w2.drewN nq)):=j.out.trans (E.mono j.out.size);generalize w2.drewN nq=X at *;have d2:=As O;have g2:=As f2;have cL':∀v os,Calls Tryz.prog 32 #[.slice pa pn m,.string ty,.slice A (subs p).length C] (grow (redrawn X v) os) λe w''=>e= .returned (.int .i64 (cL pn P d ty (subs p)))/\∃r:Regrown,w''=grow (redrawn X r.d) r.os:=λv os=>by
    have hb:=Av X v os;exact AF (ih pa pn m P ty A C (subs p) _ ((Hp.out.kept G.out).kept hb) ((HS.out.kept G.out).kept hb) hC)
   clear f0 f1 O f2 E;refine Ar (by kernel_rfl) (by kernel_rfl) ?_
   repeat (go_big_quiet_step (first|exact cL' _ _))
   refine AK ?_;intro _ M;obtain⟨⟨N,osq⟩,y⟩:=M;subst y;have Y:=Av X N osq;have HB4:Hid (Below w.heap.size w (grow (redrawn X N) osq)):=G.out.trans (Y.mono G.out.size);clear Y
   go_wp2_with fail
   go_ret;exact⟨by rw[u.out];rfl,HB4.out⟩
theorem IF(d:Nat)(R:∀v,d=v+1->Gd v):Gd d:=by
 intro pa pn u P name a cap L w p K z;have hn:L.length<=9223372036854775807:=K.max;have S:pn<=9223372036854775807:=p.1;have j:=Oo pa pn u P name w p;have T:=C6 K;have A:=C6 p;have I:Hid (cL pn P d name L=if Ca pn P name<0 then 5 else cR pn P d (P (Ca pn P name).toNat).nf (P (Ca pn P name).toNat).F [] L):=rfl
 have N:Hid (¬Ca pn P name<0->∃k:Nat,Ca pn P name=(k:Int)/\k<pn):=λh=>by
  rcases CE pn (λi=>eqs (P i).name name) with⟨h1,-⟩|⟨k,hk,h1,-⟩
  ·exact absurd (by unfold Ca;rw[h1];decide) h
  ·exact⟨k,h1,hk⟩
 clear K p;generalize Ca pn P name=U at *
 go_enter Tryz.func32,Tryz.ntmps32
 go_wp2_with fail
 refine j.mono ?_;clear j;rintro e w1 ⟨rfl,B⟩;have C:=C6 B;clear B
 by_cases c:U<0
 ·have n:Hid (cL pn P d name L=5):=by rw[I.out,Af c];rfl
  go_wp2_with fail
  go_ret;exact⟨by rw[n.out];rfl,C.out⟩
 obtain⟨x,rfl,hx⟩:=N.out (by omega);rw[Ae c,Ax]at I;have V : ¬(x:Int)<0:=c;have W:(x:Int)<(pn:Int):=by omega
 have O:(0:Int)<=(x:Int):=by omega
 clear c N
 go_wp2_with fail
 go_loopw [17] (λi wr => ∃k:Nat,k<=L.length/\i= .int .i64 k/\Hid (∃l:List ByteArray,(∀v (e:d=v+1),l=((e ▸ L:List (Cg (v+1))).take k).map B8)/\cR pn P d (P x).nf (P x).F [] L=cR pn P d (P x).nf (P x).F l (L.drop k))/\Below w.heap.size w wr) (λi _=>L.length - (intOf i).toNat)
 case atStart=>exact⟨0,Ai _,rfl,⟨[],(λv e=>by subst e;rfl),rfl⟩,C.out⟩
 case round =>
  obtain⟨k,hk,rfl,n,g⟩:=hrel
  by_cases q:k<L.length
  ·cases d with
   |zero=>exact absurd q (by rw[MN L];exact Ak _)
   |succ d =>
   obtain⟨l,D,n⟩:=n;have D:=D d rfl;have D:l=(L.take k).map B8:=D;subst D;have X:=C6 (R d rfl);obtain⟨b,o,ha,c0,c1,c2,c3,s0,hF⟩:=(A.out.kept g).2 x hx;subst ha;have Q:(k:Int)<(L.length:Int):=by omega
   have Y:(0:Int)<=(k:Int):=by omega
   have j:=Lo d X.out (some ⟨b,o,none⟩) pn u P (P x).fa (P x).nf (P x).fcap (P x).F a cap L k wr (A.out.kept g) hF (T.out.kept g) z q;have J:Hid (cR pn P (d+1) (P x).nf (P x).F ((L.take k).map B8) (L.drop k)=if cP pn P d (P x).nf (P x).F ((L.take k).map B8) (BS L k)≠0 then cP pn P d (P x).nf (P x).F ((L.take k).map B8) (BS L k) else cR pn P (d+1) (P x).nf (P x).F ((L.take (k+1)).map B8) (L.drop (k+1))):=by
    rw[Hm q,IK,Hn q,AH];rfl
   have s:=C6 n;clear n hF;generalize cP pn P d (P x).nf (P x).F ((L.take k).map B8) (BS L k)=r at *
   go_wp2_with fail
   refine j.mono ?_;clear j;rintro e Z ⟨rfl,E⟩;have G:Hid (Below w.heap.size w Z):=g.trans (E.mono g.size);clear E c0 c1 c2 c3
   by_cases y:r=0
   ·have M:(r != 0)=false:=by simpa using y
    have m:Hid (cR pn P (d+1) (P x).nf (P x).F [] L=cR pn P (d+1) (P x).nf (P x).F ((L.take (k+1)).map B8) (L.drop (k+1))):=by rw[s.out,J.out,Ae (by simp[y])];rfl
    clear y J s
    go_wp2_with fail
    go_roundw
    case rel=>exact⟨k+1,by omega,by go_num,⟨(L.take (k+1)).map B8,(λv e=>by cases e;rfl),m.out⟩,G.out⟩
    case measure=>simp[intOf];omega
   ·have M:(r != 0)=true:=by simpa using y
    have m:Hid (cL pn P (d+1) name L=r):=by rw[I.out,s.out,J.out,Af y];rfl
    clear y J s
    go_wp2_with fail
    go_ret;exact⟨by rw[m.out];rfl,G.out⟩
  ·have H:k=L.length:=by omega
   have m:Hid (cL pn P d name L=0):=by
    obtain⟨l,-,n⟩:=n;rw[I.out,n,H,List.drop_length,Ti];rfl
   clear H n
   go_wp2_with fail
   go_ret;exact⟨by rw[m.out];rfl,g⟩
theorem H3:∀d,Gd d
 | 0=>IF 0 (λ_ h=>by omega)
 | d+1=>IF (d+1) (λa h=>by cases h;exact H3 d)
theorem O3(pa:Option Addr)(pn i:Nat)(P:Nat->LPart)(d:Nat)(type key:ByteArray)(a:Option Addr)(cap:Nat)(L:List (Cg d))(w:World)(m:EX w pa pn P)(q:CB w d a L)(n:L.length<=cap)(s:BY type)(u:BY key) :
  Calls Tryz.prog 14 #[.slice pa pn i,.agg #[.string type,.string key,.slice a L.length cap]] w λe w'=>e= .returned (.int .i64 (cA pn P d type key L))/\Below w.heap.size w w':=by
 generalize v:w.alloc (Obj.cells #[.string type,.string key,.slice a L.length cap] 25)=W;have j:Below w.heap.size w W:=by rw[<-v];exact BW _ _
 have g:W.heap[w.heap.size]? = some (.cells #[.string type,.string key,.slice a L.length cap] 25 (0,0)):=by rw[<-v];exact Ap _ _
 have c0:W.cell? ⟨w.heap.size,0,none⟩=some (.string type):=by simp[World.cell?,g]
 have c1:W.cell? ⟨w.heap.size,1,none⟩=some (.string key):=by simp[World.cell?,g]
 have c2:W.cell? ⟨w.heap.size,2,none⟩=some (.slice a L.length cap):=by simp[World.cell?,g]
 have b:=OU d type key a cap L W (q.kept j) s u;have C:=C6 q;have x:=C6 m;have k:=C6 j;have p:Hid (cA pn P d type key L=if wA d type key L≠0 then wA d type key L else cL pn P d type L):=rfl
 clear q g j m;generalize wA d type key L=r at *
 go_enter Tryz.func14,Tryz.ntmps14
 go_wp2_with fail
 clear v;refine b.mono ?_;clear b;rintro e B ⟨rfl,h⟩;have c0:=BR h c0;have c2:=BR h c2;have c:Hid (Below w.heap.size w B):=k.out.trans (h.mono k.out.size);clear h k c1
 by_cases l:r=0
 ·have y:(r != 0)=false:=by simpa using l
  have z:Hid (cA pn P d type key L=cL pn P d type L):=by rw[p.out,Ae (by simp[l])];rfl
  have b:=H3 d pa pn i P type a cap L B (x.out.kept c.out) (C.out.kept c.out) n;clear l p
  go_wp2_with fail
  refine b.mono ?_;clear b;rintro e D ⟨rfl,o⟩;have A:Hid (Below w.heap.size w D):=c.out.trans (o.mono c.out.size);clear o
  go_wp2_with fail
  go_ret;exact⟨by rw[z.out];rfl,A.out⟩
 ·have y:(r != 0)=true:=by simpa using l
  have z:Hid (cA pn P d type key L=r):=by rw[p.out,Af l];rfl
  clear l p
  go_wp2_with fail
  go_ret;exact⟨by rw[z.out];rfl,c.out⟩
theorem SU(w:World)(key:ByteArray):Df (w.alloc (.cells #[.string key] 9)) 0 (.slice (some ⟨w.heap.size,0,none⟩) 1 1) [key] :=
 ⟨rfl,.inr ⟨w.heap.size,1,#[.string key],rfl,Ai _,Ap _ _,Aj _,by unfold maxLen;omega,rfl,rfl⟩⟩
def Vh (X:World) (A:World->LV->Prop) (T:World->Value->Prop) (key:ByteArray) (b:Bool) (j:Nat) (x:Nat->Value) (d:World):Prop:=(j=0->Below X.heap.size X d)/\(j=1->∃Y,Below X.heap.size X Y/\d=Y.alloc (.cells #[.string key] 9)/\x 0= .slice (some ⟨Y.heap.size,0,none⟩) 1 1)/\(j=2->∃l:LV,x 1= .agg #[.slice l.a l.n l.c,.map l.h,.map l.v]/\A d l) /\
 (3<=j->∃va vn vc,x 2= .tuple #[.slice va vn vc,.bool b]/\T d (.slice va vn vc)/\(4<=j->x 3=x 2)/\(5<=j->x 4= .slice va vn vc)/\(6<=j->x 5=x 4)/\(7<=j->x 6= .bool b))
theorem Ha{d:Nat}{M:List (DH d)}{R:List PReq}{x:Int}{w:World}(h:M = [])(a:R = []):PM d M R x (.returned (.tuple #[.slice none 0 0,.slice none 0 0,.int .i64 x])) w:=by
 subst h;subst a;exact⟨none,0,none,0,rfl,Aj _,Aj _,Dg.none,Ff.none⟩
theorem Sk:Qy 9:=by
 intro la n cap V d type key a o ps w hS hP hcap hs0 hs1;have HS:=Aa hS;have HP:=Aa hP;obtain⟨M,hM⟩:∃M,M=Jx n V d type key ps:=⟨_,rfl⟩;obtain⟨R,hR⟩:∃R,R=Tt n V d type key ps:=⟨_,rfl⟩;obtain⟨x,hx⟩:∃x,x=GB n V d type key ps:=⟨_,rfl⟩;rw[<-hM,<-hx,<-hR];have HM:Hid (M=if x=0 then D9 V (Cr (CQ V) (BZ V) n) d (Du (Cr (CQ V) (BZ V) n) type) key ps else []):=Aa (by rw[hM,hx];rfl)
 have HR:Hid (R=if x=0 then DA V (Cr (CQ V) (BZ V) n) d (Du (Cr (CQ V) (BZ V) n) type) [key] ps else []):=Aa (by rw[hR,hx];rfl)
 have HX:Hid (x=if (DT n V).1≠0 then (DT n V).1 else Lu V (Cr (CQ V) (BZ V) n) d type key ps):=Aa hx
 generalize hW:w.alloc (Obj.cells #[.string type,.string key,.slice a ps.length o] 25)=W;have hBW:Below w.heap.size w W:=by rw[<-hW];exact BW _ _
 have a0:W.cell? ⟨w.heap.size,0,none⟩=some (.string type):=by rw[<-hW,Ac _ _ _ _ rfl];rfl
 have a1:W.cell? ⟨w.heap.size,1,none⟩=some (.string key):=by rw[<-hW,Ac _ _ _ _ rfl];rfl
 have a2:W.cell? ⟨w.heap.size,2,none⟩=some (.slice a ps.length o):=by rw[<-hW,Ac _ _ _ _ rfl];rfl
 have H:=ST la n cap V W (hS.kept hBW);have HBW:=Aa hBW;clear hS hP hM hx hR hBW
 go_enter Tryz.func9,Tryz.ntmps9
 go_wp2_with fail
 clear hW;refine H.mono ?_;clear H;rintro e w1 ⟨⟨va,vn,vc,rfl,-,hPt⟩,T⟩;have hB1:Below w.heap.size w w1:=HBW.out.trans (T.mono HBW.out.size);have a0:=BR T a0;have a1:=BR T a1;have a2:=BR T a2;have hab:w.heap.size<w1.heap.size:=An a0;have HPt:=Aa hPt;obtain⟨fl,hfl⟩:∃fl,fl=DT n V:=⟨_,rfl⟩;rw[<-hfl]at HX HPt;rw[<-hfl];have HFL:=Aa hfl;clear hfl hPt;unfold Dj;generalize hX1:w1.alloc (Obj.cells #[.int .i64 fl.1,.int .i64 fl.2] 39)=X1;have I:Below w1.heap.size w1 X1:=by rw[<-hX1];exact BW _ _
 have f0:X1.cell? ⟨w1.heap.size,0,none⟩=some (.int .i64 fl.1):=by rw[<-hX1,Ac _ _ _ _ rfl];rfl
 have b0:=BR I a0;have b1:=BR I a1;have b2:=BR I a2;have J:=Aa (hB1.trans (I.mono hB1.size));have HX1:=Aa I;clear T hB1 I a0 a1 a2
 by_cases h0:fl.1=0
 case neg =>
  have hb:(fl.1 != 0)=true:=by simpa using h0
  have z:Hid (x=fl.1/\M = []/\R = []):=Aa (by
   have e1:x=fl.1:=by rw[HX.out,Af h0]
   refine⟨e1,?_,?_⟩
   ·rw[HM.out,Ae (by rw[e1];exact h0)]
   ·rw[HR.out,Ae (by rw[e1];exact h0)])
  clear h0 HX HM HR HPt HS HP
  go_wp2_with fail
  clear hX1
  go_quiet (fail)
  go_wp2_with fail
  exact At (v:=.tuple #[.slice none 0 0,.slice none 0 0,.int .i64 fl.1]) (by simp[results,Tryz.results9,go_sem]) rfl ⟨by rw[z.out.1];exact Ha z.out.2.1 z.out.2.2,J.out.trans ((Cz _ _).mono J.out.size)⟩
 have hb:(fl.1 != 0)=false:=by simpa using h0
 obtain⟨rv,hPa⟩:=HPt.out h0;obtain⟨hvn,hvc,hpts⟩:=hPa.pts;have HXE:Hid (x=Lu V (Cr (CQ V) (BZ V) n) d type key ps):=Aa (by rw[HX.out,Ae (λh=>h h0)]);have g:(DT n V).1=0:=by rw[<-HFL.out];exact h0
 have U:Hid (∀nm,¬Ca (Cr (CQ V) (BZ V) n).length (DI (Cr (CQ V) (BZ V) n)) nm<0->GPart n V (Du (Cr (CQ V) (BZ V) n) nm)):=Aa λnm h=>Ud g h;have HKD:=Aa (RD g);have HLT:=Aa (ND g);have X:Hid (∀(ahead:List ByteArray),¬Ca (Cr (CQ V) (BZ V) n).length (DI (Cr (CQ V) (BZ V) n)) type<0->cR (Cr (CQ V) (BZ V) n).length (DI (Cr (CQ V) (BZ V) n)) d (Du (Cr (CQ V) (BZ V) n) type).fs.length (De (Du (Cr (CQ V) (BZ V) n) type)) ahead ps=0->(DA V (Cr (CQ V) (BZ V) n) d (Du (Cr (CQ V) (BZ V) n) type) [key] ps).length<=GQ d ps*n):=Aa λahead h1 h2=>Kg g d type [key] ps ahead h1 h2;have hn5:n<=5:=(E5 (GO g)).1;generalize Cr (CQ V) (BZ V) n=L at *;subst hvn;obtain⟨P,hPA,hcA⟩:=hpts.check;have H:=O3 va L.length vc P d type key a o ps X1 (hPA.kept HX1.out) (HP.out.kept J.out) hcap hs0 hs1;rw[hcA]at H;have HPA:=Aa hPa;clear hPa hpts hPA hcA g HPt HFL HX h0
 go_wp2_with fail
 clear hX1;refine H.mono ?_;clear H;rintro e c ⟨rfl,K⟩;have Z:Hid (Below w.heap.size w c):=Aa (J.out.trans (K.mono J.out.size));have hB12:Below w1.heap.size w1 c:=HX1.out.trans (K.mono HX1.out.size);have aa:=Aa (HPA.out.kept' hB12);have b0:=BR K b0;have b1:=BR K b1;have b2:=BR K b2;clear K hB12 HPA HX1 J f0
 by_cases i:cA L.length (DI L) d type key ps=0
 case neg =>
  have hcb:(cA L.length (DI L) d type key ps != 0)=true:=by simpa using i
  have z:Hid (x=cA L.length (DI L) d type key ps/\M = []/\R = []):=Aa (by
   have e1:x=cA L.length (DI L) d type key ps:=by rw[HXE.out];unfold Lu;rw[Af i]
   refine⟨e1,?_,?_⟩
   ·rw[HM.out,Ae (by rw[e1];exact i)]
   ·rw[HR.out,Ae (by rw[e1];exact i)])
  generalize cA L.length (DI L) d type key ps=y at *;clear i HXE HM HR HS HP aa U HKD HLT X
  go_wp2_with fail
  exact At (v:=.tuple #[.slice none 0 0,.slice none 0 0,.int .i64 y]) (by simp[results,Tryz.results9,go_sem]) rfl ⟨by rw[z.out.1];exact Ha z.out.2.1 z.out.2.2,Z.out⟩
 have hcb:(cA L.length (DI L) d type key ps != 0)=false:=by simpa using i
 obtain⟨hwA,hpi,hcR⟩:=Qp i;have HSM:=Aa (SR hwA);have HTOT:=Aa (OC hwA);have HPI:Hid (¬Ca L.length (DI L) type<0):=Aa hpi;have HCR:Hid (cR L.length (DI L) d (Du L type).fs.length (De (Du L type)) [] ps=0):=Aa hcR;have ab:Hid (x=if DY V (Du L type) key=true then 0 else 5):=Aa (by rw[HXE.out];unfold Lu;rw[Ae (λh=>h i)])
 clear hwA hpi hcR HXE i;have C:Hid ((DA V L d (Du L type) [key] ps).length<=1000):=Aa (by
  have h1:=X.out [] (by have:=HPI.out;omega) HCR.out;have h2:=G9 d ps;have h3:=HTOT.out;have h4:GQ d ps*n<=61*5:=Nat.mul_le_mul (by omega) hn5;omega)
 obtain⟨O,hX3⟩:∃O,O=c.alloc (Obj.cells #[.slice la n cap,.slice va L.length vc,.slice none 0 0] 58):=⟨_,rfl⟩;have p:Below c.heap.size c O:=by rw[hX3];exact BW _ _
 have hg3:O.heap[c.heap.size]? = some (.cells #[.slice la n cap,.slice va L.length vc,.slice none 0 0] 58 (0,0)):=by rw[hX3];exact Ap _ _
 have HG3:Hid (GateAt c.heap.size c.heap.size (.slice la n cap) (.slice va L.length vc) O []):=Aa ⟨.slice none 0 0,λ_=>undef,λ_=>undef,hg3,RRow.nil _ _ _ _⟩;have HENV:Hid (AskEnv c.heap.size c.heap.size c la n cap (.slice va L.length vc) V L):=Aa ⟨rfl,Aj _,HS.out.kept Z.out,⟨_,rv,aa.out⟩,HLT.out,(λnm h=>U.out nm (by omega)),HKD.out⟩;have HPX:=Aa (HP.out.kept Z.out);have D:=Aa p;have HB0:=Aa (BR p b0);have HB1:=Aa (BR p b1);have HB2':=Aa (BR p b2);have hba:w.heap.size<c.heap.size:=An b0;have hX3s:c.heap.size<O.heap.size:=Ag hg3;clear p hg3 aa HS HP b0 b1 b2 U HKD HLT X HTOT;obtain⟨bt,A⟩:∃bt,bt=DY V (Du L type) key:=⟨_,rfl⟩;rw[<-A]at ab;have HBT:=Aa A;clear A;have HX3:=Aa hX3;clear hX3
 go_upto_region 8 with fail
 rw[<-HX3.out];refine Uz (Vh O (λk l=>GateAt c.heap.size c.heap.size (.slice la n cap) (.slice va L.length vc) k (DA V L d (Du L type) [key] ps)/\KeepQ c.heap.size c.heap.size O k/\∃NN,EP NN k l d [key] (GZ V L d (Du L type) ps)) (λk y=>GateAt c.heap.size c.heap.size (.slice la n cap) (.slice va L.length vc) k (DA V L d (Du L type) [key] ps)/\KeepQ c.heap.size c.heap.size O k/\((bt=false/\y= .slice none 0 0)\/∃Q S,bt=true/\y= .slice Q (D9 V L d (Du L type) key ps).length S/\(D9 V L d (Du L type) key ps).length<=S/\Dg k d Q (D9 V L d (Du L type) key ps))) key bt)
  (ba:=w.heap.size) (bg:=c.heap.size) (pn:=ps.length) (pc:=o) (pa:=a) (ty:=type) (key:=key) (b:=bt) (by kernel_rfl) rfl rfl ?_ ?_ ?_ ?_ ?_ ?_ ?_ ?_ ?_ ?_ ?_
 ·rintro j m k hj ⟨-,-,-,h3⟩
  obtain⟨f1,B,r,e1,-,e2,-⟩:=h3 (by omega);exact⟨_,(e2 hj).trans e1⟩
 ·intro m
  exact⟨λ_=>(Aq _ _).drew,λh=>absurd h (by omega),λh=>absurd h (by omega),λh=>absurd h (by omega)⟩
 ·rintro j m k - ⟨h0,h1,h2,h3⟩
  have hk:k.heap[w.heap.size]? = O.heap[w.heap.size]?:=by
   rcases Nat.lt_or_ge j 3 with hj|hj
   ·have hj:j=0\/j=1\/j=2:=by omega
    rcases hj with rfl|rfl|rfl
    ·exact(h0 rfl).block _ (by omega)
    ·obtain⟨Y,hY,rfl,-⟩:=h1 rfl
     rw[(BW Y _).block _ (by have:=hY.size;omega),hY.block _ (by omega)]
    ·obtain⟨l,-,-,hk9,-⟩:=h2 rfl
     exact hk9.block _ (by omega) (by omega) (.inl hba)
   ·obtain⟨f1,B,r,-,⟨-,hk9,-⟩,-⟩:=h3 hj
    exact hk9.block _ (by omega) (by omega) (.inl hba)
  exact⟨(Aw hk).trans HB0.out,(Aw hk).trans HB1.out,(Aw hk).trans HB2'.out⟩
 ·rintro m k ⟨h0,-⟩ u e1 e2
  exact⟨λh=>absurd h (by omega),λ_=>⟨k,h0 rfl,rfl,e1⟩,λh=>absurd h (by omega),λh=>absurd h (by omega)⟩
 ·rintro m k ⟨-,h1,-⟩
  obtain⟨Y,hY,rfl,hx9⟩:=h1 rfl;rw[hx9];have hbY:=BW Y (Obj.cells #[.string key] 9);have hXY:Below O.heap.size O (Y.alloc (Obj.cells #[.string key] 9)):=hY.trans (hbY.mono hY.size);refine(Qs c.heap.size c.heap.size c la n cap va L.length vc V L HENV.out d type [key] (some ⟨Y.heap.size,0,none⟩) 1 a o ps [] (Y.alloc (Obj.cells #[.string key] 9)) (D.out.trans (hXY.mono D.out.size)) (HG3.out.kept hXY) (SU Y key) (λy hy=>by simp at hy;rw[hy];exact hs1) (by simp) (by simp) (by simp) HPX.out (λe=>?_) HSM.out.1 (by have:=HPI.out;omega) HCR.out (by simpa using C.out)).mono ?_
  ·have:=HSM.out.2
   rw[e]at this;simp at this
  rintro e w8 ⟨l,rfl,q1,q2,q3⟩;exact⟨_,rfl,λu e1 e2=>⟨λh=>absurd h (by omega),λh=>absurd h (by omega),λ_=>⟨l,e1,q1,(KeepQ.of hXY).trans q2,_,q3⟩,λh=>absurd h (by omega)⟩⟩
 ·rintro m k ⟨-,-,h2,-⟩
  obtain⟨l,hx9,q1,q2,NN,q3⟩:=h2 rfl;rw[hx9];refine(q3 k (Later.refl _ _) key hs1 (by simp)).mono ?_;rintro e w8 ⟨hB8,hE8⟩;have hK8:=q2.trans (KeepQ.of hB8);have hG8:=q1.kept hB8;have A:=HBT.out;rcases hE8 with⟨h9,rfl⟩|⟨M',Q,S,h9,rfl,hc',E⟩
  ·have hbf:bt=false:=by
    cases hb9:bt with
    |false=>rfl
    |true =>
     unfold GZ at h9;rw[<-A,hb9,Af rfl]at h9;cases h9
   rw[hbf];exact⟨_,rfl,λu e1 e2=>⟨λh=>absurd h (by omega),λh=>absurd h (by omega),λh=>absurd h (by omega),λ_=>⟨none,0,0,e1,⟨hG8,hK8,.inl ⟨rfl,rfl⟩⟩,λh=>absurd h (by omega),λh=>absurd h (by omega),λh=>absurd h (by omega),λh=>absurd h (by omega)⟩⟩⟩
  ·have hbf:bt=true:=by
    cases hb9:bt with
    |true=>rfl
    |false =>
     unfold GZ at h9;rw[<-A,hb9,Ae (by decide)]at h9;cases h9
   have hMM:M'=D9 V L d (Du L type) key ps:=by
    unfold GZ at h9;rw[<-A,hbf,Af rfl]at h9;exact(Ab h9).symm
   subst hMM;rw[hbf];exact⟨_,rfl,λu e1 e2=>⟨λh=>absurd h (by omega),λh=>absurd h (by omega),λh=>absurd h (by omega),λ_=>⟨Q,_,S,e1,⟨hG8,hK8,.inr ⟨Q,S,rfl,rfl,hc',E.free.at⟩⟩,λh=>absurd h (by omega),λh=>absurd h (by omega),λh=>absurd h (by omega),λh=>absurd h (by omega)⟩⟩⟩
 ·rintro m k ⟨-,-,-,h3⟩ u e1 e2
  obtain⟨f1,B,r,r1,r2,-⟩:=h3 (by omega);have e0:u 2=m 2:=e2 2 (by decide);exact⟨λh=>absurd h (by omega),λh=>absurd h (by omega),λh=>absurd h (by omega),λ_=>⟨f1,B,r,e0.trans r1,r2,λ_=>e1.trans e0.symm,λh=>absurd h (by omega),λh=>absurd h (by omega),λh=>absurd h (by omega)⟩⟩
 ·rintro m k ⟨-,-,-,h3⟩
  obtain⟨f1,B,r,r1,r2,r3,-⟩:=h3 (by omega);refine⟨f1,B,r,(r3 (by omega)).trans r1,λu e1 e2=>?_⟩;have e0:u 2=m 2:=e2 2 (by decide);have e9:u 3=m 3:=e2 3 (by decide);exact⟨λh=>absurd h (by omega),λh=>absurd h (by omega),λh=>absurd h (by omega),λ_=>⟨f1,B,r,e0.trans r1,r2,λ_=>by rw[e9,e0];exact r3 (by omega),λ_=>e1,λh=>absurd h (by omega),λh=>absurd h (by omega)⟩⟩
 ·rintro m k ⟨-,-,-,h3⟩ u e1 e2
  obtain⟨f1,B,r,r1,r2,r3,r4,-⟩:=h3 (by omega);have e0:u 2=m 2:=e2 2 (by decide);have e9:u 3=m 3:=e2 3 (by decide);have e8:u 4=m 4:=e2 4 (by decide);exact⟨λh=>absurd h (by omega),λh=>absurd h (by omega),λh=>absurd h (by omega),λ_=>⟨f1,B,r,e0.trans r1,r2,λ_=>by rw[e9,e0];exact r3 (by omega),λ_=>e8.trans (r4 (by omega)),λ_=>e1.trans e8.symm,λh=>absurd h (by omega)⟩⟩
 ·rintro m k ⟨-,-,-,h3⟩ u e1 e2
  obtain⟨f1,B,r,r1,r2,r3,r4,r5,-⟩:=h3 (by omega);have e0:u 2=m 2:=e2 2 (by decide);have e9:u 3=m 3:=e2 3 (by decide);have e8:u 4=m 4:=e2 4 (by decide);have e7:u 5=m 5:=e2 5 (by decide);exact⟨λh=>absurd h (by omega),λh=>absurd h (by omega),λh=>absurd h (by omega),λ_=>⟨f1,B,r,e0.trans r1,r2,λ_=>by rw[e9,e0];exact r3 (by omega),λ_=>e8.trans (r4 (by omega)),λ_=>by rw[e7,e8];exact r5 (by omega),λ_=>e1⟩⟩
 intro s w4 hp;obtain⟨-,-,-,hp⟩:=hp;obtain⟨f1,B,r,-,⟨hG4,N,hT4⟩,-,q4,q5,q6⟩:=hp (by omega);have hs44:s 44= .slice f1 B r:=q4 (by omega);have F:s 11= .slice f1 B r:=(show s 11=s 44 from q5 (by omega)).trans hs44;have G:s 12= .bool bt:=q6 (by omega);obtain⟨rv4,kv4,fv4,hg4,hr4⟩:=hG4;obtain⟨qa,qc,hq4,hqc,hreq⟩:=hr4.out (by unfold maxLen;have:=C.out;omega);subst hq4;have hgc:w4.cell? ⟨c.heap.size,2,none⟩=some (.slice qa (DA V L d (Du L type) [key] ps).length qc):=by simp[World.cell?,hg4]
 have HB4:Hid (Below w.heap.size w w4):=Aa (Z.out.trans ((D.out.mono (by omega)).trans ⟨N.os,N.tape,N.output,N.size,λq hq=>N.block q (by omega) (by omega) (.inl (by omega))⟩));have HREQ:=Aa hreq;have HT4:=Aa hT4;clear hp q4 q5 q6 hs44 N hT4 hg4 hr4 hreq HG3 HENV HPX D HB0 HB1 HB2' HSM HPI HCR Z
 cases bt with
 |false =>
  have hy:Value.slice f1 B r= .slice none 0 0:=by
   rcases HT4.out with⟨-,h⟩|⟨Q,S,h,-⟩
   ·exact h
   ·cases h
  cases hy;have z:Hid (x=5/\M = []/\R = []):=Aa (by
   have e1:x=5:=by rw[ab.out];rfl
   exact⟨e1,by rw[HM.out,e1];rfl,by rw[HR.out,e1];rfl⟩)
  clear HT4 HREQ ab HM HR HBT C;simp only[Cn,Act.put,Au,AD,AE,F,G];generalize s 33=t33;generalize s 34=t34;generalize s 35=t35;generalize s 36=t36;generalize s 37=t37;generalize s 38=t38;generalize s 39=t39;generalize s 40=t40;generalize s 41=t41;generalize s 42=t42;generalize s 43=t43;generalize s 32=t32;generalize s 44=t44;generalize s 45=t45;clear F G
  go_wp2_with fail
  exact At (v:=.tuple #[.slice none 0 0,.slice none 0 0,.int .i64 5]) (by simp[results,Tryz.results9,go_sem]) rfl ⟨by rw[z.out.1];exact Ha z.out.2.1 z.out.2.2,HB4.out⟩
 |true =>
  obtain⟨Q,S,hy,hc',E⟩:∃Q S,Value.slice f1 B r= .slice Q (D9 V L d (Du L type) key ps).length S/\(D9 V L d (Du L type) key ps).length<=S/\Dg w4 d Q (D9 V L d (Du L type) key ps):=by
   rcases HT4.out with⟨h,-⟩|⟨Q,S,-,h2,h3,h4⟩
   ·cases h
   ·exact⟨Q,S,h2,h3,h4⟩
  cases hy;have z:Hid (x=0/\M=D9 V L d (Du L type) key ps/\R=DA V L d (Du L type) [key] ps):=Aa (by
   have e1:x=0:=by rw[ab.out];rfl
   exact⟨e1,by rw[HM.out,e1];rfl,by rw[HR.out,e1];rfl⟩)
  have HO:=Aa E;clear HT4 ab HM HR HBT C E;simp only[Cn,Act.put,Au,AD,AE,F,G];generalize s 33=t33;generalize s 34=t34;generalize s 35=t35;generalize s 36=t36;generalize s 37=t37;generalize s 38=t38;generalize s 39=t39;generalize s 40=t40;generalize s 41=t41;generalize s 42=t42;generalize s 43=t43;generalize s 32=t32;generalize s 44=t44;generalize s 45=t45;clear F G;generalize D9 V L d (Du L type) key ps=MM at *;generalize DA V L d (Du L type) [key] ps=RR at *
  go_wp2_with fail
  go_quiet (fail)
  go_wp2_with fail
  exact At (v:=.tuple #[.slice f1 MM.length r,.slice qa RR.length qc,.int .i64 0]) (by simp[results,Tryz.results9,go_sem]) rfl ⟨by rw[z.out.1,z.out.2.1,z.out.2.2];exact⟨f1,r,qa,qc,rfl,hc',hqc,Dg.kept (Cz _ _) HO.out,HREQ.out.kept (Cz _ _)⟩,HB4.out.trans ((Cz _ _).mono HB4.out.size)⟩
end Go.Proofs.YtjjggefmmeminabGreat
