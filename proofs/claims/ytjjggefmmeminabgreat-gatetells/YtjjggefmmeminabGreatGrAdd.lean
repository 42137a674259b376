import Derived.Test.YtjjggefmmeminabGreatJRc
import Derived.Test.YtjjggefmmeminabGreatJGk
import Derived.Test.YtjjggefmmeminabGreatGvAnswer
set_option maxRecDepth 100000
set_option maxHeartbeats 4000000
namespace Go.Proofs.YtjjggefmmeminabGreat
open Go.RowKit Go.Sort Go.PlainAid
def ON:List Oper:=[
 ⟨some 23,.fieldAddr 63 (.tmp 4) 1,0,"list.go:60",#[],none⟩,
 ⟨some 24,.load 60 (.tmp 23),60,"list.go:60",#[⟨0,.data⟩],none⟩,
 ⟨some 25,.move (.tmp 2),65,"list.go:60",#[],none⟩,
 ⟨some 26,.move (.tmp 8),3,"list.go:60",#[],none⟩,
 ⟨some 27,.indexAddr 65 (.tmp 25) (.tmp 26),0,"list.go:60",#[⟨2,.data⟩,⟨3,.data⟩],none⟩,
 ⟨some 28,.load 9 (.tmp 27),9,"list.go:60",#[⟨4,.data⟩],none⟩,
 ⟨some 29,.lookup 60 (.tmp 24) (.tmp 28) false,3,"list.go:60",#[⟨1,.data⟩,⟨5,.data⟩],none⟩,
 ⟨some 30,.binOp .add 3 (.tmp 29) (.const (.int .i64 1)) 3,3,"list.go:60",#[⟨6,.data⟩],none⟩,
 ⟨none,.mapUpdate 60 (.tmp 24) (.tmp 28) (.tmp 30),0,"list.go:60",#[⟨1,.data⟩,⟨5,.data⟩,⟨7,.data⟩,⟨0,.phase⟩,⟨1,.phase⟩,⟨2,.phase⟩,⟨3,.phase⟩,⟨4,.phase⟩,⟨5,.phase⟩,⟨6,.phase⟩,⟨7,.phase⟩],none⟩]
theorem Tz{Q:Exit->Act->World->Prop}{y:Act}{K:World}(P:Nat->(Nat->Value)->World->Prop){bl bh kb ko nk kcap k c:Nat}{key:ByteArray}(F : [23,24,25,26,27,28,29,30].all (λd=>decide (d<y.tmps.size))=true)(M:B4 y 4= .pointer (some ⟨bl,0,none⟩))(N:B4 y 2= .slice (some ⟨kb,ko,none⟩) nk kcap)(O:B4 y 8= .int .i64 (k:Int))(hk:(k:Int)<(nk:Int))(R:(0:Int)<=(k:Int))(S:IntKind.i64.wrap ((c:Int)+1)=(c:Int)+1)(G:∀x,P 0 x K.drew)(r:∀j x w,j<1->P j x w->w.cell? ⟨bl,1,none⟩=some (.map (some bh))/\w.cell? ⟨kb,ko+k,none⟩=some (.string key)/\(Instr.lookup 60 (.map (some bh)) (.string key) false).run Tryz.prog w= .ok (.int .i64 (c:Int)) w)(H:∀x w,P 0 x w->∃w',(Instr.mapUpdate 60 (.map (some bh)) (.string key) (.int .i64 ((c:Int)+1))).run Tryz.prog w= .ok () w'/\P 1 x w')(T:∀s w',P 1 (λi=>s ([0].getD i 0)) w'->Q .normal (Cn y s [23,24,25,26,27,28,29,30]) w') :
  (Code.region 5 ON.toArray true).wp Tryz.prog Q y K:=by
 refine Cq (by kernel_rfl) (by kernel_rfl) [23,24,25,26,27,28,29,30] (by kernel_rfl) F (by kernel_rfl) (λ_=>99) (It [8] [.pointer (some ⟨bl,1,none⟩),.map (some bh),.slice (some ⟨kb,ko,none⟩) nk kcap,.int .i64 (k:Int),.pointer (some ⟨kb,ko+k,none⟩),.string key,.int .i64 (c:Int),.int .i64 ((c:Int)+1),undef]) (DS [8] [0] P) (DS.start (G _)) ?_ ?_
 ·intro z b D o V a I u g v l q m
  have n:=z9 I (by decide);obtain _|o:=o
  ·obtain rfl:=Ab l
   have p:=zF v M rfl;refine zr (.pointer (some ⟨bl,1,none⟩)) rfl rfl rfl rfl a ?_;simp only[execOp,BV,p];go_simp
  obtain _|o:=o
  ·obtain rfl:=Ab l
   have p:b 23= .pointer (some ⟨bl,1,none⟩):=zA g m n 0 (by simp);have A:z 8=false:=Ce (λh=>u 8 _ h rfl ⟨1,.data⟩ (by simp) rfl) q;obtain⟨W,-,-⟩:=r _ _ _ (CS (E:=[8]) (by simp) A) a;refine zr (.map (some bh)) rfl rfl rfl rfl a ?_;simp only[execOp,BV,p];go_simp
  obtain _|o:=o
  ·obtain rfl:=Ab l
   have p:=zF v N rfl;refine zr (.slice (some ⟨kb,ko,none⟩) nk kcap) rfl rfl rfl rfl a ?_;simp only[execOp,BV,p];go_simp
  obtain _|o:=o
  ·obtain rfl:=Ab l
   have p:=zF v O rfl;refine zr (.int .i64 (k:Int)) rfl rfl rfl rfl a ?_;simp only[execOp,BV,p];go_simp
  obtain _|o:=o
  ·obtain rfl:=Ab l
   have p:b 25= .slice (some ⟨kb,ko,none⟩) nk kcap:=zA g m n 2 (by simp);have e1:b 26= .int .i64 (k:Int):=zA g m n 3 (by simp);refine zr (.pointer (some ⟨kb,ko+k,none⟩)) rfl rfl rfl rfl a ?_;simp only[execOp,BV,p,e1];go_simp
  obtain _|o:=o
  ·obtain rfl:=Ab l
   have p:b 27= .pointer (some ⟨kb,ko+k,none⟩):=zA g m n 4 (by simp);have A:z 8=false:=Ce (λh=>u 8 _ h rfl ⟨5,.data⟩ (by simp) rfl) q;obtain⟨-,X,-⟩:=r _ _ _ (CS (E:=[8]) (by simp) A) a;refine zr (.string key) rfl rfl rfl rfl a ?_;simp only[execOp,BV,p];go_simp
  obtain _|o:=o
  ·obtain rfl:=Ab l
   have p:b 24= .map (some bh):=zA g m n 1 (by simp);have e1:b 28= .string key:=zA g m n 5 (by simp);have A:z 8=false:=Ce (λh=>u 8 _ h rfl ⟨6,.phase⟩ (by simp) rfl) q;obtain⟨-,-,Y⟩:=r _ _ _ (CS (E:=[8]) (by simp) A) a;refine zr (.int .i64 (c:Int)) rfl rfl rfl rfl a ?_;simp only[execOp,BV,p,e1];go_simp
  obtain _|o:=o
  ·obtain rfl:=Ab l
   have p:b 29= .int .i64 (c:Int):=zA g m n 6 (by simp);refine zr (.int .i64 ((c:Int)+1)) rfl rfl rfl rfl a ?_;simp only[execOp,BV,p];go_simp
  obtain _|o:=o
  ·obtain rfl:=Ab l
   have B:DR [8] z=0:=by simp[DR,q]
   have J:P 0 (λi=>b ([0].getD i 0)) D:=by
    have h:=a;unfold DS at h;rw[B]at h;exact h
   have p:b 24= .map (some bh):=zA g m n 1 (by simp);have e1:b 28= .string key:=zA g m n 5 (by simp);have e2:b 30= .int .i64 ((c:Int)+1):=zA g m n 7 (by simp);obtain⟨w',Z,U⟩:=H _ D J;refine CV (w':=w') ?_ ⟨DS.eff (by decide) (by decide) q B U,AM,λk _ _ _ h=>h⟩;simp only[execOp,BV,p,e1,e2];go_simp
  ·exfalso
   have L:o+9<9:=(List.getElem?_eq_some_iff.1 l).1;omega
 ·intro z b D a _ C _
  have h:=a;unfold DS at h;rw[EW (λe he=>by simp at he;subst he;exact C 8 (by decide))]at h;exact T b D h
def RO:List Oper:=[
 ⟨some 48,.fieldAddr 63 (.tmp 4) 2,0,"list.go:63",#[],none⟩,
 ⟨some 49,.load 61 (.tmp 48),61,"list.go:63",#[⟨0,.data⟩],none⟩,
 ⟨some 50,.load 92 (.tmp 12),92,"list.go:63",#[],none⟩,
 ⟨some 51,.move (.tmp 2),65,"list.go:63",#[],none⟩,
 ⟨some 52,.move (.tmp 8),3,"list.go:63",#[],none⟩,
 ⟨some 53,.indexAddr 65 (.tmp 51) (.tmp 52),0,"list.go:63",#[⟨3,.data⟩,⟨4,.data⟩],none⟩,
 ⟨some 54,.load 9 (.tmp 53),9,"list.go:63",#[⟨5,.data⟩],none⟩,
 ⟨some 55,.build 167 #[(0,.tmp 50),(1,.tmp 54)],167,"list.go:63",#[⟨2,.data⟩,⟨6,.data⟩],none⟩,
 ⟨some 56,.load 120 (.tmp 11),120,"list.go:63",#[],none⟩,
 ⟨none,.mapUpdate 61 (.tmp 49) (.tmp 55) (.tmp 56),0,"list.go:63",#[⟨1,.data⟩,⟨7,.data⟩,⟨8,.data⟩,⟨0,.phase⟩,⟨1,.phase⟩,⟨2,.phase⟩,⟨3,.phase⟩,⟨4,.phase⟩,⟨5,.phase⟩,⟨6,.phase⟩,⟨7,.phase⟩,⟨8,.phase⟩],none⟩]
theorem Ut{Q:Exit->Act->World->Prop}{v:Act}{L:World}(P:Nat->(Nat->Value)->World->Prop){bl bv bo bx kb ko nk kcap k xn xc:Nat}{ka:Option Addr}{sv:Int}{ty f tx key:ByteArray}(D : [48,49,50,51,52,53,54,55,56].all (λd=>decide (d<v.tmps.size))=true)(N:B4 v 4= .pointer (some ⟨bl,0,none⟩))(F:B4 v 12= .pointer (some ⟨bo,0,none⟩))(G:B4 v 11= .pointer (some ⟨bx,0,none⟩))(O:B4 v 2= .slice (some ⟨kb,ko,none⟩) nk kcap)(R:B4 v 8= .int .i64 (k:Int))(hk:(k:Int)<(nk:Int))(S:(0:Int)<=(k:Int))(H:∀x,P 0 x L.drew)(r:∀j x w,j<1->P j x w->w.cell? ⟨bl,2,none⟩=some (.map (some bv))/\w.cell? ⟨bo,0,none⟩=some (.int .i64 sv)/\w.cell? ⟨bo,1,none⟩=some (.string ty)/\w.cell? ⟨bo,2,none⟩=some (.string f)/\w.cell? ⟨kb,ko+k,none⟩=some (.string key)/\w.cell? ⟨bx,0,none⟩=some (.string f)/\w.cell? ⟨bx,1,none⟩=some (.string tx)/\w.cell? ⟨bx,2,none⟩=some (.slice ka xn xc))(I:∀x w,P 0 x w->∃w',(Instr.mapUpdate 61 (.map (some bv)) (.agg #[.int .i64 sv,.string ty,.string f,.string key]) (.agg #[.string f,.string tx,.slice ka xn xc])).run Tryz.prog w= .ok () w'/\P 1 x w')(T:∀s w',P 1 (λi=>s ([0].getD i 0)) w'->Q .normal (Cn v s [48,49,50,51,52,53,54,55,56]) w') :
  (Code.region 10 RO.toArray true).wp Tryz.prog Q v L:=by
 refine Cq (by kernel_rfl) (by kernel_rfl) [48,49,50,51,52,53,54,55,56] (by kernel_rfl) D (by kernel_rfl) (λ_=>99) (It [9] [.pointer (some ⟨bl,2,none⟩),.map (some bv),.agg #[.int .i64 sv,.string ty,.string f],.slice (some ⟨kb,ko,none⟩) nk kcap,.int .i64 (k:Int),.pointer (some ⟨kb,ko+k,none⟩),.string key,.agg #[.int .i64 sv,.string ty,.string f,.string key],.agg #[.string f,.string tx,.slice ka xn xc],undef]) (DS [9] [0] P) (DS.start (H _)) ?_ ?_
 ·intro z b C g V a J u l q c p m
  have n:=z9 J (by decide);obtain _|g:=g
  ·obtain rfl:=Ab c
   have o:=zF q N rfl;refine zr (.pointer (some ⟨bl,2,none⟩)) rfl rfl rfl rfl a ?_;simp only[execOp,BV,o];go_simp
  obtain _|g:=g
  ·obtain rfl:=Ab c
   have o:b 48= .pointer (some ⟨bl,2,none⟩):=zA l m n 0 (by simp);have y:z 9=false:=Ce (λh=>u 9 _ h rfl ⟨1,.data⟩ (by simp) rfl) p;obtain⟨W,-,-,-,-,-,-,-⟩:=r _ _ _ (CS (E:=[9]) (by simp) y) a;refine zr (.map (some bv)) rfl rfl rfl rfl a ?_;simp only[execOp,BV,o];go_simp
  obtain _|g:=g
  ·obtain rfl:=Ab c
   have o:=zF q F rfl;have y:z 9=false:=Ce (λh=>u 9 _ h rfl ⟨2,.phase⟩ (by simp) rfl) p;obtain⟨-,X,Y,Z,-,-,-,-⟩:=r _ _ _ (CS (E:=[9]) (by simp) y) a;refine zr (.agg #[.int .i64 sv,.string ty,.string f]) rfl rfl rfl rfl a ?_;simp only[execOp,BV,o];go_simp
  obtain _|g:=g
  ·obtain rfl:=Ab c
   have o:=zF q O rfl;refine zr (.slice (some ⟨kb,ko,none⟩) nk kcap) rfl rfl rfl rfl a ?_;simp only[execOp,BV,o];go_simp
  obtain _|g:=g
  ·obtain rfl:=Ab c
   have o:=zF q R rfl;refine zr (.int .i64 (k:Int)) rfl rfl rfl rfl a ?_;simp only[execOp,BV,o];go_simp
  obtain _|g:=g
  ·obtain rfl:=Ab c
   have o:b 51= .slice (some ⟨kb,ko,none⟩) nk kcap:=zA l m n 3 (by simp);have e1:b 52= .int .i64 (k:Int):=zA l m n 4 (by simp);refine zr (.pointer (some ⟨kb,ko+k,none⟩)) rfl rfl rfl rfl a ?_;simp only[execOp,BV,o,e1];go_simp
  obtain _|g:=g
  ·obtain rfl:=Ab c
   have o:b 53= .pointer (some ⟨kb,ko+k,none⟩):=zA l m n 5 (by simp);have y:z 9=false:=Ce (λh=>u 9 _ h rfl ⟨6,.phase⟩ (by simp) rfl) p;obtain⟨-,-,-,-,z4,-,-,-⟩:=r _ _ _ (CS (E:=[9]) (by simp) y) a;refine zr (.string key) rfl rfl rfl rfl a ?_;simp only[execOp,BV,o];go_simp
  obtain _|g:=g
  ·obtain rfl:=Ab c
   have o:b 50= .agg #[.int .i64 sv,.string ty,.string f]:=zA l m n 2 (by simp);have e1:b 54= .string key:=zA l m n 6 (by simp);refine zr (.agg #[.int .i64 sv,.string ty,.string f,.string key]) rfl rfl rfl rfl a ?_;simp only[execOp,BV];go_simp
  obtain _|g:=g
  ·obtain rfl:=Ab c
   have o:=zF q G rfl;have y:z 9=false:=Ce (λh=>u 9 _ h rfl ⟨8,.data⟩ (by simp) rfl) p;obtain⟨-,-,-,-,-,z5,z6,z7⟩:=r _ _ _ (CS (E:=[9]) (by simp) y) a;refine zr (.agg #[.string f,.string tx,.slice ka xn xc]) rfl rfl rfl rfl a ?_;simp only[execOp,BV,o];go_simp
  obtain _|g:=g
  ·obtain rfl:=Ab c
   have A:DR [9] z=0:=by simp[DR,p]
   have K:P 0 (λi=>b ([0].getD i 0)) C:=by
    have h:=a;unfold DS at h;rw[A]at h;exact h
   have o:b 49= .map (some bv):=zA l m n 1 (by simp);have e1:b 55= .agg #[.int .i64 sv,.string ty,.string f,.string key]:=zA l m n 7 (by simp);have e2:b 56= .agg #[.string f,.string tx,.slice ka xn xc]:=zA l m n 8 (by simp);obtain⟨w',hr,U⟩:=I _ C K;refine CV (w':=w') ?_ ⟨DS.eff (by decide) (by decide) p A U,AM,λk _ _ _ h=>h⟩;simp only[execOp,BV,o,e1,e2];go_simp
  ·exfalso
   have M:g+10<10:=(List.getElem?_eq_some_iff.1 c).1;omega
 ·intro z b C a _ B _
  have h:=a;unfold DS at h;rw[EW (λe he=>by simp at he;subst he;exact B 9 (by decide))]at h;exact T b C h
def Er (a b2:Nat) (w w':World):Prop:=CG (λk=>k=a\/k=b2) w w'
def H9 (w:World) (b:Nat):Prop := ∃a c,w.heap[b]? = some (.map a c)
theorem Er.cell{d b2:Nat}{w w':World}(h:Er d b2 w w')(h1:H9 w d)(h2:H9 w b2){p:Addr}{u:Value}(a:w.cell? p=some u):w'.cell? p=some u:=by
 refine CG.cell h a λe=>?_;rcases e with e|e
 ·obtain⟨g,c,b⟩:=h1
  rw[<-e]at b;unfold World.cell? at a;rw[b]at a;cases a
 ·obtain⟨g,c,b⟩:=h2
  rw[<-e]at b;unfold World.cell? at a;rw[b]at a;cases a
theorem Er.block{b b2:Nat}{w w':World}(h:Er b b2 w w')(h1:H9 w b)(h2:H9 w b2){k t:Nat}{d:Array Value}{g:Nat × Nat}(hk:w.heap[k]? = some (.cells d t g)):w'.heap[k]? = w.heap[k]?:=by
 refine Keep.block h k ⟨Ag hk,λe=>?_⟩;rcases e with e|e
 ·obtain⟨i,c,a⟩:=h1
  rw[<-e,hk]at a;cases a
 ·obtain⟨i,c,a⟩:=h2
  rw[<-e,hk]at a;cases a
theorem Er.row{a b2:Nat}{w w':World}(h:Er a b2 w w')(h1:H9 w a)(h2:H9 w b2){base e size n:Nat}{v:Value}{f : Nat->Value}(b:B9 w base e size v n f):B9 w' base e size v n f :=
 b.at λ_ hk=>let ⟨_,ho⟩:=b.obj hk;h.block h1 h2 ho
theorem Er.kept{b b2:Nat}{w a c:World}(h:Er b b2 w a)(hB:Below a.heap.size a c):Er b b2 w c:=CG.kept h hB
theorem Er.turned{a b2 b:Nat}{w c d:World}(h:Er a b2 w c)(e:c.mapTurned d b)(hb:b=a\/b=b2):Er a b2 w d:=CG.set_turned h e hb
theorem Er.drew{a b2:Nat}{w b:World}(h:Er a b2 w b):Er a b2 w b.drew:=h.kept (Aq _ _).drew
theorem TC(w:World)(a b c:Obj):(((w.alloc a).alloc b).alloc c).heap[w.heap.size]? = some a/\(((w.alloc a).alloc b).alloc c).heap[w.heap.size+1]? = some b/\(((w.alloc a).alloc b).alloc c).heap[w.heap.size+1+1]? = some c:=by
 refine⟨(A5 _ _ _ (by simp;omega)).trans ((A5 _ _ _ (by simp)).trans (Ap _ _)),(A5 _ _ _ (by simp)).trans ?_,?_⟩
 ·have h:=Ap (w.alloc a) b
  rw[show (w.alloc a).heap.size=w.heap.size+1 by simp]at h;exact h
 ·have h:=Ap ((w.alloc a).alloc b) c
  rw[show ((w.alloc a).alloc b).heap.size=w.heap.size+1+1 by simp]at h;exact h
theorem DC.turned{N:Nat}{w w':World}{b n bt:Nat}{v:Int->ByteArray->ByteArray->ByteArray->Option LVal}(h:DC N w b n v)(i:w.mapTurned w' bt)(hb:b≠bt):DC N w' b n v:=by
 obtain⟨d,c,a,g,h1,h2⟩:=i;exact h.at (EH ⟨d,c,a,g,h1,h2⟩ h.lt hb) λk j _ hk ho=>EH ⟨d,c,a,g,h1,h2⟩ hk λe=>by
  subst e;rw[h1]at ho;cases ho
theorem Dt.turned{w w':World}{b n bt:Nat}{c:ByteArray->Nat}(h:Dt w b n c)(a:w.mapTurned w' bt)(hb:b≠bt):Dt w' b n c:=h.at (EH a h.lt hb)
theorem Ta{w:World}{B g cap:Nat}{L:List LVal}{kv:Nat->Value}(h:B9 w B 120 3 (.slice (some ⟨g,0,none⟩) L.length cap) L.length (FA L kv)){j:Nat}(a:j<L.length):w.cell? ⟨g,j*3,none⟩=some (.string (FV L j).field)/\w.cell? ⟨g,j*3+1,none⟩=some (.string (FV L j).text)/\w.cell? ⟨g,j*3+2,none⟩=some (kv j):=by
 refine⟨?_,?_,?_⟩
 ·rw[h.cell (by omega)];unfold FA GM;rw[show (j*3) / 3=j by omega,Af (by omega)]
 ·rw[h.cell (by omega)];unfold FA GM;rw[show (j*3+1) / 3=j by omega,Ae (by omega),Af (by omega)]
 ·rw[h.cell (by omega)];unfold FA GM;rw[show (j*3+2) / 3=j by omega,Ae (by omega),Ae (by omega)]
theorem So{L:List LVal}{j:Nat}(h:j<L.length):L.take (j+1)=L.take j++[FV L j]:=by
 rw[AS h];simp[FV,List.getD,h]
theorem U4{c:Nat}(h:c<1000000):IntKind.i64.wrap ((c:Int)+1)=(c:Int)+1:=by
 have h1:(0:Int)<=(c:Int)+1:=by omega
 have h2:(c:Int)+1<9223372036854775808:=by omega
 generalize (c:Int)+1=x at *;simp[IntKind.wrap,IntKind.signed,IntKind.bits];omega
theorem TZ(N B base n1 n2:Nat)(la:Option Addr)(ln lc bh bv:Nat)(h:POwner)(ka:Option Addr)(kcap:Nat)(keys:List ByteArray)(fa va:Option Addr)(fc vc:Nat)(q:ByteArray->Bool)(g:ByteArray->List LVal)(Ls:Nat->List LVal)(c:ByteArray->Nat)(v:Int->ByteArray->ByteArray->ByteArray->Option LVal)(w:World)(p:Dt w bh n1 c)(r:DC N w bv n2 v)(al:bh≠bv)(hK:DX w ka keys)(hR:RepliesO w B base (.slice fa keys.length fc) (.slice va keys.length vc) keys.length (λj=>q (CH keys j)) Ls)(am:∀j,j<keys.length->q (CH keys j)=true->Ls j=g (CH keys j))(hNB:N<=B)(hs:(Lit.int .i64 h.svc).wf=true)(ht:BY h.type)(hc:∀l,l.length<=keys.length->∀s,DV q c l s<1000000)(h1:n1+keys.length<=1000000000)(h2:n2+keys.length*60<=1000000000)(hg:∀j,j<keys.length->q (CH keys j)=true->(g (CH keys j)).length<=60) :
  Calls Tryz.prog 48 #[.agg #[.slice la ln lc,.map (some bh),.map (some bv)],.agg #[.int .i64 h.svc,.string h.type,.string h.field],.slice ka keys.length kcap,.agg #[.slice fa keys.length fc,.slice va keys.length vc]] w λe w'=>e= .returned (.tuple #[]) /\
   Dt w' bh (n1+keys.length) (DV q c keys)/\DC N w' bv (n2+keys.length*60) (El q g h.svc h.type v keys)/\Er bh bv w w':=by
 obtain⟨an,⟨sv,ao,ap⟩,X⟩:=hR;have hn:keys.length<=9223372036854775807:=by omega
 generalize hW:((w.alloc (Obj.cells #[.slice la ln lc,.map (some bh),.map (some bv)] 63)).alloc (Obj.cells #[.int .i64 h.svc,.string h.type,.string h.field] 92)).alloc (Obj.cells #[.slice fa keys.length fc,.slice va keys.length vc] 127)=W;have n:Below w.heap.size w W:=by rw[<-hW];exact FI _ _ _ _
 obtain⟨ad,ae,af⟩:W.heap[w.heap.size]? = some (.cells #[.slice la ln lc,.map (some bh),.map (some bv)] 63 (0,0))/\W.heap[w.heap.size+1]? = some (.cells #[.int .i64 h.svc,.string h.type,.string h.field] 92 (0,0))/\W.heap[w.heap.size+1+1]? = some (.cells #[.slice fa keys.length fc,.slice va keys.length vc] 127 (0,0)):=by
  rw[<-hW];exact TC w _ _ _
 have l1:W.cell? ⟨w.heap.size,1,none⟩=some (.map (some bh)):=by simp[World.cell?,ad]
 have l2:W.cell? ⟨w.heap.size,2,none⟩=some (.map (some bv)):=by simp[World.cell?,ad]
 have o0:W.cell? ⟨w.heap.size+1,0,none⟩=some (.int .i64 h.svc):=by simp[World.cell?,ae]
 have o1:W.cell? ⟨w.heap.size+1,1,none⟩=some (.string h.type):=by simp[World.cell?,ae]
 have r0:W.cell? ⟨w.heap.size+1+1,0,none⟩=some (.slice fa keys.length fc):=by simp[World.cell?,af]
 have r1:W.cell? ⟨w.heap.size+1+1,1,none⟩=some (.slice va keys.length vc):=by simp[World.cell?,af]
 have d:Hid (H9 W bh):=(p.kept n).obj;have m:Hid (H9 W bv):=(r.kept n).obj;have HC:=Aa (p.kept n);have HM:=Aa (r.kept n);have HK:=Aa (hK.kept n);have aq:=Aa (an.kept n);have ar:=Aa (ao.kept n);have HVR:Hid (∀j,j<keys.length->∃kv,ValRowsO W B 0 (sv j) (Ls j) kv):=Aa λj hj=>let ⟨kv,hk⟩:=ap j hj;⟨kv,⟨hk.row.kept n,λi hi=>let ⟨a,b,c⟩:=hk.keys i hi;⟨a,b.kept n,c⟩,hk.good⟩⟩;have HBW:=Aa n;have HLS:=Aa am;have HCB:=Aa hc;have HG:=Aa hg;have HTK:Hid (∀k,k<keys.length->keys.take (k+1)=keys.take k++[CH keys k]):=Aa λk hk=>I2 hk;have HFW:=Aa X;clear an ao ap X p r hK n am hc ad ae af hg
 go_enter Tryz.func48,Tryz.ntmps48
 go_wp2_with fail
 clear hW;obtain⟨br,ag⟩:∃br,br=w.heap.size+1+1:=⟨_,rfl⟩;obtain⟨bo,ah⟩:∃bo,bo=w.heap.size+1:=⟨_,rfl⟩;obtain⟨bl,ai⟩:∃bl,bl=w.heap.size:=⟨_,rfl⟩;rw[<-ag]at r0 r1;rw[<-ah]at o0 o1;rw[<-ai]at l1 l2;rw[<-ag,<-ah,<-ai];clear ag ah ai r0
 go_loopw [16] (λi wr => ∃k:Nat,k<=keys.length/\i= .int .i64 k/\Er bh bv W wr/\Dt wr bh (n1+k) (DV q c (keys.take k))/\DC N wr bv (n2+k*60) (El q g h.svc h.type v (keys.take k))) (λi _=>keys.length - (intOf i).toNat)
 case atStart=>exact⟨0,Ai _,rfl,CG.refl _ _,HC.out,by rw[Nat.zero_mul];exact HM.out⟩
 case round =>
  obtain⟨k,hk,rfl,o,p,r⟩:=hrel
  by_cases F:k<keys.length
  ·have Z:(k:Int)<(keys.length:Int):=by omega
   have zzq:(0:Int)<=(k:Int):=by omega
   obtain⟨ge,fcp,hfe⟩:∃g cap,Value.slice fa keys.length fc= .slice (some ⟨g,0,none⟩) keys.length cap:=by
    rcases aq.out.shape with⟨-,h0⟩|⟨g,cap,hv,-,-,-⟩
    ·omega
    ·exact⟨g,cap,hv⟩
   cases hfe;have f0:=o.cell d.out m.out (aq.out.cell (j:=k) (by omega));obtain⟨kb,ko,rfl,kc,O⟩:=HK.out.2 k F;have kc:=o.cell d.out m.out kc;have HT:=Aa (HTK.out k F)
   cases hq:q (CH keys k) with
   |false =>
    rw[hq]at f0;have aj:Hid (Dt wr bh (n1+(k+1)) (DV q c (keys.take (k+1)))):=Aa (by
     rw[HT.out,Kk,hq];exact p.mono (by omega))
    have HM3:Hid (DC N wr bv (n2+(k+1)*60) (El q g h.svc h.type v (keys.take (k+1)))):=Aa (by
     rw[HT.out,Kd,hq];exact r.mono (by omega))
    have HW:=Aa o;clear p r o kc
    go_wp2_with fail
    go_roundw
    case rel=>exact⟨k+1,by omega,by go_num,HW.out,aj.out,HM3.out⟩
    case measure=>simp[intOf];omega
   |true =>
    rw[hq]at f0;have aj:Hid (DV q c (keys.take (k+1))=bump (DV q c (keys.take k)) (CH keys k)):=Aa (by rw[HT.out,Kk,hq];rfl);have HV1:Hid (El q g h.svc h.type v (keys.take (k+1))=IM (El q g h.svc h.type v (keys.take k)) h.svc h.type (CH keys k) (g (CH keys k))):=Aa (by rw[HT.out,Kd,hq];rfl);have hcx:DV q c (keys.take k) (CH keys k)<1000000:=HCB.out _ (by rw[Bb];omega) _;obtain⟨kv,H⟩:=HVR.out k F;have hLk:=HLS.out k F hq;have hgl:=HG.out k F hq;rw[hLk]at H;have ml1:=o.cell d.out m.out l1;have J:=o.cell d.out m.out l2;have P:=o.cell d.out m.out o0;have ak:=o.cell d.out m.out o1;have mr1:=o.cell d.out m.out r1;have hlk:=p.look O;obtain⟨w',I,hC',y⟩:=(p.at (w':=wr.drew) rfl).bump (by unfold maxLen;omega) O hcx
    go_upto_region 5 with fail
    refine Tz (λj _ u=>if j=0 then u=wr.drew else u=w') (bl:=bl) (bh:=bh) (kb:=kb) (ko:=ko) (nk:=keys.length) (kcap:=kcap) (k:=k) (c:=DV q c (keys.take k) (CH keys k)) (key:=CH keys k) (by kernel_rfl) rfl rfl rfl Z zzq (U4 hcx) (λ_=>by rfl) (λj x u hj z=>?_) (λx u z=>?_) ?_
    ·have Q:j=0:=by omega
     subst Q;have z:u=wr.drew:=z;subst z;exact⟨ml1,kc,(p.at (w':=wr.drew) rfl).look O⟩
    ·have z:u=wr.drew:=z
     subst z;exact⟨w',I,rfl⟩
    intro s w2 D;have D:w2=w':=D;subst D;simp only[Cn,Act.put,Au,AD,AE];generalize s 23=t23;generalize s 24=t24;generalize s 25=t25;generalize s 26=t26;generalize s 27=t27;generalize s 28=t28;generalize s 29=t29;generalize s 30=t30;have R:Er bh bv W w2:=o.drew.turned y (.inl rfl);have HM2':Hid (DC N w2 bv (n2+k*60) (El q g h.svc h.type v (keys.take k))):=Aa ((r.at (w':=wr.drew) rfl (λ_ _ _ _ _=>rfl)).turned y (BG al));have HC2:Hid (Dt w2 bh (n1+(k+1)) (DV q c (keys.take (k+1)))):=Aa (by rw[aj.out];exact hC');have HKC:Hid (∀u,Er bh bv W u->u.cell? ⟨kb,ko+k,none⟩=some (.string (CH keys k))):=Aa λu h1=>by
     obtain⟨kb',ko',e,kc',-⟩:=HK.out.2 k F;cases e;exact h1.cell d.out m.out kc'
    have nr1:=R.cell d.out m.out r1;obtain⟨ve,vcp,hve⟩:∃g cap,Value.slice va keys.length vc= .slice (some ⟨g,0,none⟩) keys.length cap:=by
     rcases ar.out.shape with⟨-,h0⟩|⟨g,cap,hv,-,-,-⟩
     ·omega
     ·exact⟨g,cap,hv⟩
    cases hve;have v0:=R.cell d.out m.out (ar.out.cell (j:=k) (by omega));obtain⟨xa,xc,S,hxc⟩:=H.row.slice;rw[S]at v0;obtain⟨G,hGd⟩:∃G,G=g (CH keys k):=⟨_,rfl⟩;rw[<-hGd]at H hgl HV1 v0 S hxc;have K:=H.row;rw[S]at K;have aa:=Aa K;have HVK:=Aa H;have hgl':(G.length:Int)<=60:=by omega
    have HW2:=Aa R;clear o p r R y hC' I ml1 J P ak mr1 kc hlk K H hGd S hxc f0 HT hq hLk
    go_wp2_with fail
    clear nr1 v0
    go_loopw [37] (λi wr => ∃j:Nat,j<=G.length/\i= .int .i64 j/\Er bh bv W wr/\Dt wr bh (n1+(k+1)) (DV q c (keys.take (k+1)))/\DC N wr bv (n2+k*60+j) (IM (El q g h.svc h.type v (keys.take k)) h.svc h.type (CH keys k) (G.take j))) (λi _=>G.length - (intOf i).toNat)
    case atStart=>exact⟨0,Ai _,rfl,HW2.out,HC2.out,HM2'.out⟩
    case round =>
     obtain⟨j,hj,rfl,o,p,r⟩:=hrel
     by_cases E:j<G.length
     ·have hltj':(j:Int)<(G.length:Int):=by omega
      have Q:(0:Int)<=(j:Int):=by omega
      obtain⟨ge2,gcp,hge⟩:∃g cap,Value.slice xa G.length xc= .slice (some ⟨g,0,none⟩) G.length cap:=by
       rcases aa.out.shape with⟨-,h0⟩|⟨g,cap,hv,-,-,-⟩
       ·omega
       ·exact⟨g,cap,hv⟩
      cases hge;obtain⟨x0,x1,x2⟩:=Ta (o.row d.out m.out aa.out) E;obtain⟨xk1,T,xk3⟩:=HVK.out.keys j E;obtain⟨sf,st⟩:=HVK.out.good j E;obtain⟨A,C,hkv,hAC⟩:=T.slice;rw[hkv]at x2 T;have HTJ:Hid (G.take (j+1)=G.take j++[FV G j]):=Aa (So E);generalize FV G j=x at *;have J:=o.cell d.out m.out l2;have P:=o.cell d.out m.out o0;have ak:=o.cell d.out m.out o1;have hblt:bl<wr.heap.size:=An J;have hbot:bo<wr.heap.size:=An P;obtain⟨Y,U⟩:∃Y,Y=(wr.alloc (Obj.cells #[.string x.field,.string x.text,.slice A x.nk C] 120)).alloc (Obj.cells #[.int .i64 h.svc,.string h.type,.string x.field] 92):=⟨_,rfl⟩;have L:Below wr.heap.size wr Y:=by rw[U];exact CN _ _ _
      have y0:Y.cell? ⟨wr.heap.size,0,none⟩=some (.string x.field):=by rw[U,Az _ _ _ (by simp),Ac _ _ _ _ rfl];rfl
      have y1:Y.cell? ⟨wr.heap.size,1,none⟩=some (.string x.text):=by rw[U,Az _ _ _ (by simp),Ac _ _ _ _ rfl];rfl
      have y2:Y.cell? ⟨wr.heap.size,2,none⟩=some (.slice A x.nk C):=by rw[U,Az _ _ _ (by simp),Ac _ _ _ _ rfl];rfl
      have z0:Y.cell? ⟨wr.heap.size+1,0,none⟩=some (.int .i64 h.svc):=by rw[U,Ac _ _ _ _ (by simp)];rfl
      have z1:Y.cell? ⟨wr.heap.size+1,1,none⟩=some (.string h.type):=by rw[U,Ac _ _ _ _ (by simp)];rfl
      have z2:Y.cell? ⟨wr.heap.size+1,2,none⟩=some (.string x.field):=by rw[U,Ac _ _ _ _ (by simp)];rfl
      have V:=(o.kept L).drew;have ab:ValIs N Y.drew (Qa x A C) x:=⟨⟨A,C,rfl,(V.row d.out m.out T).lower hNB⟩,xk1,xk3⟩;have hMY:DC N Y.drew bv (n2+k*60+j) (IM (El q g h.svc h.type v (keys.take k)) h.svc h.type (CH keys k) (G.take j)):=(r.kept L).kept (Aq _ _).drew;obtain⟨w',I,hM',y⟩:=hMY.store (by unfold maxLen;omega) hs ht sf O ab;have M:Hid (Er bh bv W w'/\Dt w' bh (n1+(k+1)) (DV q c (keys.take (k+1)))/\DC N w' bv (n2+k*60+(j+1)) (IM (El q g h.svc h.type v (keys.take k)) h.svc h.type (CH keys k) (G.take (j+1)))):=⟨V.turned y (.inr rfl),((p.kept L).at (w':=Y.drew) rfl).turned y al,by rw[HTJ.out,RI];exact hM'⟩;have kcY:=HKC.out _ V;have ac:Y.drew.cell? ⟨bl,2,none⟩=some (.map (some bv)):=BR L J;unfold Qa at I;clear o p r hMY hM' y ab xk1 T xk3 hkv L V
      go_upto_region 10 with fail
      rw[<-U];refine Ut (λj _ u=>if j=0 then u=Y.drew else u=w') (bl:=bl) (bv:=bv) (bo:=wr.heap.size+1) (bx:=wr.heap.size) (kb:=kb) (ko:=ko) (nk:=keys.length) (kcap:=kcap) (k:=k) (xn:=x.nk) (xc:=C) (ka:=A) (sv:=h.svc) (ty:=h.type) (f:=x.field) (tx:=x.text) (key:=CH keys k) (by kernel_rfl) rfl rfl rfl rfl rfl Z zzq (λ_=>by rfl) (λj x u hj z=>?_) (λx u z=>?_) ?_
      ·have Q:j=0:=by omega
       subst Q;have z:u=Y.drew:=z;subst z;exact⟨ac,z0,z1,z2,kcY,y0,y1,y2⟩
      ·have z:u=Y.drew:=z
       subst z;exact⟨w',I,rfl⟩
      intro s w2' D;have D:w2'=w':=D;subst D;clear I y0 y1 y2 z0 z1 z2 kcY ac U x0 x1 x2 J P ak;simp only[Cn,Act.put,Au,AD,AE];generalize s 48=t48;generalize s 49=t49;generalize s 50=t50;generalize s 51=t51;generalize s 52=t52;generalize s 53=t53;generalize s 54=t54;generalize s 55=t55;generalize s 56=t56
      go_wp2_with fail
      go_roundw
      case rel=>exact⟨j+1,by omega,by go_num,M.out.1,M.out.2.1,M.out.2.2⟩
      case measure=>simp[intOf];omega
     ·have hjn:j=G.length:=by omega
      have HR:Hid (Er bh bv W wr/\Dt wr bh (n1+(k+1)) (DV q c (keys.take (k+1)))/\DC N wr bv (n2+(k+1)*60) (El q g h.svc h.type v (keys.take (k+1)))):=by
       rw[HV1.out];refine⟨o,p,?_⟩;rw[hjn,Br]at r;exact r.mono (by omega)
      clear o p r
      go_wp2_with fail
      go_roundw
      case rel=>exact⟨k+1,by omega,by go_num,HR.out.1,HR.out.2.1,HR.out.2.2⟩
      case measure=>simp[intOf];omega
  ·have hkn:k=keys.length:=by omega
   have HR:Hid (Dt wr bh (n1+keys.length) (DV q c keys)/\DC N wr bv (n2+keys.length*60) (El q g h.svc h.type v keys)/\Er bh bv w wr):=by
    rw[hkn,Br]at p r;refine⟨p,r,?_⟩;exact CG.trans (CG.of HBW.out) o (λ_ _ h=>h)
   clear o p r
   go_wp2_with fail
   exact bodyPost_end (v:=.tuple #[]) (by simp[results,Tryz.results48,go_sem]) rfl ⟨rfl,HR.out⟩
end Go.Proofs.YtjjggefmmeminabGreat
