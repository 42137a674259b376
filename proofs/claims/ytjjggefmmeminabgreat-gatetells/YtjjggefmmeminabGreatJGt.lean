import Derived.Test.YtjjggefmmeminabGreatGrMem
set_option maxRecDepth 100000
set_option maxHeartbeats 2000000
namespace Go.Proofs.YtjjggefmmeminabGreat
open Go.RowKit Go.Sort Go.PlainAid
theorem JR{α β:Type}(f:α->Option β)(l:List α)(x:α):(l++[x]).filterMap f=l.filterMap f++(f x).toList:=by
 rw[List.filterMap_append];cases h:f x<;>simp[h]
theorem Rs{K:Nat->ByteArray}{n k:Nat}(h:k<n):((List.range n).map K).take (k+1)=((List.range n).map K).take k++[K k]:=by
 rw[<-List.map_take,<-List.map_take,List.take_range,List.take_range,show min (k+1) n=k+1 by omega,show min k n=k by omega,AA,AH];rfl
theorem Mw(d N:Nat)(l:LV)(U:List ByteArray)(ka:Option Addr)(nk kcap:Nat)(K:Nat->ByteArray)(f:ByteArray->Option (List (DH d)))(w:World)(hK:CF w ka nk K)(hn:nk<=20)(hG:0<nk->EP N w l d U f)(H:∀j,j<nk->K j∈U) :
  Calls Tryz.prog 80 #[.agg #[.slice l.a l.n l.c,.map l.h,.map l.v],.slice ka nk kcap] w λe w'=>(∃v sv,e= .returned v/\SRow w.heap.size w' v (((List.range nk).map K).filterMap f) sv)/\Below w.heap.size w w':=by
 obtain⟨i0,V,X,Y,Z⟩:=Cd Tryz.info26;generalize I:w.alloc (Obj.cells #[.slice l.a l.n l.c,.map l.h,.map l.v] 63)=W;have s:Below w.heap.size w W:=by rw[<-I];exact BW _ _
 have l0:W.cell? ⟨w.heap.size,0,none⟩=some (.slice l.a l.n l.c):=by rw[<-I,Ac _ _ _ _ rfl];rfl
 have l1:W.cell? ⟨w.heap.size,1,none⟩=some (.map l.h):=by rw[<-I,Ac _ _ _ _ rfl];rfl
 have l2:W.cell? ⟨w.heap.size,2,none⟩=some (.map l.v):=by rw[<-I,Ac _ _ _ _ rfl];rfl
 have HF:Hid (0<nk->EP N W l d U f):=λh=>(hG h).step (Later.of s);have HK:=Aa (hK.kept s);have HS0:=Aa H;have C:=Aa s;clear hK hG H s;obtain⟨bl,x⟩:∃bl,bl=w.heap.size:=⟨_,rfl⟩
 go_enter Tryz.func80,Tryz.ntmps80
 go_wp2_with fail
 clear I;rw[<-x]at l0 l1 l2;rw[<-x];have HBL:=Aa x;clear x
 go_loopw [5,12] (λv i wr => ∃k:Nat,k<=nk/\i= .int .i64 k/\Below W.heap.size W wr/\∃sv,SRow W.heap.size wr v ((((List.range nk).map K).take k).filterMap f) sv) (λ_ i _=>nk - (intOf i).toNat)
 case atStart=>exact⟨0,Ai _,rfl,Aq _ _,λ_=>undef,SRow.nil _ _ _ _⟩
 case round =>
  obtain⟨k,hk,rfl,r,sv,hS⟩:=hrel;obtain⟨S,g⟩:∃S,S=(((List.range nk).map K).take k).filterMap f:=⟨_,rfl⟩;rw[<-g]at hS;obtain⟨va,vc,rfl,hvc⟩:=hS.slice
  by_cases D:k<nk
  ·obtain⟨b,o,rfl,c0,J⟩:=(HK.out.kept r).2 k D
   have hlt':(k:Int)<(nk:Int):=by omega
   have hk0:(0:Int)<=(k:Int):=by omega
   have hSl:S.length<=k:=by
    rw[g];refine Am (List.length_filterMap_le _ _) ?_;simp;omega
   have T:Hid ((((List.range nk).map K).take (k+1)).filterMap f=S++(f (K k)).toList):=Aa (by rw[Rs D,JR,<-g]);have M:=HF.out (by omega) wr (Later.of r) (K k) J (HS0.out k D);have m0:=BR r l0;have m1:=BR r l1;have m2:=BR r l2;have G:=Aa hS;clear hS g J
   go_wp2_with fail
   refine M.mono ?_;clear M;rintro e y ⟨m,h⟩;have p:Below W.heap.size W y:=r.trans (m.mono r.size);clear m0 m1 m2;rcases h with⟨hf,rfl⟩|⟨L,a,c,hf,rfl,hc,A⟩
   ·have HS1:Hid (SRow W.heap.size y (.slice va S.length vc) ((((List.range nk).map K).take (k+1)).filterMap f) sv):=by
     rw[T.out,hf,Option.toList_none,Bm];exact G.out.kept m
    have z:=Aa p;clear m p hf G T c0
    go_wp2_with fail
    go_roundw
    case rel=>exact⟨k+1,by omega,by go_num,z.out,sv,HS1.out⟩
    case measure=>simp[intOf];omega
   ·have HT1:Hid ((((List.range nk).map K).take (k+1)).filterMap f=S++[L]):=by rw[T.out,hf];rfl
    have HR:=Aa ((G.out.kept m).kept (BW y (Obj.cells #[.slice a L.length c] 26)));have O:=Aa (A.free.kept (BW y (Obj.cells #[.slice a L.length c] 26)));have z:Hid (Below W.heap.size W (y.alloc (Obj.cells #[.slice a L.length c] 26))):=p.trans ((BW y _).mono p.size);have P:=Aa HR.out.row;have Q:W.heap.size<=(y.alloc (Obj.cells #[.slice a L.length c] 26)).heap.size:=z.out.size;have hNw:W.heap.size<=wr.heap.size:=r.size;have E:Hid (∀q,(Value.slice va S.length vc).ownBlock=some q->q<wr.heap.size/\W.heap.size<=q):=λq hq=>⟨(G.out.row.lt hq).2,(G.out.row.lt hq).1⟩;clear m p hf G T c0 A
    go_wp2_with (at_builtin;refine Ck _ rfl _ _ 54 rfl W.heap.size 26 i0 _ 1 24 Tryz.underlying54 V X Y Z rfl (by decide) _ S.length _ rfl P.out (some ⟨y.heap.size,0,none⟩) 1 1 [.slice a L.length c] rfl rfl (CI y #[.slice a L.length c] _) (λh=>by cases h) (by intro u hu;simp at hu;subst hu;rfl) (by unfold maxLen;omega) (by omega) Q ?_)
    intro v' w4 B F R;have HS4:Hid (SRow W.heap.size w4 v' ((((List.range nk).map K).take (k+1)).filterMap f) (λi=>if i=S.length then .slice a L.length c else sv i)):=by
     rw[HT1.out];exact HR.out.app hc O.out hNw (λq hq=>(E.out q hq).1) (by rw[Bk];exact B) F (by simpa using R)
    have HW4:Hid (Below W.heap.size W w4):=z.out.grown F Q (λq hq=>(E.out q hq).2);clear B F R P HR O E
    go_wp2_with fail
    go_roundw
    case rel=>exact⟨k+1,by omega,by go_num,HW4.out,_,HS4.out⟩
    case measure=>simp[intOf];omega
  ·have hkn:k=nk:=by omega
   have HF:Hid (SRow w.heap.size wr (.slice va S.length vc) (((List.range nk).map K).filterMap f) sv):=by
    have e2:(((List.range nk).map K).take k).filterMap f=((List.range nk).map K).filterMap f:=by rw[List.take_of_length_le (by simp;omega)]
    rw[<-e2,<-g];exact hS.base C.out.size
   have HW:Hid (Below w.heap.size w wr):=C.out.trans (r.mono C.out.size);clear hS r g
   go_wp2_with fail
   go_ret;exact⟨⟨_,sv,rfl,HF.out⟩,HW.out⟩
def Ps {d:Nat} (nm:ByteArray) (kd:Int) (a:Option LVal) (f:ByteArray->Option (List (DH d))):DH (d+1):=match a with
 |none=>EN nm kd true ⟨#[]⟩ [] []
 |some x=>if kd=1 then EN nm kd false x.text [] [] else NM nm kd ((D3 x).filterMap f)
theorem ID{w:World}{b:Nat}{c0 c1 c2 c3 c4 c5:Value}:OnlyB b w ((((((w.setCell ⟨b,0,none⟩ c0).setCell ⟨b,1,none⟩ c1).setCell ⟨b,2,none⟩ c2).setCell ⟨b,3,none⟩ c3).setCell ⟨b,4,none⟩ c4).setCell ⟨b,5,none⟩ c5):=((((((OnlyB.refl _ _).set _ _).set _ _).set _ _).set _ _).set _ _).set _ _
theorem Uy(w:World)(a b c:Obj):(((w.alloc a).alloc b).alloc c).heap[w.heap.size]? = some a/\(((w.alloc a).alloc b).alloc c).heap[w.heap.size+1]? = some b/\(((w.alloc a).alloc b).alloc c).heap[w.heap.size+1+1]? = some c:=by
 refine⟨(A5 _ _ _ (by simp;omega)).trans ((A5 _ _ _ (by simp)).trans (Ap _ _)),(A5 _ _ _ (by simp)).trans ?_,?_⟩
 ·have h:=Ap (w.alloc a) b
  rw[show (w.alloc a).heap.size=w.heap.size+1 by simp]at h;exact h
 ·have h:=Ap ((w.alloc a).alloc b) c
  rw[show ((w.alloc a).alloc b).heap.size=w.heap.size+1+1 by simp]at h;exact h
def Uh (w:World) (b:Nat) (nm:ByteArray) (kd:Int):Prop:=w.heap[b]? = some (.cells #[.string nm,.int .i64 kd,.bool false,.string ⟨#[]⟩,.slice none 0 0,.slice none 0 0] 56 (0,0))
theorem TG(d N:Nat)(la:Option Addr)(ln lc bv m:Nat)(lh:Option Nat)(nm:ByteArray)(pa:Option Addr)(pn pc:Nat)(fl:LField)(o:POwner)(nx:LV)(key:ByteArray)(S:List ByteArray)(f:ByteArray->Option (List (DH d)))(v:Int->ByteArray->ByteArray->ByteArray->Option LVal)(w:World)(hM:DC N w bv m v)(hs:(Lit.int .i64 o.svc).wf=true)(ht:BY o.type)(hf:BY o.field)(hk:BY key)(hkd:fl.kind=1\/fl.kind=2\/fl.kind=3)(hx:∀x,v o.svc o.type o.field key=some x->x.nk<=20/\(fl.kind≠1->0<x.nk->EP N w nx d S f)/\∀j,j<x.nk->x.K j∈S) :
  Calls Tryz.prog 52 #[.agg #[.slice la ln lc,.map lh,.map (some bv)],.agg #[.string nm,.slice pa pn pc,.string fl.name,.int .i64 fl.kind,.string fl.type,.int .i64 o.svc,.string o.type,.string o.field,.slice nx.a nx.n nx.c,.map nx.h,.map nx.v],.string key] w λe w'=>Below w.heap.size w w' /\
   ∃A C A2 C2,e= .returned (JL (Ps nm fl.kind (v o.svc o.type o.field key) f) A C A2 C2)/\GotV (λk=>k<w.heap.size) w' (Ps nm fl.kind (v o.svc o.type o.field key) f) A C A2 C2:=by
 generalize hW:((w.alloc (Obj.cells #[.slice la ln lc,.map lh,.map (some bv)] 63)).alloc (Obj.cells #[.string nm,.slice pa pn pc,.string fl.name,.int .i64 fl.kind,.string fl.type,.int .i64 o.svc,.string o.type,.string o.field,.slice nx.a nx.n nx.c,.map nx.h,.map nx.v] 131)).alloc (Obj.cells #[.string ⟨#[]⟩,.int .i64 0,.bool false,.string ⟨#[]⟩,.slice none 0 0,.slice none 0 0] 56)=W;have hBW:Below w.heap.size w W:=by rw[<-hW];exact FI _ _ _ _
 have hWs:W.heap.size=w.heap.size+1+1+1:=by rw[<-hW];simp
 obtain⟨hb0,z,hb2⟩:W.heap[w.heap.size]? = some (.cells #[.slice la ln lc,.map lh,.map (some bv)] 63 (0,0))/\W.heap[w.heap.size+1]? = some (.cells #[.string nm,.slice pa pn pc,.string fl.name,.int .i64 fl.kind,.string fl.type,.int .i64 o.svc,.string o.type,.string o.field,.slice nx.a nx.n nx.c,.map nx.h,.map nx.v] 131 (0,0))/\W.heap[w.heap.size+1+1]? = some (.cells #[.string ⟨#[]⟩,.int .i64 0,.bool false,.string ⟨#[]⟩,.slice none 0 0,.slice none 0 0] 56 (0,0)):=by
  rw[<-hW];exact Uy w _ _ _
 obtain⟨G,p⟩:∃G,G=W.alloc (Obj.cells #[.string nm,.int .i64 fl.kind,.bool false,.string ⟨#[]⟩,.slice none 0 0,.slice none 0 0] 56):=⟨_,rfl⟩;have s:Below W.heap.size W G:=by rw[p];exact BW _ _
 have hg1:Uh G W.heap.size nm fl.kind:=by rw[p];exact Ap _ _
 have hWs1:G.heap.size=W.heap.size+1:=by rw[p];simp
 have c0:W.cell? ⟨w.heap.size+1,0,none⟩=some (.string nm):=by simp[World.cell?,z]
 have c3:W.cell? ⟨w.heap.size+1,3,none⟩=some (.int .i64 fl.kind):=by simp[World.cell?,z]
 have e2:G.cell? ⟨w.heap.size,2,none⟩=some (.map (some bv)):=BR s (by simp[World.cell?,hb0]);have e3:G.cell? ⟨w.heap.size+1,3,none⟩=some (.int .i64 fl.kind):=BR s c3;have e5:G.cell? ⟨w.heap.size+1,5,none⟩=some (.int .i64 o.svc):=BR s (by simp[World.cell?,z]);have e6:G.cell? ⟨w.heap.size+1,6,none⟩=some (.string o.type):=BR s (by simp[World.cell?,z]);have e7:G.cell? ⟨w.heap.size+1,7,none⟩=some (.string o.field):=BR s (by simp[World.cell?,z]);have e8:G.cell? ⟨w.heap.size+1,8,none⟩=some (.slice nx.a nx.n nx.c):=BR s (by simp[World.cell?,z]);have e9:G.cell? ⟨w.heap.size+1,9,none⟩=some (.map nx.h):=BR s (by simp[World.cell?,z]);have e10:G.cell? ⟨w.heap.size+1,10,none⟩=some (.map nx.v):=BR s (by simp[World.cell?,z]);have T:Below w.heap.size w G:=hBW.trans (s.mono hBW.size);have hML:=(hM.kept T).look_ok hs ht hf hk;have HX:=Aa hx;have H:=Aa T;have M:=Aa hBW;have B:=Aa hb2;have U:=Aa hg1;have HS:=Aa (And.intro hWs hWs1);have HE8:=Aa e8;have HE9:=Aa e9;have P:=Aa e10;clear hM hx hBW T hb0 z hb2 s hg1 hWs hWs1 e8 e9 e10;rcases hML with⟨hv,D,-⟩|⟨x,A,C,hv,hC,hKs,D,-⟩
 ·rw[hv]
  unfold Fz at D;obtain⟨q,l⟩:∃q,q=(W.alloc (Obj.cells #[.string nm,.int .i64 fl.kind,.bool true,.string ⟨#[]⟩,.slice none 0 0,.slice none 0 0] 56)).alloc (Obj.cells #[.string ⟨#[]⟩,.string ⟨#[]⟩,.slice none 0 0] 120):=⟨_,rfl⟩;have i:Below W.heap.size W q:=by rw[l];exact CN _ _ _
  obtain⟨⟨Y,Z,x2,x3,x4,x5⟩,y0,y1,y2,y3,y4,y5⟩:=Gb ((i.block _ (Ag B.out)).trans B.out) rfl;have b:Hid (∀c0 c1 c2 c3 c4 c5:Value,Below w.heap.size w ((((((q.setCell ⟨w.heap.size+1+1,0,none⟩ c0).setCell ⟨w.heap.size+1+1,1,none⟩ c1).setCell ⟨w.heap.size+1+1,2,none⟩ c2).setCell ⟨w.heap.size+1+1,3,none⟩ c3).setCell ⟨w.heap.size+1+1,4,none⟩ c4).setCell ⟨w.heap.size+1+1,5,none⟩ c5)):=Aa λc0 c1 c2 c3 c4 c5 =>
   (M.out.trans (i.mono M.out.size)).trans (ID.below (by omega))
  clear i HX M H B U HS HE8 HE9 P hv;rw[l]at Y Z x2 x3 x4 x5 y0 y1 y2 y3 y4 y5 b;clear l;rw[p]at e2 e3 e5 e6 e7 D;clear p
  go_enter Tryz.func52,Tryz.ntmps52
  go_wp2_with fail
  exact At (v:=JL (EN (d:=d) nm fl.kind true ⟨#[]⟩ [] []) none 0 none 0) (by simp[results,Tryz.results52,go_sem,JL,Y,Z,x2,x3,x4,x5];exact⟨rfl,rfl,rfl,rfl,rfl,rfl⟩) rfl ⟨b.out _ _ _ _ _ _,none,0,none,0,rfl,⟨Aj _,Aj _,Fi,Fg⟩⟩
 ·rw[hv]
  obtain⟨I,hxT,hxS⟩:=HX.out x hv;unfold Qa at D
  by_cases k1:fl.kind=1
  ·have hk1:(fl.kind==1)=true:=by rw[k1];rfl
   have eg:Ps (d:=d) nm fl.kind (some x) f=EN nm fl.kind false x.text [] []:=Af k1;rw[eg];obtain⟨q,l⟩:∃q,q=(W.alloc (Obj.cells #[.string nm,.int .i64 fl.kind,.bool false,.string x.text,.slice none 0 0,.slice none 0 0] 56)).alloc (Obj.cells #[.string x.field,.string x.text,.slice A x.nk C] 120):=⟨_,rfl⟩;have i:Below W.heap.size W q:=by rw[l];exact CN _ _ _
   obtain⟨⟨Y,Z,x2,x3,x4,x5⟩,y0,y1,y2,y3,y4,y5⟩:=Gb ((i.block _ (Ag B.out)).trans B.out) rfl;have f3:((W.alloc (Obj.cells #[.string nm,.int .i64 fl.kind,.bool false,.string ⟨#[]⟩,.slice none 0 0,.slice none 0 0] 56)).alloc (Obj.cells #[.string x.field,.string x.text,.slice A x.nk C] 120)).cell? ⟨w.heap.size+1,3,none⟩=some (.int .i64 fl.kind):=BR (CN W _ _) c3;have b:Hid (∀c0 c1 c2 c3 c4 c5:Value,Below w.heap.size w ((((((q.setCell ⟨w.heap.size+1+1,0,none⟩ c0).setCell ⟨w.heap.size+1+1,1,none⟩ c1).setCell ⟨w.heap.size+1+1,2,none⟩ c2).setCell ⟨w.heap.size+1+1,3,none⟩ c3).setCell ⟨w.heap.size+1+1,4,none⟩ c4).setCell ⟨w.heap.size+1+1,5,none⟩ c5)):=Aa λc0 c1 c2 c3 c4 c5 =>
    (M.out.trans (i.mono M.out.size)).trans (ID.below (by omega))
   clear i HX M H B U HS HE8 HE9 P hv hkd hxT hxS hKs hC k1 eg;rw[l]at Y Z x2 x3 x4 x5 y0 y1 y2 y3 y4 y5 b;clear l;rw[p]at e2 e3 e5 e6 e7 D;clear p
   go_enter Tryz.func52,Tryz.ntmps52
   go_wp2_with fail
   exact At (v:=JL (EN (d:=d) nm fl.kind false x.text [] []) none 0 none 0) (by simp[results,Tryz.results52,go_sem,JL,Y,Z,x2,x3,x4,x5];exact⟨rfl,rfl,rfl,rfl,rfl,rfl⟩) rfl ⟨b.out _ _ _ _ _ _,none,0,none,0,rfl,⟨Aj _,Aj _,Fi,Fg⟩⟩
  have hk1:(fl.kind==1)=false:=by rw[Bc];exact k1
  obtain⟨q,l⟩:∃q,q=G.alloc (Obj.cells #[.string x.field,.string x.text,.slice A x.nk C] 120):=⟨_,rfl⟩;have i:Below G.heap.size G q:=by rw[l];exact BW _ _
  have V:Below w.heap.size w q:=H.out.trans (i.mono H.out.size);have J:=Mw d N nx S A x.nk C x.K f q (hKs.kept i) I (λh0=>(hxT k1 h0).step (Later.of V)) hxS;have f3:=BR i e3;have f8:=BR i HE8.out;have f9:=BR i HE9.out;have R:=BR i P.out;have L:Hid (Uh q W.heap.size nm fl.kind):=(i.block _ (Ag U.out)).trans U.out;have HR3:=Aa (((BW W (Obj.cells #[.string nm,.int .i64 fl.kind,.bool false,.string ⟨#[]⟩,.slice none 0 0,.slice none 0 0] 56)).block _ (Ag B.out)).trans B.out);rw[<-p]at HR3;have O:=Aa ((i.block _ (Ag HR3.out)).trans HR3.out);have E:=Aa V;have hlt:w.heap.size+1+1<W.heap.size:=by have:=HS.out.1;omega
  have HN:Hid (w.heap.size<=W.heap.size/\W.heap.size<q.heap.size):=⟨by omega,Ag L.out⟩;clear i V hKs hC hxT hxS HX HE8 HE9 P B HR3 U M H HS hv
  by_cases k3:fl.kind=3
  ·have hk3:(fl.kind==3)=true:=by rw[k3];rfl
   have F:Hid (Ps (d:=d) nm fl.kind (some x) f=EN nm fl.kind false ⟨#[]⟩ [] ((D3 x).filterMap f)):=Aa (by
    show (if fl.kind=1 then _ else NM nm fl.kind ((D3 x).filterMap f))=_
    rw[Ae k1];unfold NM;rw[Ae (by omega)])
   clear hkd k1 k3;rw[l]at J f3 f8 f9 R;rw[p]at J f3 f8 f9 R e2 e3 e5 e6 e7 D
   go_enter Tryz.func52,Tryz.ntmps52
   go_wp2_with fail
   refine J.mono ?_;clear J f3 f8 f9 R e2 e3 e5 e6 e7 D;rw[<-p,<-l];rintro e w2 ⟨⟨v',sv,rfl,hS⟩,r⟩;have hl:((D3 x).filterMap f).length<=20:=by
    refine Am (List.length_filterMap_le _ _) ?_;unfold D3;simp;exact I
   obtain⟨A2,C2,rfl,hc,X⟩:=hS.out (by unfold maxLen;show ((D3 x).filterMap f).length<=_;omega);obtain⟨⟨g0,g1,g2,g3,g4,g5⟩,z0,z1,z2,z3,z4,z5⟩:=Gb ((r.block _ (Ag L.out)).trans L.out) rfl;obtain⟨⟨Y,Z,x2,x3,x4,x5⟩,y0,y1,y2,y3,y4,y5⟩:=Gb ((r.block _ (Ag O.out)).trans O.out) rfl;have hne:W.heap.size≠w.heap.size+1+1:=by omega
   have hne':w.heap.size+1+1≠W.heap.size:=by omega
   have b:Hid (∀u c0 c1 c2 c3 c4 c5:Value,Below w.heap.size w (((((((w2.setCell ⟨W.heap.size,5,none⟩ u).setCell ⟨w.heap.size+1+1,0,none⟩ c0).setCell ⟨w.heap.size+1+1,1,none⟩ c1).setCell ⟨w.heap.size+1+1,2,none⟩ c2).setCell ⟨w.heap.size+1+1,3,none⟩ c3).setCell ⟨w.heap.size+1+1,4,none⟩ c4).setCell ⟨w.heap.size+1+1,5,none⟩ c5)/\GotV (λk=>k<w.heap.size) (((((((w2.setCell ⟨W.heap.size,5,none⟩ u).setCell ⟨w.heap.size+1+1,0,none⟩ c0).setCell ⟨w.heap.size+1+1,1,none⟩ c1).setCell ⟨w.heap.size+1+1,2,none⟩ c2).setCell ⟨w.heap.size+1+1,3,none⟩ c3).setCell ⟨w.heap.size+1+1,4,none⟩ c4).setCell ⟨w.heap.size+1+1,5,none⟩ c5) (EN (d:=d) nm fl.kind false ⟨#[]⟩ [] ((D3 x).filterMap f)) none 0 A2 C2):=Aa λu c0 c1 c2 c3 c4 c5 =>
    ⟨((E.out.trans (r.mono E.out.size)).trans (((OnlyB.refl W.heap.size w2).set 5 u).below (by omega))).trans (ID.below (by omega)),⟨Aj _,hc,Fi,(X.step (by simp) (λk _ hk=>Al _ _ _ _ (by have : ¬k<q.heap.size:=hk;have:=HN.out;show k≠W.heap.size;omega)) (λ_ _ hk=>hk)).step (by rw[ID.size];exact Aj _) (λk _ hk=>ID.block k (λe=>by have : ¬k<q.heap.size:=hk;have:=HN.out;omega)) (λk _ hk=>by show k<q.heap.size;have:k<w.heap.size:=hk;have:=HN.out;omega)⟩⟩
   clear hS r X hc hl L O E HN I p l;have hle:((D3 x).filterMap f).length=(((List.range x.nk).map x.K).filterMap f).length:=rfl;generalize (((List.range x.nk).map x.K).filterMap f).length=mm at *
   go_wp2_with fail
   exact At (v:=JL (EN (d:=d) nm fl.kind false ⟨#[]⟩ [] ((D3 x).filterMap f)) none 0 A2 C2) (by simp[results,Tryz.results52,go_sem,JL,Y,Z,x2,x3,x4,x5];exact⟨rfl,rfl,rfl,rfl,rfl,by rw[<-hle];rfl⟩) rfl ⟨(b.out _ _ _ _ _ _ _).1,none,0,A2,C2,by rw[F.out],by rw[F.out];exact(b.out _ _ _ _ _ _ _).2⟩
  ·have hk3:(fl.kind==3)=false:=by rw[Bc];exact k3
   have k2:fl.kind=2:=by omega
   have hk2:(fl.kind==2)=true:=by rw[k2];rfl
   have F:Hid (Ps (d:=d) nm fl.kind (some x) f=EN nm fl.kind ((D3 x).filterMap f).isEmpty ⟨#[]⟩ (((D3 x).filterMap f).headD []) []):=Aa (by
    show (if fl.kind=1 then _ else NM nm fl.kind ((D3 x).filterMap f))=_
    rw[Ae k1];unfold NM;rw[Af k2])
   clear hkd k1 k3 k2;rw[l]at J f3 f8 f9 R;rw[p]at J f3 f8 f9 R e2 e3 e5 e6 e7 D
   go_enter Tryz.func52,Tryz.ntmps52
   go_wp2_with fail
   refine J.mono ?_;clear J f3 f8 f9 R e2 e3 e5 e6 e7 D;rw[<-p,<-l];rintro e w2 ⟨⟨v',sv,rfl,hS⟩,r⟩;have HE:Hid ((D3 x).filterMap f=((List.range x.nk).map x.K).filterMap f):=Aa rfl;generalize ((List.range x.nk).map x.K).filterMap f=Q at *;obtain⟨⟨g0,g1,g2,g3,g4,g5⟩,z0,z1,z2,z3,z4,z5⟩:=Gb ((r.block _ (Ag L.out)).trans L.out) rfl;obtain⟨⟨Y,Z,x2,x3,x4,x5⟩,y0,y1,y2,y3,y4,y5⟩:=Gb ((r.block _ (Ag O.out)).trans O.out) rfl;have hne:W.heap.size≠w.heap.size+1+1:=by omega
   have hne':w.heap.size+1+1≠W.heap.size:=by omega
   by_cases h0:0<Q.length
   ·obtain⟨g,cap,A2,C2,rfl,d0,hc,X⟩:=hS.first h0
    have hh:Q.headD []=FG Q 0:=by
     cases Q with
     |nil=>simp at h0
     |cons y S=>rfl
    have he:Q.isEmpty=false:=by
     cases Q with
     |nil=>simp at h0
     |cons y S=>rfl
    have hpos:(0:Int)<(Q.length:Int):=by omega
    rw[HE.out,hh,he]at F;have b:Hid (∀u c0 c1 c2 c3 c4 c5:Value,Below w.heap.size w (((((((w2.setCell ⟨W.heap.size,4,none⟩ u).setCell ⟨w.heap.size+1+1,0,none⟩ c0).setCell ⟨w.heap.size+1+1,1,none⟩ c1).setCell ⟨w.heap.size+1+1,2,none⟩ c2).setCell ⟨w.heap.size+1+1,3,none⟩ c3).setCell ⟨w.heap.size+1+1,4,none⟩ c4).setCell ⟨w.heap.size+1+1,5,none⟩ c5)/\GotV (λk=>k<w.heap.size) (((((((w2.setCell ⟨W.heap.size,4,none⟩ u).setCell ⟨w.heap.size+1+1,0,none⟩ c0).setCell ⟨w.heap.size+1+1,1,none⟩ c1).setCell ⟨w.heap.size+1+1,2,none⟩ c2).setCell ⟨w.heap.size+1+1,3,none⟩ c3).setCell ⟨w.heap.size+1+1,4,none⟩ c4).setCell ⟨w.heap.size+1+1,5,none⟩ c5) (EN (d:=d) nm fl.kind false ⟨#[]⟩ (FG Q 0) []) A2 C2 none 0):=Aa λu c0 c1 c2 c3 c4 c5 =>
     ⟨((E.out.trans (r.mono E.out.size)).trans (((OnlyB.refl W.heap.size w2).set 4 u).below (by omega))).trans (ID.below (by omega)),⟨hc,Aj _,(X.step (by simp) (λk _ hk=>Al _ _ _ _ (by have : ¬k<q.heap.size:=hk;have:=HN.out;show k≠W.heap.size;omega)) (λ_ _ hk=>hk)).step (by rw[ID.size];exact Aj _) (λk _ hk=>ID.block k (λe=>by have : ¬k<q.heap.size:=hk;have:=HN.out;omega)) (λk _ hk=>by show k<q.heap.size;have:k<w.heap.size:=hk;have:=HN.out;omega),Fg⟩⟩
    clear hS r X hc L O E HN I p l hh he HE h0;have hle:(Fr (EN (d:=d) nm fl.kind false ⟨#[]⟩ (FG Q 0) [])).length=(FG Q 0).length:=rfl;generalize (FG Q 0).length=mm at *;generalize Q.length=m2 at *
    go_wp2_with fail
    exact At (v:=JL (EN (d:=d) nm fl.kind false ⟨#[]⟩ (FG Q 0) []) A2 C2 none 0) (by simp[results,Tryz.results52,go_sem,JL,Y,Z,x2,x3,x4,x5];exact⟨rfl,rfl,rfl,rfl,by rw[hle],rfl⟩) rfl ⟨(b.out _ _ _ _ _ _ _).1,A2,C2,none,0,by rw[F.out],by rw[F.out];exact(b.out _ _ _ _ _ _ _).2⟩
   ·have hS0:Q = []:=AC (by omega)
    subst hS0;obtain⟨va,vc,rfl,-⟩:=hS.slice;rw[HE.out]at F;have b:Hid (∀u c0 c1 c2 c3 c4 c5:Value,Below w.heap.size w (((((((w2.setCell ⟨W.heap.size,2,none⟩ u).setCell ⟨w.heap.size+1+1,0,none⟩ c0).setCell ⟨w.heap.size+1+1,1,none⟩ c1).setCell ⟨w.heap.size+1+1,2,none⟩ c2).setCell ⟨w.heap.size+1+1,3,none⟩ c3).setCell ⟨w.heap.size+1+1,4,none⟩ c4).setCell ⟨w.heap.size+1+1,5,none⟩ c5)):=Aa λu c0 c1 c2 c3 c4 c5 =>
     ((E.out.trans (r.mono E.out.size)).trans (((OnlyB.refl W.heap.size w2).set 2 u).below (by omega))).trans (ID.below (by omega))
    clear hS r L O E HN I p l HE h0
    go_wp2_with fail
    exact At (v:=JL (EN (d:=d) nm fl.kind true ⟨#[]⟩ [] []) none 0 none 0) (by simp[results,Tryz.results52,go_sem,JL,Y,Z,x2,x3,x4,x5];exact⟨rfl,rfl,rfl,rfl,rfl,rfl⟩) rfl ⟨b.out _ _ _ _ _ _ _,none,0,none,0,by rw[F.out];rfl,by rw[F.out];exact⟨Aj _,Aj _,Fi,Fg⟩⟩
structure ChOk (N:Nat) (w:World) (d:Nat) (fl:LField) (o:POwner) (nx:LV) (v:Int->ByteArray->ByteArray->ByteArray->Option LVal) (key nm:ByteArray) (g:DH (d+1)):Prop where
 svc:(Lit.int .i64 o.svc).wf=true
 type:BY o.type
 field:BY o.field
 kind:fl.kind=1\/fl.kind=2\/fl.kind=3
 ex:∃S f,(∀x,v o.svc o.type o.field key=some x->x.nk<=20/\(fl.kind≠1->0<x.nk->EP N w nx d S f)/\∀j,j<x.nk->x.K j∈S)/\Ps nm fl.kind (v o.svc o.type o.field key) f=g
theorem ChOk.later{N:Nat}{w w':World}{d:Nat}{fl:LField}{o:POwner}{nx:LV}{v:Int->ByteArray->ByteArray->ByteArray->Option LVal}{key nm:ByteArray}{g:DH (d+1)}(h:ChOk N w d fl o nx v key nm g)(e:Later N w w'):ChOk N w' d fl o nx v key nm g :=
 ⟨h.svc,h.type,h.field,h.kind,let ⟨S,f,h1,h2⟩:=h.ex;⟨S,f,λx hx=>let ⟨a,b,c⟩:=h1 x hx;⟨a,λk1 i=>(b k1 i).step e,c⟩,h2⟩⟩
theorem Re{α β:Type}(f:α->β)(l:List α)(k:Nat)(h:k<l.length):(l.map f).take (k+1)=(l.map f).take k++[f l[k]]:=by
 rw[AS (by simpa using h),List.getElem_map]
theorem S6(d N base m m2:Nat)(p:PPart)(ps:List (Cg (d+1)))(V:Nat->LServ)(L:List PPart)(la:Option Addr)(lc bh bv:Nat)(pv:Nat->Value)(nx:Nat->LV)(c:ByteArray->Nat)(v:Int->ByteArray->ByteArray->ByteArray->Option LVal)(key:ByteArray)(w:World)(hR:B9 w base 131 11 (.slice la ps.length lc) ps.length (CU p ps pv nx))(hpv:∀i,i<ps.length->∃a n c,pv i= .slice a n c)(hC:Dt w bh m c)(hM:DC N w bv m2 v)(hks:BY key)(hc:c key=0↔DY V p key=false)(hps:ps.length<=60)(j:∀i,i<ps.length->ChOk N w d (EQ p (BT (BS ps i))) (Dd p (BT (BS ps i))) (nx i) v key (B8 (BS ps i)) (Ki V L (D9 V L d) p key (BS ps i))) :
  Calls Tryz.prog 23 #[.agg #[.slice la ps.length lc,.map (some bh),.map (some bv)],.string key] w λe w'=>Below w.heap.size w w'/\Qv w.heap.size (d+1) (if DY V p key=true then some (D9 V L (d+1) p key ps) else none) e w':=by
 obtain⟨i0,hi0,hz0,hz1,hz2⟩:=Cd Tryz.info56;obtain⟨r,hr⟩:∃r,r=if DY V p key=true then some (D9 V L (d+1) p key ps) else none:=⟨_,rfl⟩
 rw[<-hr];obtain⟨G,hG⟩:∃G,G=D9 V L (d+1) p key ps:=⟨_,rfl⟩;rw[<-hG]at hr;have P:Hid (G.length=ps.length):=Aa (by rw[hG,NW]);have HGT:Hid (∀k,k<ps.length->G.take (k+1)=G.take k++[Ki V L (D9 V L d) p key (BS ps k)]):=Aa λk hk=>by rw[hG,Jj,Re _ _ _ hk,CL hk]
 clear hG;generalize hW:w.alloc (Obj.cells #[.slice la ps.length lc,.map (some bh),.map (some bv)] 63)=W;have l:Below w.heap.size w W:=by rw[<-hW];exact BW _ _
 have l0:W.cell? ⟨w.heap.size,0,none⟩=some (.slice la ps.length lc):=by rw[<-hW,Ac _ _ _ _ rfl];rfl
 have l1:W.cell? ⟨w.heap.size,1,none⟩=some (.map (some bh)):=by rw[<-hW,Ac _ _ _ _ rfl];rfl
 have l2:W.cell? ⟨w.heap.size,2,none⟩=some (.map (some bv)):=by rw[<-hW,Ac _ _ _ _ rfl];rfl
 have hlk:=(hC.kept l).look hks;have HR:=Aa (hR.kept l);have HM:=Aa (hM.kept l);have HCH:Hid (∀i,i<ps.length->ChOk N W d (EQ p (BT (BS ps i))) (Dd p (BT (BS ps i))) (nx i) v key (B8 (BS ps i)) (Ki V L (D9 V L d) p key (BS ps i))):=λi hi=>(j i hi).later (Later.of l);have HPV:=Aa hpv;have D:=Aa l;have hpl:(ps.length:Int)<=60:=by omega
 clear hR hC hM j hpv l
 cases Q:DY V p key with
 |false =>
  have E:c key=0:=hc.2 Q;have R:Hid (r=none):=Aa (by rw[hr,Q];rfl);rw[E]at hlk;clear hc hr Q HR HM HCH HPV P HGT E
  go_enter Tryz.func23,Tryz.ntmps23
  go_wp2_with fail
  exact At (v:=.tuple #[.slice none 0 0,.bool false]) (by simp[results,Tryz.results23,go_sem]) rfl ⟨D.out,.inl ⟨R.out,rfl⟩⟩
 |true =>
  have E:c key≠0:=λh=>by rw[hc.1 h]at Q;cases Q
  have R:Hid (r=some G):=Aa (by rw[hr,Q];rfl);have hcb:(((c key:Nat):Int)==0)=false:=by rw[Bc];omega
  clear hc hr Q
  go_enter Tryz.func23,Tryz.ntmps23
  go_wp2_with fail
  clear hW;obtain⟨bl,F⟩:∃bl,bl=w.heap.size:=⟨_,rfl⟩;rw[<-F]at l0 l1 l2;rw[<-F];have HBL:=Aa F;clear F hlk hcb E
  go_loopw [6,17] (λv i wr => ∃k:Nat,k<=ps.length/\i= .int .i64 k/\Below W.heap.size W wr/\∃av sv,GRow W.heap.size wr v (G.take k) av sv) (λ_ i _=>ps.length - (intOf i).toNat)
  case atStart=>exact⟨0,Ai _,rfl,Aq _ _,λ_=>undef,λ_=>undef,GRow.nil _ _ _ _ _⟩
  case round =>
   obtain⟨k,hk,rfl,B,av,sv,hS⟩:=hrel;obtain⟨S,s⟩:∃S,S=G.take k:=⟨_,rfl⟩;rw[<-s]at hS;obtain⟨va,vc,rfl,hvc⟩:=hS.slice
   by_cases H:k<ps.length
   ·have y:=HR.out.kept B
    obtain⟨ge,cp,hea⟩:∃g cap,Value.slice la ps.length lc= .slice (some ⟨g,0,none⟩) ps.length cap:=by
     rcases y.shape with⟨-,h0⟩|⟨g,cap,hv,-,-,-⟩
     ·omega
     ·exact⟨g,cap,hv⟩
    cases hea;obtain⟨c0,c1,c2,c3,c4,c5,c6,c7,c8,c9,c10⟩:=J3 y H;obtain⟨pa,pn,pc,hpk⟩:=HPV.out k H;rw[hpk]at c1;have j:=(HCH.out k H).later (Later.of B);obtain⟨S1,f1,hx,hgx⟩:=j.ex;have m0:=BR B l0;have m1:=BR B l1;have m2':=BR B l2;have hblt:bl<wr.heap.size:=An m0;have hlt':(k:Int)<(ps.length:Int):=by omega
    have hk0:(0:Int)<=(k:Int):=by omega
    have hSl:S.length<=k:=by rw[s,Bb];omega
    have HT:Hid (G.take (k+1)=S++[Ki V L (D9 V L d) p key (BS ps k)]):=Aa (by rw[HGT.out k H,<-s]);generalize Ki V L (D9 V L d) p key (BS ps k)=gg at *;generalize EQ p (BT (BS ps k))=fl at *;generalize Dd p (BT (BS ps k))=o at *;generalize B8 (BS ps k)=nm at *;generalize nx k=nk at *;obtain⟨X,hX⟩:∃X,X=wr.alloc (Obj.cells #[.string nm,.slice pa pn pc,.string fl.name,.int .i64 fl.kind,.string fl.type,.int .i64 o.svc,.string o.type,.string o.field,.slice nk.a nk.n nk.c,.map nk.h,.map nk.v] 131):=⟨_,rfl⟩;have z:Below wr.heap.size wr X:=by rw[hX];exact BW _ _
    have I:=TG d N (some ⟨ge,0,none⟩) ps.length lc bv m2 (some bh) nm pa pn pc fl o nk key S1 f1 v X ((HM.out.kept B).kept z) j.svc j.type j.field hks j.kind (λx hv=>let ⟨a,b,e⟩:=hx x hv;⟨a,λk1 k2=>(b k1 k2).step (Later.of z),e⟩);rw[hgx]at I;have HS:=Aa (hS.kept z);have J:Hid (Below W.heap.size W X):=B.trans (z.mono B.size);rw[hX]at I;clear hS s hx hgx j y z hpk
    go_wp2_with fail
    refine I.mono ?_;clear I;rw[<-hX];rintro e M ⟨T,A,C,A2,C2,rfl,hgv⟩;have U:Below W.heap.size W M:=J.out.trans (T.mono J.out.size);have K:=Aa ((HS.out.kept T).kept (BW M (Obj.cells (GS gg A C A2 C2) 56)));have Y:=Aa (hgv.kept (BW M (Obj.cells (GS gg A C A2 C2) 56)));have Z:Hid (Below W.heap.size W (M.alloc (Obj.cells (GS gg A C A2 C2) 56))):=U.trans ((BW M _).mono U.size);have aa:=Aa K.out.row;have ab:W.heap.size<=(M.alloc (Obj.cells (GS gg A C A2 C2) 56)).heap.size:=Z.out.size;have ac:Hid (∀q,(Value.slice va S.length vc).ownBlock=some q->q<X.heap.size/\W.heap.size<=q):=λq hq=>⟨(HS.out.row.lt hq).2,(HS.out.row.lt hq).1⟩;have hNX:W.heap.size<=X.heap.size:=J.out.size;clear T U hgv HS J c0 c1 c2 c3 c4 c5 c6 c7 c8 c9 c10 m0 m1 m2' hX;unfold JL;unfold GS at K Y Z aa ab
    go_wp2_with (at_builtin;refine Ck _ rfl _ _ 26 rfl W.heap.size 56 i0 _ 6 96 Tryz.underlying26 hi0 hz0 hz1 hz2 rfl (by decide) _ S.length _ rfl aa.out (some ⟨M.heap.size,0,none⟩) 1 1 (Nf gg (.slice A (Fr gg).length C) (.slice A2 (DN gg).length C2)) rfl rfl (CI M _ _) (λh=>by cases h) (by intro u hu;simp[Nf]at hu;rcases hu with rfl|rfl|rfl|rfl|rfl|rfl<;>rfl) (by unfold maxLen;omega) (by omega) ab ?_)
    intro v' w5 O ad hvb;have HS5:Hid (∃av' sv',GRow W.heap.size w5 v' (G.take (k+1)) av' sv'):=by
     rw[HT.out];exact⟨_,_,K.out.app Y.out hNX (λq hq=>(ac.out q hq).1) O ad (by simpa using hvb)⟩
    have HW5:Hid (Below W.heap.size W w5):=Z.out.grown ad ab (λq hq=>(ac.out q hq).2);clear O ad hvb aa K Y ac
    go_wp2_with fail
    go_roundw
    case rel=>exact⟨k+1,by omega,by go_num,HW5.out,HS5.out⟩
    case measure=>simp[intOf];omega
   ·have hkn:k=ps.length:=by omega
    have HF:Hid (∃L' a c,r=some L'/\Value.slice va S.length vc= .slice a L'.length c/\L'.length<=c/\Ev w.heap.size (d+1) wr a c L'):=by
     have e1:S=G:=by rw[s,List.take_of_length_le (by rw[P.out];omega)]
     subst e1;exact⟨S,va,vc,R.out,rfl,hvc,by rw[P.out];unfold maxLen;omega,av,sv,hS.base D.out.size⟩
    have HW:Hid (Below w.heap.size w wr):=D.out.trans (B.mono D.out.size);clear hS B s
    go_wp2_with fail
    obtain⟨L',a,c,q1,q2,q3,q4⟩:=HF.out;exact At (v:=.tuple #[.slice va S.length vc,.bool true]) (by simp[results,Tryz.results23,go_sem]) rfl ⟨HW.out,.inr ⟨L',a,c,q1,by rw[q2],q3,q4⟩⟩
end Go.Proofs.YtjjggefmmeminabGreat
