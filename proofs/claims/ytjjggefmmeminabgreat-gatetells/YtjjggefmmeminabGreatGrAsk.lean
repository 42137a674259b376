import Derived.Test.YtjjggefmmeminabGreatGrAsk0
set_option maxRecDepth 100000
set_option maxHeartbeats 8000000
namespace Go.Proofs.YtjjggefmmeminabGreat
open Go.RowKit Go.Sort Go.PlainAid
theorem Tryz.e63:∀args w,(callFunc 63 args).run Tryz.prog w= .ok (.enter 63 args) w:=AN Tryz.func63 (by kernel_rfl) rfl
theorem PI(a n1 c1 n2 c2 b c3:Nat)(c d g:Option Addr)(name s:ByteArray)(w:World)(h:w.cell? ⟨a,0,none⟩=some (.string name)) :
  Calls Tryz.prog 63 #[.agg #[.string s,.slice c n1 c1,.slice d n2 c2,.slice g b c3],.pointer (some ⟨a,0,none⟩)] w λe w'=>e= .returned (.bool (eqs s name))/\Below w.heap.size w w':=by
 have i:a<w.heap.size:=An h
 go_enter Tryz.func63,Tryz.ntmps63
 go_wp2
 go_ret;exact⟨by rw[<-CT];rfl,BW _ _⟩
theorem P8(Z:Nat->Prop)(r:Nat)(v:Value)(L:List PPart)(z:Nat->Nat->Value)(name:ByteArray)(w:World)(p:Parts Z w v L z)(A:w.cell? ⟨r,0,none⟩=some (.string name)) :
  Calls Tryz.prog 62 #[v,.func (.func 63) #[] #[.pointer (some ⟨r,0,none⟩)]] w λe w'=>e= .returned (.int .i64 (Fd L name))/\Below w.heap.size w w':=by
 have hn:L.length<=9223372036854775807:=p.nmax;obtain⟨a,cap,rfl,u⟩:=p.slice;have B:=Aa p;have K:=Tryz.e63;clear p
 go_enter Tryz.func62,Tryz.ntmps62
 go_wp2_with fail
 go_loopw [8] (λi wr => ∃k:Nat,k<=L.length/\i= .int .i64 k/\Hid (∀j,j<k->eqs (Ci L j).name name=false)/\Below w.heap.size w wr) (λi _=>L.length - (intOf i).toNat)
 case atStart=>exact⟨0,Ai _,rfl,(λj q=>absurd q (Ak _)),Aq _ _⟩
 case round =>
  obtain⟨k,hk,rfl,hb,d⟩:=hrel
  by_cases l:k<L.length
  ·obtain⟨g,x,C,c1,D,c2,E,c3,hv,-,-,-,F,k1,G,H⟩:=(B.out.kept' d).aggs l
   cases hv;have y:(k:Int)<(L.length:Int):=by omega
   have I:(0:Int)<=(k:Int):=by omega
   have m:=PI r (Ci L k).fs.length c1 (Ci L k).os.length c2 (Ci L k).hs.length c3 C D E name (Ci L k).name wr (BR d A)
   go_wp2_with fail
   refine m.mono ?_;clear m;rintro e J ⟨rfl,n⟩;have o:Below w.heap.size w J:=d.trans (n.mono d.size);clear n F k1 G H
   cases c:eqs (Ci L k).name name with
   |true =>
    have b:Hid (Fd L name=(k:Int)):=DD l c hb;clear c
    go_wp2_with fail
    go_ret;exact⟨by rw[b.out];rfl,o⟩
   |false =>
    have s:Hid (∀j,j<k+1->eqs (Ci L j).name name=false):=λj q=>by
     rcases Nat.lt_succ_iff_lt_or_eq.1 q with h|h
     ·exact hb j h
     ·rw[h];exact c
    clear c
    go_wp2_with fail
    go_roundw
    case rel=>exact⟨k+1,by omega,by go_num,s,o⟩
    case measure=>simp[intOf];omega
  ·have b:Hid (Fd L name = -1):=Em (λj q=>hb j (by omega))
   go_wp2_with fail
   go_ret;exact⟨by rw[b.out];rfl,d⟩
theorem Q5(Z:Nat->Prop)(v:Value)(L:List PPart)(g:Nat->Nat->Value)(name:ByteArray)(w:World)(c:Parts Z w v L g) :
  Calls Tryz.prog 34 #[v,.string name] w λe w'=>e= .returned (.int .i64 (Fd L name))/\Below w.heap.size w w':=by
 have i:=zm;have j:=Aa c;obtain⟨a,cap,rfl,h⟩:=c.slice;clear c
 go_enter Tryz.func34,Tryz.ntmps34
 go_wp2_with fail
 have hB:=BW w (Obj.cells #[Value.string name] 9);refine(P8 Z w.heap.size _ L g name _ (j.out.kept' hB) ?_).mono ?_
 ·rw[Ac _ _ _ _ rfl];rfl
 ·rintro e k ⟨rfl,b⟩
  have d:=hB.trans (b.mono hB.size);clear b hB
  go_wp2_with fail
  go_ret;exact⟨rfl,d⟩
structure AskEnv (N0 bg:Nat) (w0:World) (la:Option Addr) (n cap:Nat) (pv:Value) (V:Nat->LServ) (L:List PPart):Prop where
 size:w0.heap.size=N0
 bg:N0<=bg
 servs:Dc w0 la n V
 parts:∃Z rv,Parts Z w0 pv L rv
 light:∀i,i<n->Jd (Hs (V i))
 part:∀nm,¬Ca L.length (DI L) nm<0->GPart n V (Du L nm)
 kinds:∀q,q∈L->∀j,j<q.fs.length->(De q j).kind=1\/(De q j).kind=2\/(De q j).kind=3
def GZ (V:Nat->LServ) (L:List PPart) (d:Nat) (p:PPart) (ps:List (Cg d)) (key:ByteArray):Option (List (DH d)):=if DY V p key=true then some (D9 V L d p key ps) else none
def QA (N0 bg:Nat) (g:World) (la:Option Addr) (n cap:Nat) (pa:Option Addr) (pn pc:Nat) (V:Nat->LServ) (L:List PPart) (d:Nat):Prop := ∀(type:ByteArray) (keys:List ByteArray) (ka:Option Addr) (kcap:Nat) (a:Option Addr) (b:Nat) (ps:List (Cg d)) (R:List PReq) (w:World),Below N0 g w->GateAt N0 bg (.slice la n cap) (.slice pa pn pc) w R ->
 Df w 0 (.slice ka keys.length kcap) keys->(∀x,x∈keys->BY x)->keys.Nodup->keys≠[]->keys.length<=1200->CB g d a ps->ps≠[]->Sm d ps->¬Ca L.length (DI L) type<0->cR L.length (DI L) d (Du L type).fs.length (De (Du L type)) [] ps=0->R.length+(DA V L d (Du L type) keys ps).length<=1000 ->
 Calls Tryz.prog 22 #[.pointer (some ⟨bg,0,none⟩),.string type,.slice ka keys.length kcap,.slice a ps.length b] w λe w' => ∃l:LV,e= .returned (.agg #[.slice l.a l.n l.c,.map l.h,.map l.v])/\GateAt N0 bg (.slice la n cap) (.slice pa pn pc) w' (R++DA V L d (Du L type) keys ps)/\KeepQ N0 bg w w'/\EP w.heap.size w' l d keys (GZ V L d (Du L type) ps)
theorem Th(N0 bg:Nat)(d:World)(la:Option Addr)(n cap:Nat)(pa:Option Addr)(pn pc:Nat)(V:Nat->LServ)(L:List PPart):QA N0 bg d la n cap pa pn pc V L 0:=by
 intro type keys ka kcap a c ps R w _ _ _ _ _ _ _ _ b;exact absurd (MN ps) b
def UJ (W:World) (i:Nat) (c:Array Value) (j:Nat) (x:Nat->Value) (o:Option Nat) (a:World):Prop:=Below W.heap.size W a/\(1<=j->x 0= .int .i64 (i:Int))/\(2<=j->o≠none)/\∀b,o=some b->W.heap.size<=b/\a.heap[b]? = some (.cells (if 2<=j then c else #[.string ⟨#[]⟩,.slice none 0 0,.slice none 0 0,.slice none 0 0]) 99 (0,0))
theorem Q1{α β:Type}{f : α->List β}{l:List α}{k:Nat}(h:k<l.length):(l.take (k+1)).flatMap f=(l.take k).flatMap f++f l[k]:=by
 rw[AS h,Bf];simp
theorem TJ{α β:Type}(f:α->List β)(l:List α)(k:Nat):((l.take k).flatMap f).length<=(l.flatMap f).length:=by
 have:(l.flatMap f).length=((l.take k).flatMap f).length+((l.drop k).flatMap f).length:=by
  rw[<-Ay,<-Bf,List.take_append_drop]
 omega
theorem SI{p:PPart}{k:Nat}(h:k<p.hs.length):p.hs[k]=Eg p k:=by simp[Eg,List.getD,h]
theorem Gl{α β:Type}(q:α->Bool)(f:α->β):∀l:List α,l.filterMap (λx=>if q x=true then some (f x) else none)=(l.filter q).map f
 | []=>rfl
 | x :: l=>by
  cases h:q x
  ·rw[List.filterMap_cons_none (by simp[h]),Bo (by simp[h]),Gl q f l]
  ·rw[List.filterMap_cons_some (b:=f x) (by simp[h]),Bp h,AG,Gl q f l]
theorem EP.mono{N a:Nat}{w:World}{l:LV}{d:Nat}{S:List ByteArray}{f : ByteArray->Option (List (DH d))}(h:EP a w l d S f)(b:N<=a):EP N w l d S f:=λc h1=>h c (h1.mono b)
theorem KQ.later{N0 N:Nat}{X:Nat->Prop}{w w':World}(h:KQ N0 X w w')(a:∀k,X k->k<N):Later N w w':=⟨h.size,λk b hk hq=>h.block k hk (λhx=>by have:=a k hx;omega) (.inr hq)⟩
def Kf (N bg cb:Nat) (V:Nat->LServ) (L:List PPart) (d:Nat) (p:PPart) (ps:List (Cg (d+1))) (keys:List ByteArray) (w:World) (l:LV) (j:Nat):Prop:=(EQ p (BT (BS ps j))).kind≠1->CR V (Dd p (BT (BS ps j))) keys≠[]->∃a,N<=a/\cb<a/\bg<a/\EP a w l d (CR V (Dd p (BT (BS ps j))) keys) (GZ V L d (Du L (EQ p (BT (BS ps j))).type) (subs (BS ps j)))
theorem Kf.step{N N0 bg cb:Nat}{V:Nat->LServ}{L:List PPart}{d:Nat}{p:PPart}{ps:List (Cg (d+1))}{keys:List ByteArray}{w w':World}{l:LV}{j:Nat}(h:Kf N bg cb V L d p ps keys w l j)(hk:KQ N0 (λq=>q=bg\/q=cb) w w'):Kf N bg cb V L d p ps keys w' l j:=λh1 h2=>by
 obtain⟨e,a,b,c,t⟩:=h h1 h2;exact⟨e,a,b,c,t.step (hk.later λq hq=>by rcases hq with rfl|rfl<;>assumption)⟩
theorem JG{cb o:Nat}{w:World}{l:LV}{k:Nat}(hk:k≠cb):(F6 cb o w l).heap[k]? = w.heap[k]?:=by
 unfold F6;rw[Al _ _ _ _ (by exact hk),Al _ _ _ _ (by exact hk),Al _ _ _ _ (by exact hk)]
theorem P0{cb o:Nat}{w:World}{l:LV}:(F6 cb o w l).heap.size=w.heap.size:=by unfold F6;simp
theorem Oq{N0 cb o:Nat}{X:Nat->Prop}{w:World}{l:LV}(a:X cb):KQ N0 X w (F6 cb o w l):=⟨rfl,rfl,rfl,by rw[P0];exact Aj _,λk _ hx _=>JG λe=>hx (by rw[e];exact a)⟩
theorem Q3{d base n cap cb k:Nat}{p:PPart}{ps:List (Cg (d+1))}{pv:Nat->Value}{nx:Nat->LV}{w:World}{l:LV}(h:B9 w base 131 11 (.slice (some ⟨cb,0,none⟩) n cap) n (CU p ps pv nx)):B9 (F6 cb (k*11) w l) base 131 11 (.slice (some ⟨cb,0,none⟩) n cap) n (CU p ps pv (λj=>if j=k then l else nx j)):=by
 have h1:=((h.set (k*11+8) (.slice l.a l.n l.c)).set (k*11+9) (.map l.h)).set (k*11+10) (.map l.v);refine h1.congr λj _=>?_;unfold CU
 by_cases e:j / 11=k
 ·have b:j=k*11+j % 11:=by omega
  have i:j % 11<11:=Nat.mod_lt _ (by omega);generalize j % 11=q at *;have hq:q=0\/q=1\/q=2\/q=3\/q=4\/q=5\/q=6\/q=7\/q=8\/q=9\/q=10:=by omega
  rw[e];rcases hq with rfl|rfl|rfl|rfl|rfl|rfl|rfl|rfl|rfl|rfl|rfl<;>simp[b]
 ·have n1:j≠k*11+10:=by omega
  have n2:j≠k*11+9:=by omega
  have g:j≠k*11+8:=by omega
  simp only[n1,n2,g,e,Bd]
theorem SY(N0 bg:Nat)(w0:World)(la:Option Addr)(n cap:Nat)(pa:Option Addr)(pn pc:Nat)(V:Nat->LServ)(L:List PPart)(hE:AskEnv N0 bg w0 la n cap (.slice pa pn pc) V L)(d:Nat)(ih:QA N0 bg w0 la n cap pa pn pc V L d):QA N0 bg w0 la n cap pa pn pc V L (d+1):=by
 intro type keys ka kcap a acap ps R w hw0 hGt hK hKs hKd hK0 hKl hP hps0 hSm hpi hcR hlen;have hGP:=hE.part type hpi;have hKp:=hE.kinds (Du L type) (TU hpi);obtain⟨i,hi⟩:∃i:Nat,Fd L type=(i:Int):=⟨(Fd L type).toNat,by have : ¬Fd L type<0:=hpi;omega⟩;have hil:i<L.length:=by
  have h1:=(E4 (p:=λj=>eqs (Ci L j).name type) hpi).1;have h2:Ds L.length (λj=>eqs (Ci L j).name type)=(i:Int):=hi;rw[h2]at h1;simpa using h1
 have hpO:Du L type=Ci L i:=by
  unfold Du;rw[show Ds L.length (λi=>eqs (Ci L i).name type)=(i:Int) from hi,Ax]
 obtain⟨Z,rv,aa⟩:=hE.parts;obtain⟨g,cap',a1,c1,a2,c2,a3,c3,hpv,-,-,-,hpt⟩:=aa.pt hil;cases hpv;have hps:ps.length<=60:=hSm.1;have hAF:Lw (Du L type) ps:=λk hk=>by
  obtain⟨j,M,rfl⟩:=Bl hk;have:=(IW hcR M).1;rw[CL M]at this;exact this
 have hAR:∀j,j<ps.length->Rz L d (EQ (Du L type) (BT (BS ps j))) (subs (BS ps j)):=λj M=>(IW hcR M).2;rw[hpO]at hGP hKp hcR hlen hAF hAR ⊢;generalize hpd:Ci L i=p at *;have hN0:N0<=w.heap.size:=by have:=hw0.size;have:=hE.size;omega
 have hNb:=hE.bg;have hfind:∀B,Below N0 w0 B->Calls Tryz.prog 34 #[.slice (some ⟨g,0,none⟩) L.length pc,.string type] B λe w'=>e= .returned (.int .i64 (i:Int))/\Below B.heap.size B w':=λB ab=>by
  have:=Q5 Z _ L rv type B (aa.kept' (by rw[hE.size];exact ab));rw[hi]at this;exact this
 have hpt1:∀B,Below N0 w0 B->PtAt B g (i*4) p a1 a2 a3 c1 c2 c3:=λB ab=>hpt.kept (by rw[hE.size];exact ab);have hsv1:∀B,Below N0 w0 B->Dc B la n V:=λB ab=>hE.servs.kept (by rw[hE.size];exact ab);obtain⟨pv,hsub,hpc⟩:=Rp hP;have hpc1:∀B,Below N0 w0 B->∀i,i<ps.length->∃b o A C,a=some ⟨b,o,none⟩/\pv i= .slice A (subs (BS ps i)).length C/\B.cell? ⟨b,o+i*3,none⟩=some (.string (Di (BS ps i)))/\B.cell? ⟨b,o+i*3+1,none⟩=some (.string (BT (BS ps i)))/\B.cell? ⟨b,o+i*3+2,none⟩=some (.slice A (subs (BS ps i)).length C):=λB ab i hi=>by
  obtain⟨b,o,A,C,e1,e2,q0,q1,q2⟩:=hpc i hi;have ab:Below w0.heap.size w0 B:=by rw[hE.size];exact ab
  exact⟨b,o,A,C,e1,e2,BR ab q0,BR ab q1,BR ab q2⟩
 have hpvs:∀i,i<ps.length->∃a n c,pv i= .slice a n c:=λi hi=>let ⟨A,C,e,_⟩:=hsub i hi;⟨A,_,C,e⟩;have hi1:(i:Int)<(L.length:Int):=by omega
 have hi0:(0:Int)<=(i:Int):=by omega
 have hLmax:L.length<=9223372036854775807:=aa.nmax;rw[I8]at hlen ⊢;have hos:=hGP.r.os;have HFind:=Aa hfind;have HPt:=Aa hpt1;have HSv:=Aa hsv1;have HPc:=Aa hpc1;have HE:=Aa hE;have HIH:=Aa ih;have HGt:=Aa hGt;have HK:=Aa hK;have HKs:=Aa hKs;have HKd:=Aa hKd;have HW0:=Aa hw0;have HSub:=Aa hsub;have HAF:=Aa hAF;have HAR:=Aa hAR;have HGP:=Aa hGP;have HKp:=Aa hKp;have HSm:=Aa hSm;have HLen:=Aa hlen;have HPV:=Aa hpvs;have HOS:=Aa hos;clear hfind hpt1 hsv1 hpc1 hE ih hGt hK hKs hKd hw0 hsub hAF hAR hGP hKp hSm hlen hpvs hos hP hpc hpt aa hcR hpO hpd hi hpi;generalize hW:w.alloc (Obj.cells #[.slice none 0 0,.map none,.map none] 63)=W;have hBW:Below w.heap.size w W:=by rw[<-hW];exact BW _ _
 have hres:W.heap[w.heap.size]? = some (.cells #[.slice none 0 0,.map none,.map none] 63 (0,0)):=by rw[<-hW];exact Ap _ _
 have HBW:=Aa hBW;have HRes:=Aa hres;have hWs:w.heap.size<W.heap.size:=Ag hres;have H0W:Hid (Below N0 w0 W):=HW0.out.trans (hBW.mono hN0);have hgW:W.cell? ⟨bg,1,none⟩=some (.slice (some ⟨g,0,none⟩) L.length pc):=by
  obtain⟨rv9,kv9,fv9,O,-⟩:=HGt.out.kept hBW;simp[World.cell?,O]
 clear hBW hres
 go_enter Tryz.func22,Tryz.ntmps22
 go_upto_region 1 with fail
 clear hW;refine TA (UJ W i #[.string p.name,.slice a1 p.fs.length c1,.slice a2 p.os.length c2,.slice a3 p.hs.length c3]) (bg:=bg) (pb:=g) (pn:=L.length) (pc:=pc) (fn:=p.fs.length) (fc:=c1) (on:=p.os.length) (oc:=c2) (hn:=p.hs.length) (hc:=c3) (i:=i) (fa:=a1) (oa:=a2) (ha:=a3) (ty:=type) (nm:=p.name) (by kernel_rfl) rfl rfl hi0 hi1 ?_ ?_ ?_ ?_ ?_ ?_ ?_
 ·rintro j x o B M ⟨-,h1,-⟩
  exact h1 M
 ·intro x
  exact⟨(Aq _ _).drew,λh=>absurd h (by omega),λh=>absurd h (by omega),λb hb=>by cases hb⟩
 ·rintro j x o B - ⟨hB,-⟩
  have hq:=HPt.out B (H0W.out.trans (hB.mono (by omega)));exact⟨BR hB hgW,hq.c0,hq.c1,hq.c2,hq.c3⟩
 ·rintro x o B ⟨hB,-,-,hb⟩
  refine(HFind.out B (H0W.out.trans (hB.mono (by omega)))).mono ?_;rintro e w2 ⟨rfl,hB2⟩;refine⟨_,rfl,λx' e1 e2=>⟨hB.trans (hB2.mono hB.size),λ_=>e1,λh=>absurd h (by omega),λb hb'=>?_⟩⟩;obtain⟨q1,q2⟩:=hb b hb';exact⟨q1,(hB2.block _ (Ag q2)).trans q2⟩
 ·rintro x b B ⟨hB,h1,-,hb⟩
  obtain⟨q1,q2⟩:=hb b rfl;rw[Ae (by omega)]at q2;have g0:=Ao _ b 0 _ 99 (.string p.name) q2;have g1:=Ao _ b 1 _ 99 (.slice a1 p.fs.length c1) g0;have g2:=Ao _ b 2 _ 99 (.slice a2 p.os.length c2) g1;have g3:=Ao _ b 3 _ 99 (.slice a3 p.hs.length c3) g2;refine⟨q2,hB.trans ⟨rfl,rfl,rfl,by simp,λk hk=>?_⟩,λ_=>h1 (by omega),(λ_ h=>by cases h),λb' hb'=>?_⟩
  ·rw[Al _ _ _ _ (by show k≠b;omega),Al _ _ _ _ (by show k≠b;omega),Al _ _ _ _ (by show k≠b;omega),Al _ _ _ _ (by show k≠b;omega)]
  ·cases hb'
   refine⟨q1,?_⟩;rw[g3,Af (by omega)];rfl
 ·rintro j x B ⟨hB,h1,h2,-⟩
  refine⟨hB.trans ((BW B _).mono hB.size),h1,λM=>absurd rfl (h2 M),λb hb=>?_⟩;cases hb;rw[Ae (λM=>absurd rfl (h2 M))];exact⟨hB.size,Ap _ _⟩
 intro s bt w2 hs9 hp;obtain⟨hB2,-,-,hb⟩:=hp;obtain⟨hbt,hbx⟩:=hb bt rfl;rw[Af (by omega)]at hbx;clear hb;simp only[Cn,Act.put,Au,AD,AE,hs9];clear hs9;generalize s 16=t16;generalize s 17=t17;generalize s 18=t18;generalize s 19=t19;generalize s 20=t20;generalize s 21=t21;generalize s 22=t22;generalize s 23=t23;generalize s 24=t24;generalize s 25=t25;generalize s 26=t26;generalize s 27=t27;have H02:Hid (Below N0 w0 w2):=H0W.out.trans (hB2.mono (by omega));have hq2:=HPt.out w2 H02.out;have hcl:=Nq d w.heap.size p a1 a2 a3 c1 c2 p.hs.length c3 a acap ps w2 hq2.fields hq2.owners HOS.out HAF.out pv (HPc.out w2 H02.out) hps;obtain⟨b0,b1,b2,b3⟩:w2.cell? ⟨bt,0,none⟩=some (.string p.name)/\w2.cell? ⟨bt,1,none⟩=some (.slice a1 p.fs.length c1)/\w2.cell? ⟨bt,2,none⟩=some (.slice a2 p.os.length c2)/\w2.cell? ⟨bt,3,none⟩=some (.slice a3 p.hs.length c3):=by simp[World.cell?,hbx]
 have HBX:=Aa hbx;have HB2:Hid (Below w.heap.size w w2):=HBW.out.trans (hB2.mono HBW.out.size);have HRes2:=Aa ((hB2.block _ (Ag HRes.out)).trans HRes.out);clear hbx hB2 hgW HRes HBW H0W hq2
 go_wp2_with fail
 refine hcl.mono ?_;clear hcl;rintro e w3 ⟨ca,cc,bh,bv,rfl,hRow,hCM,hLM,hbh,hbv,hnehv,hB3⟩;generalize hY:w3.alloc (Obj.cells #[.slice ca ps.length cc,.map (some bh),.map (some bv)] 63)=Y;have hBY:Below w3.heap.size w3 Y:=by rw[<-hY];exact BW _ _
 have hblY:Y.heap[w3.heap.size]? = some (.cells #[.slice ca ps.length cc,.map (some bh),.map (some bv)] 63 (0,0)):=by rw[<-hY];exact Ap _ _
 have hB23:Below w2.heap.size w2 Y:=hB3.trans (hBY.mono hB3.size);have b3:=BR hB23 b3;have HBTY:=Aa ((hB23.block _ (Ag HBX.out)).trans HBX.out);have HRY:=Aa ((hB23.block _ (Ag HRes2.out)).trans HRes2.out);have T:Hid (Below w.heap.size w Y):=HB2.out.trans (hB23.mono HB2.out.size);have H0Y:Hid (Below N0 w0 Y):=HW0.out.trans (T.out.mono hN0);have HGY:=Aa (HGt.out.kept T.out);have HKY:=Aa (HK.out.kept T.out);have hw2s:=HB2.out.size;have Q:Hid (B9 Y w.heap.size 131 11 (.slice ca ps.length cc) ps.length (CU p ps pv (λ_=>LV.zero))):=(hRow.kept hBY).lower hw2s;have HCY:=Aa (hCM.kept hBY);have HLY:=Aa (hLM.kept hBY);have J:=Aa hblY;have U:Hid (w.heap.size<=bh/\w.heap.size<=bv/\bh≠bv/\w.heap.size<bt/\w.heap.size<w3.heap.size):=by
  have h1:=hB3.size;have h2:=Ag HBX.out;refine⟨by omega,by omega,hnehv,by omega,by omega⟩
 have E:Hid (bg<w.heap.size):=by
  obtain⟨rv9,kv9,fv9,O,-⟩:=HGt.out;exact Ag O
 clear hRow hCM hLM hbh hbv hnehv hB3 hBY hblY hB23 HB2 HBX HRes2 b0 b1 b2
 go_wp2_with fail
 clear hY b3;obtain⟨bl,ebl⟩:∃bl,bl=w3.heap.size:=⟨_,rfl⟩;rw[<-ebl]at J U;rw[<-ebl];clear ebl;have HF5:Hid (p.hs.length<=5):=HGP.out.few;have hhl:p.hs.length<=5:=HF5.out
 go_loopw [34] (λi wr => ∃k:Nat,k<=p.hs.length/\i= .int .i64 k/\KQ N0 (λq=>q=bg\/q=bh\/q=bv) Y wr/\GateAt N0 bg (.slice la n cap) (.slice (some ⟨g,0,none⟩) L.length pc) wr (R++(p.hs.take k).map (CW p keys ps))/\Dt wr bh (k*1200) (Fu V keys (p.hs.take k))/\DC w.heap.size wr bv (k*72000) (EG V p ps keys (p.hs.take k))) (λi _=>p.hs.length - (intOf i).toNat)
 case atStart=>exact⟨0,Ai _,rfl,KQ.refl _ _ _,by rw[List.take_zero,AI,Bm];exact HGY.out,by rw[Nat.zero_mul];exact HCY.out,by rw[Nat.zero_mul];exact HLY.out⟩
 case round =>
  obtain⟨k,hk,rfl,F,hG,hC,hM⟩:=hrel;have hXN:∀q,(q=bg\/q=bh\/q=bv)->N0<=q:=λq hq=>by
   have:=U.out;omega
  have hNY:N0<=Y.heap.size:=by have:=T.out.size;omega
  have ah:Below N0 w0 wr:=H0Y.out.trans (F.below hXN hNY)
  by_cases I:k<p.hs.length
  ·have hlt':(k:Int)<(p.hs.length:Int):=by omega
   have hk0:(0:Int)<=(k:Int):=by omega
   obtain⟨hb,ho,rfl,h0,h1,h2,hgd⟩:=(HPt.out wr ah).homes.2 k I;have hnl : ¬(bl=bg\/bl=bh\/bl=bv):=λe=>by
    rcases e with e|e|e
    ·have:=E.out;have:=U.out;omega
    ·obtain⟨es,P,z⟩:=HCY.out.obj
     have:=J.out;rw[e,z]at this;cases this
    ·obtain⟨es,P,z⟩:=HLY.out.obj
     have:=J.out;rw[e,z]at this;cases this
   have ac:∀q,(Value.slice ca ps.length cc).ownBlock=some q->¬(q=bg\/q=bh\/q=bv):=λq hq e=>by
    obtain⟨P,m⟩:=Q.out.obj hq;rcases e with e|e|e
    ·have:=(Q.out.lt hq).1;have:=E.out;omega
    ·obtain⟨es,P,z⟩:=HCY.out.obj
     rw[<-e,m]at z;cases z
    ·obtain⟨es,P,z⟩:=HLY.out.obj
     rw[<-e,m]at z;cases z
   obtain⟨X,hX⟩:∃X,X=wr.alloc (Obj.cells #[.int .i64 (Eg p k).svc,.string (Eg p k).type,.string (Eg p k).field] 92):=⟨_,rfl⟩;have D:Below wr.heap.size wr X:=by rw[hX];exact BW _ _
   have hboX:X.heap[wr.heap.size]? = some (.cells #[.int .i64 (Eg p k).svc,.string (Eg p k).type,.string (Eg p k).field] 92 (0,0)):=by rw[hX];exact Ap _ _
   have ai:X.heap[bl]? = some (.cells #[.slice ca ps.length cc,.map (some bh),.map (some bv)] 63 (0,0)):=by
    have e:=(F.cells J.out (by decide) hnl).trans J.out;exact(D.block _ (Ag e)).trans e
   have HTK:Hid (p.hs.take (k+1)=p.hs.take k++[Eg p k]):=Aa (by rw[AS I,SI I]);have S:Eg p k∈p.hs:=by rw[<-SI I];exact AW I
   have hKW:Df wr 0 (.slice ka keys.length kcap) keys:=F.row HKY.out (by decide) λq hq e=>by
    obtain⟨P,m⟩:=B9.obj HKY.out hq;rcases e with e|e|e
    ·obtain⟨rv9,kv9,fv9,O,-⟩:=HGY.out
     rw[<-e,m]at O;cases O
    ·obtain⟨es,P,z⟩:=HCY.out.obj
     rw[<-e,m]at z;cases z
    ·obtain⟨es,P,z⟩:=HLY.out.obj
     rw[<-e,m]at z;cases z
   have HRl:Hid ((R++(p.hs.take k).map (CW p keys ps)).length<=1000000):=Aa (by
    have h9:=HLen.out;rw[Ay,A6]at h9;rw[Ay,A6,Bb];omega)
   have HWX:Hid (KQ N0 (λq=>q=bg\/q=bh\/q=bv) Y X):=F.trans (KQ.of D);have H0X:Hid (Below N0 w0 X):=ah.trans (D.mono (by have:=F.size;omega));have HRX:=Aa ((F.row Q.out (by decide) ac).kept D);have HGX:=Aa (hG.kept D);have HCX:=Aa (hC.kept D);have HMX:=Aa (hM.kept D);have HKX:=Aa (hKW.kept D);have HsX:Hid (w.heap.size<=X.heap.size):=by
    have:=D.size;have:=F.size;have:=T.out.size;unfold Hid;omega
   have HSMF:Hid (∀j,j<ps.length->BY (Dd p (BT (BS ps j))).field):=Aa λj M=>by
    have hfk : ¬BX p.fs.length (De p) (BT (BS ps j))<0:=HAF.out _ (by rw[CL M];exact AW M);have h1:=(E4 (p:=λj9=>eqs (De p j9).name (BT (BS ps j))) hfk).1;obtain⟨b9,o9,-,-,-,-,hg9⟩:=(HPt.out w0 (Aq _ _)).owners.2 _ (by rw[HOS.out];exact h1);exact hg9.2.1
   have HCN:Hid (∀s,Fu V keys (p.hs.take k) s<=10):=Aa λs=>by
    have:=Rq (V:=V) HKd.out s (p.hs.take k);rw[Bb]at this;omega
   clear F hG hC hM D ah ac hnl hKW hXN
   go_upto_region 6 with fail
   rw[<-hX];refine QK (N0:=N0) (N:=w.heap.size) (bg:=bg) (n:=n) (cap:=cap) (d:=d) (bl:=bl) (bo:=wr.heap.size) (bh:=bh) (bv:=bv) (n1:=k*1200) (n2:=k*72000) (cc:=cc) (kcap:=kcap) (base:=w.heap.size) (la:=la) (pa:=some ⟨g,0,none⟩) (ca:=ca) (ka:=ka) (pn:=L.length) (pc:=pc) (V:=V) (p:=p) (ps:=ps) (h:=Eg p k) (keys:=keys) (R:=R++(p.hs.take k).map (CW p keys ps)) (pv:=pv) (nx:=λ_=>LV.zero) (c:=Fu V keys (p.hs.take k)) (v:=EG V p ps keys (p.hs.take k)) (by kernel_rfl) rfl rfl rfl rfl hNb HsX.out HGX.out (λw9 h9=>HSv.out w9 (H0X.out.trans h9)) HE.out.light HGP.out HAF.out hps S HRX.out HPV.out HSMF.out HCX.out HMX.out U.out.2.2.1 (by have:=U.out;have:=E.out;omega) HKX.out HKs.out HKd.out hK0 hKl ai hboX HCN.out (by omega) (by omega) HRl.out ?_;intro s w' hC' hM' hG' hKQ';have y:Hid (KQ N0 (λq=>q=bg\/q=bh\/q=bv) Y w'/\GateAt N0 bg (.slice la n cap) (.slice (some ⟨g,0,none⟩) L.length pc) w' (R++(p.hs.take (k+1)).map (CW p keys ps))/\Dt w' bh ((k+1)*1200) (Fu V keys (p.hs.take (k+1)))/\DC w.heap.size w' bv ((k+1)*72000) (EG V p ps keys (p.hs.take (k+1)))):=by
    rw[HTK.out,Ns,MJ,AH,<-AR];exact⟨HWX.out.trans hKQ',hG',hC'.mono (by omega),hM'.mono (by omega)⟩
   clear hC' hM' hG' hKQ' hX hboX ai h0 h1 h2;simp only[Cn,Act.put,Au,AD,AE];generalize s 38=t38;generalize s 39=t39;generalize s 40=t40;generalize s 41=t41;generalize s 42=t42;generalize s 43=t43;generalize s 44=t44;generalize s 45=t45;generalize s 46=t46;generalize s 47=t47;generalize s 48=t48
   go_wp2_with fail
   go_roundw
   case rel=>exact⟨k+1,by omega,by go_num,y.out.1,y.out.2.1,y.out.2.2.1,y.out.2.2.2⟩
   case measure=>simp[intOf];omega
  ·have hkn:k=p.hs.length:=by omega
   rw[hkn,Br]at hG hC hM;have hnl : ¬(bl=bg\/bl=bh\/bl=bv):=λe=>by
    rcases e with e|e|e
    ·have:=E.out;have:=U.out;omega
    ·obtain⟨es,P,z⟩:=HCY.out.obj
     have:=J.out;rw[e,z]at this;cases this
    ·obtain⟨es,P,z⟩:=HLY.out.obj
     have:=J.out;rw[e,z]at this;cases this
   have ac:∀q,(Value.slice ca ps.length cc).ownBlock=some q->¬(q=bg\/q=bh\/q=bv):=λq hq e=>by
    obtain⟨P,m⟩:=Q.out.obj hq;rcases e with e|e|e
    ·have:=(Q.out.lt hq).1;have:=E.out;omega
    ·obtain⟨es,P,z⟩:=HCY.out.obj
     rw[<-e,m]at z;cases z
    ·obtain⟨es,P,z⟩:=HLY.out.obj
     rw[<-e,m]at z;cases z
   have hnr : ¬(w.heap.size=bg\/w.heap.size=bh\/w.heap.size=bv):=λe=>by
    rcases e with e|e|e
    ·have:=E.out;omega
    ·obtain⟨es,P,z⟩:=HCY.out.obj
     have:=HRY.out;rw[e,z]at this;cases this
    ·obtain⟨es,P,z⟩:=HLY.out.obj
     have:=HRY.out;rw[e,z]at this;cases this
   have HBLr:=Aa ((F.cells J.out (by decide) hnl).trans J.out);have HRr:=Aa ((F.cells HRY.out (by decide) hnr).trans HRY.out);have G:=Aa (F.row Q.out (by decide) ac);have HKr:Hid (Df wr 0 (.slice ka keys.length kcap) keys):=F.row HKY.out (by decide) λq hq e=>by
    obtain⟨P,m⟩:=B9.obj HKY.out hq;rcases e with e|e|e
    ·obtain⟨rv9,kv9,fv9,O,-⟩:=HGY.out
     rw[<-e,m]at O;cases O
    ·obtain⟨es,P,z⟩:=HCY.out.obj
     rw[<-e,m]at z;cases z
    ·obtain⟨es,P,z⟩:=HLY.out.obj
     rw[<-e,m]at z;cases z
   obtain⟨cb,ccp,hcb⟩:∃g cap,Value.slice ca ps.length cc= .slice (some ⟨g,0,none⟩) ps.length cap:=by
    rcases Q.out.shape with⟨-,h0⟩|⟨g,cap,hv,-,-,-⟩
    ·exact absurd (AC h0) hps0
    ·exact⟨g,cap,hv⟩
   cases hcb;have HKw:Hid (KeepQ N0 bg w wr):=Aa ⟨F.os.trans T.out.os,F.tape.trans T.out.tape,F.output.trans T.out.output,Am T.out.size F.size,λq hq hne hqq=>by
    have hqY:q<Y.heap.size:=Ah hq T.out.size;have e1:=T.out.block q hq;rw[F.block q hqY (λe=>by have:=U.out;omega) (hqq.imp id λhn=>by unfold JC at hn ⊢;rw[e1];exact hn),e1]⟩
   have H0r:=Aa ah;have HGr:=Aa hG;have HCr:=Aa hC;have HMr:=Aa hM;have l0:wr.cell? ⟨bl,0,none⟩=some (.slice (some ⟨cb,0,none⟩) ps.length cc):=by simp[World.cell?,HBLr.out]
   have HcbN:Hid (w.heap.size<=cb/\cb<wr.heap.size):=G.out.lt rfl;have hpl:(ps.length:Int)<=60:=by omega
   have HSZ:Hid (w.heap.size<wr.heap.size):=Ag HRr.out;clear F hG hC hM ah hXN hnl ac hnr hNY Q HKY HGY HCY HLY HBTY HRY T H0Y J hkn
   go_wp2_with fail
   clear l0 I hk;obtain⟨Y2,hren⟩:∃Y2,Y2=wr:=⟨_,rfl⟩;rw[<-hren]at HBLr HRr G HKr HKw H0r HGr HCr HMr HcbN HSZ;rw[<-hren];clear hren
   go_loopw [53] (λi wr => ∃k:Nat,k<=ps.length/\i= .int .i64 k/\∃nx:Nat->LV,KQ N0 (λq=>q=bg\/q=cb) Y2 wr/\B9 wr w.heap.size 131 11 (.slice (some ⟨cb,0,none⟩) ps.length cc) ps.length (CU p ps pv nx)/\GateAt N0 bg (.slice la n cap) (.slice (some ⟨g,0,none⟩) L.length pc) wr (R++p.hs.map (CW p keys ps)++(ps.take k).flatMap (DF V L (DA V L d) p keys))/\∀j,j<k->Kf w.heap.size bg cb V L d p ps keys wr (nx j) j) (λi _=>ps.length - (intOf i).toNat)
   case atStart=>exact⟨0,Ai _,rfl,λ_=>LV.zero,KQ.refl _ _ _,G.out,by rw[List.take_zero,List.flatMap_nil,Bm];exact HGr.out,λj M=>absurd M (Ak _)⟩
   case round =>
    obtain⟨k,hk,rfl,nx,F,ad,hG,hNx⟩:=hrel;have hXN:∀q,(q=bg\/q=cb)->N0<=q:=λq hq=>by
     have:=HcbN.out;omega
    have hNY:N0<=Y2.heap.size:=by have:=HSZ.out;omega
    have ah:Below N0 w0 wr:=H0r.out.trans (F.below hXN hNY);have hnl : ¬(bl=bg\/bl=cb):=λe=>by
     rcases e with e|e
     ·have:=E.out;have:=U.out;omega
     ·obtain⟨P,m⟩:=G.out.obj (k:=cb) rfl
      have:=HBLr.out;rw[e,m]at this;cases this
    have hnr : ¬(w.heap.size=bg\/w.heap.size=cb):=λe=>by
     rcases e with e|e
     ·have:=E.out;omega
     ·obtain⟨P,m⟩:=G.out.obj (k:=cb) rfl
      have:=HRr.out;rw[e,m]at this;cases this
    have ae:=(F.cells HBLr.out (by decide) hnl).trans HBLr.out;have H:=(F.cells HRr.out (by decide) hnr).trans HRr.out;have hXs:∀q cs,(q=bg\/q=cb)->Y2.heap[q]? = some (.cells cs 9 (0,0))->False:=λq cs hq ho=>by
     rcases hq with e|e
     ·obtain⟨rv9,kv9,fv9,O,-⟩:=HGr.out
      rw[<-e,ho]at O;cases O
     ·obtain⟨P,m⟩:=G.out.obj (k:=cb) rfl
      rw[<-e,ho]at m;cases m
    have hKw:Df wr 0 (.slice ka keys.length kcap) keys:=F.row HKr.out (by decide) λq hq e=>by
     obtain⟨P,m⟩:=B9.obj HKr.out hq;exact hXs q _ e m
    have hnv : ¬(bv=bg\/bv=cb):=λe=>by
     rcases e with e|e
     ·have:=E.out;have:=U.out;omega
     ·obtain⟨P,m⟩:=G.out.obj (k:=cb) rfl
      obtain⟨es,c8,z⟩:=HMr.out.obj;rw[e,m]at z;cases z
    have hnh : ¬(bh=bg\/bh=cb):=λe=>by
     rcases e with e|e
     ·have:=E.out;have:=U.out;omega
     ·obtain⟨P,m⟩:=G.out.obj (k:=cb) rfl
      obtain⟨es,c8,z⟩:=HCr.out.obj;rw[e,m]at z;cases z
    have hMw:=F.lmap HMr.out hnv hXs;have hCw:=F.cmap HCr.out hnh
    by_cases I:k<ps.length
    ·have hlt':(k:Int)<(ps.length:Int):=by omega
     have hk0:(0:Int)<=(k:Int):=by omega
     obtain⟨c0,c1,c2,c3,c4,c5,c6,c7,c8,P,c10⟩:=J3 ad I;obtain⟨sa,sc,hpvk,hsc,hPk⟩:=HSub.out k I;rw[hpvk]at c1;have S:BS ps k∈ps:=by rw[CL I];exact AW I
     have HTF:Hid ((ps.take (k+1)).flatMap (DF V L (DA V L d) p keys)=(ps.take k).flatMap (DF V L (DA V L d) p keys)++DF V L (DA V L d) p keys (BS ps k)):=Aa (by rw[Q1 I,CL I]);have hfk : ¬BX p.fs.length (De p) (BT (BS ps k))<0:=HAF.out _ S;have hgO:Jp (Dd p (BT (BS ps k))):=by
      have h1:=(E4 (p:=λj9=>eqs (De p j9).name (BT (BS ps k))) hfk).1;obtain⟨b9,o9,-,-,-,-,hg9⟩:=(HPt.out w0 (Aq _ _)).owners.2 _ (by rw[HOS.out];exact h1);exact hg9
     have hask:=HAR.out k I;obtain⟨X,hX⟩:∃X,X=wr.alloc (Obj.cells #[.string (B8 (BS ps k)),.slice sa (subs (BS ps k)).length sc,.string (EQ p (BT (BS ps k))).name,.int .i64 (EQ p (BT (BS ps k))).kind,.string (EQ p (BT (BS ps k))).type,.int .i64 (Dd p (BT (BS ps k))).svc,.string (Dd p (BT (BS ps k))).type,.string (Dd p (BT (BS ps k))).field,.slice (nx k).a (nx k).n (nx k).c,.map (nx k).h,.map (nx k).v] 131):=⟨_,rfl⟩;have D:Below wr.heap.size wr X:=by rw[hX];exact BW _ _
     have hbcX:X.heap[wr.heap.size]? = some (.cells #[.string (B8 (BS ps k)),.slice sa (subs (BS ps k)).length sc,.string (EQ p (BT (BS ps k))).name,.int .i64 (EQ p (BT (BS ps k))).kind,.string (EQ p (BT (BS ps k))).type,.int .i64 (Dd p (BT (BS ps k))).svc,.string (Dd p (BT (BS ps k))).type,.string (Dd p (BT (BS ps k))).field,.slice (nx k).a (nx k).n (nx k).c,.map (nx k).h,.map (nx k).v] 131 (0,0)):=by rw[hX];exact Ap _ _
     have HWX:Hid (KQ N0 (λq=>q=bg\/q=cb) Y2 X):=F.trans (KQ.of D);have HRX:=Aa (ad.kept D);have HGX:=Aa (hG.kept D);have HMX:=Aa (hMw.kept D);have HKX:=Aa (hKw.kept D);have ai:=(D.block _ (Ag ae)).trans ae;have HNX:Hid (∀j,j<k->Kf w.heap.size bg cb V L d p ps keys X (nx j) j):=Aa λj M=>(hNx j M).step (N0:=N0) (KQ.of D);have H0X:Hid (Below N0 w0 X):=ah.trans (D.mono (by have:=F.size;omega));have hsX:wr.heap.size<X.heap.size:=Ag hbcX;have hsw:=F.size
     by_cases k1:(EQ p (BT (BS ps k))).kind=1
     ·have hk1:((EQ p (BT (BS ps k))).kind==1)=true:=by rw[k1];rfl
      have y:Hid (KQ N0 (λq=>q=bg\/q=cb) Y2 X/\B9 X w.heap.size 131 11 (.slice (some ⟨cb,0,none⟩) ps.length cc) ps.length (CU p ps pv nx)/\GateAt N0 bg (.slice la n cap) (.slice (some ⟨g,0,none⟩) L.length pc) X (R++p.hs.map (CW p keys ps)++(ps.take (k+1)).flatMap (DF V L (DA V L d) p keys))/\∀j,j<k+1->Kf w.heap.size bg cb V L d p ps keys X (nx j) j):=by
       refine⟨HWX.out,HRX.out,?_,λj M=>?_⟩
       ·have e0:DF V L (DA V L d) p keys (BS ps k) = []:=by unfold DF;rw[Af k1]
        rw[HTF.out,e0,Bm];exact HGX.out
       ·rcases Nat.lt_succ_iff_lt_or_eq.1 M with h|h
        ·exact HNX.out j h
        ·subst h
         exact λhne _=>absurd k1 hne
      clear F ad hG hNx ah ae H hKw hMw hCw D hbcX ai k1 hask hgO hPk
      go_wp2_with fail
      rw[<-hX]
      go_roundw
      case rel=>exact⟨k+1,by omega,by go_num,nx,y.out.1,y.out.2.1,y.out.2.2.1,y.out.2.2.2⟩
      case measure=>simp[intOf];omega
     ·have hk1:((EQ p (BT (BS ps k))).kind==1)=false:=by rw[Bc];exact k1
      have hkeys:keys.flatMap (λkey=>KZ (EG V p ps keys p.hs (Dd p (BT (BS ps k))).svc (Dd p (BT (BS ps k))).type (Dd p (BT (BS ps k))).field key))=keys.flatMap (EM V (Dd p (BT (BS ps k)))):=Mm λkey aj=>OV HGP.out HAF.out S aj;have hnf:=On HGP.out HAF.out S HKd.out;obtain⟨a9,e9,e8,-,htx⟩:=HKX.out.at (by unfold maxLen;omega) HKs.out;cases e8;have hcl:=PD w.heap.size (some ⟨cb,0,none⟩) ps.length cc bv (p.hs.length*72000) (some bh) (Dd p (BT (BS ps k))) (EG V p ps keys p.hs) ka kcap keys X HMX.out hgO.2.2 hgO.1 hgO.2.1 htx (by rw[hkeys];exact hnf);rw[hkeys]at hcl;replace hcl:Calls Tryz.prog 51 #[.agg #[.slice (some ⟨cb,0,none⟩) ps.length cc,.map (some bh),.map (some bv)],.agg #[.int .i64 (Dd p (BT (BS ps k))).svc,.string (Dd p (BT (BS ps k))).type,.string (Dd p (BT (BS ps k))).field],.slice ka keys.length kcap] X λe w'=>(∃u,e= .returned u/\Df w' X.heap.size u (CR V (Dd p (BT (BS ps k))) keys))/\Below X.heap.size X w':=hcl;have hnl2:(CR V (Dd p (BT (BS ps k))) keys).length<=1200:=Am (Gv _) hnf;have HNSm:Hid (∀x,x∈CR V (Dd p (BT (BS ps k))) keys->BY x):=Aa λx hx=>by
       obtain⟨key,aj,hx⟩:=List.mem_flatMap.1 (Fb.1 hx);unfold EM at hx
       by_cases hh:Dk (V (Dd p (BT (BS ps k))).svc.toNat) (Dd p (BT (BS ps k))).type key=true
       ·rw[Af hh]at hx
        obtain⟨s9,hs9,es9,m⟩:=HGP.out.r.owner _ hfk;have es8:(Dd p (BT (BS ps k))).svc.toNat=s9:=by rw[es9];simp
        rw[es8]at hx hh;obtain⟨m9,hm9,em9,-⟩:=m key hh;rw[em9]at hx;obtain⟨i9,hi9,-,ei9,-⟩:=Iz hh;rw[ei9]at hx hm9;obtain⟨b9,o9,-,hsv9⟩:=HE.out.servs.2 s9 hs9;obtain⟨b8,o8,-,-,-,-,-,-,-,hv9⟩:=hsv9.ok.things.2 i9 hi9;obtain⟨b7,o7,-,-,-,-,-,-,-,hk9⟩:=hv9.2 m9 hm9;unfold D3 at hx;obtain⟨j9,hj9,rfl⟩:=List.mem_map.1 hx;obtain⟨b6,o6,-,-,hs6⟩:=hk9.2 j9 (by simpa using hj9);exact hs6
       ·rw[Ae hh]at hx;cases hx
      obtain⟨m0,m1,m2⟩:wr.cell? ⟨bl,0,none⟩=some (.slice (some ⟨cb,0,none⟩) ps.length cc)/\wr.cell? ⟨bl,1,none⟩=some (.map (some bh))/\wr.cell? ⟨bl,2,none⟩=some (.map (some bv)):=by simp[World.cell?,ae]
      have hblt:bl<wr.heap.size:=An m0;have HblX:=Aa ai;have HbcX:=Aa hbcX;have HPk:=Aa hPk;have HAk:=Aa hask;have Hk1:=Aa k1;rw[hX]at hcl;clear F ad hG hNx ah ae H hKw hMw hCw D hbcX ai k1 hask hgO hPk hkeys hnf htx hfk
      go_wp2_with fail
      refine hcl.mono ?_;clear hcl;rw[<-hX];rintro e B ⟨⟨u,rfl,hT⟩,hB1⟩;obtain⟨na,nc,rfl,hnc⟩:=hT.slice;have HT1:=Aa hT;have HB1:=Aa hB1;have HW1:Hid (KQ N0 (λq=>q=bg\/q=cb) Y2 B):=HWX.out.trans (KQ.of hB1);have HR1:=Aa (HRX.out.kept hB1);have HG1:=Aa (HGX.out.kept hB1);have HN1:Hid (∀j,j<k->Kf w.heap.size bg cb V L d p ps keys B (nx j) j):=Aa λj M=>(HNX.out j M).step (N0:=N0) (KQ.of hB1);have hB1s:=hB1.size;clear hT hB1 hX c0 c1 c2 c3 c4 c5 c6 c7 c8 P c10 m0 m1 m2
      by_cases af:CR V (Dd p (BT (BS ps k))) keys = []
      ·have hl0:(CR V (Dd p (BT (BS ps k))) keys).length=0:=by rw[af];rfl
       have y:Hid (KQ N0 (λq=>q=bg\/q=cb) Y2 B/\B9 B w.heap.size 131 11 (.slice (some ⟨cb,0,none⟩) ps.length cc) ps.length (CU p ps pv nx)/\GateAt N0 bg (.slice la n cap) (.slice (some ⟨g,0,none⟩) L.length pc) B (R++p.hs.map (CW p keys ps)++(ps.take (k+1)).flatMap (DF V L (DA V L d) p keys))/\∀j,j<k+1->Kf w.heap.size bg cb V L d p ps keys B (nx j) j):=by
        refine⟨HW1.out,HR1.out,?_,λj M=>?_⟩
        ·have e0:DF V L (DA V L d) p keys (BS ps k) = []:=by unfold DF;rw[Ae Hk1.out,Af af]
         rw[HTF.out,e0,Bm];exact HG1.out
        ·rcases Nat.lt_succ_iff_lt_or_eq.1 M with h|h
         ·exact HN1.out j h
         ·subst h
          exact λ_ hne=>absurd af hne
       rw[hl0];clear af hl0 hnc hnl2 HT1
       go_wp2_with fail
       go_roundw
       case rel=>exact⟨k+1,by omega,by go_num,nx,y.out.1,y.out.2.1,y.out.2.2.1,y.out.2.2.2⟩
       case measure=>simp[intOf];omega
      ·have hpos:0<(CR V (Dd p (BT (BS ps k))) keys).length:=List.length_pos_iff.2 af
       have hpos':(0:Int)<((CR V (Dd p (BT (BS ps k))) keys).length:Int):=by omega
       rcases HAk.out with⟨h9,-⟩|⟨-,hsne,hpi9,hcR9⟩
       ·exact absurd h9 Hk1.out
       have e0:DF V L (DA V L d) p keys (BS ps k)=DA V L d (Du L (EQ p (BT (BS ps k))).type) (CR V (Dd p (BT (BS ps k))) keys) (subs (BS ps k)):=by unfold DF;rw[Ae Hk1.out,Ae af]
       have HE0:=Aa e0;have HRl:Hid ((R++p.hs.map (CW p keys ps)++(ps.take k).flatMap (DF V L (DA V L d) p keys)).length+(DA V L d (Du L (EQ p (BT (BS ps k))).type) (CR V (Dd p (BT (BS ps k))) keys) (subs (BS ps k))).length<=1000):=Aa (by
        have h9:=HLen.out;have h8:=TJ (DF V L (DA V L d) p keys) ps (k+1);rw[HTF.out,e0,Ay]at h8;rw[Ay]at h9;rw[Ay,Ay];omega)
       have HA9:Hid (∀wA,Below B.heap.size B wA->Calls Tryz.prog 22 #[.pointer (some ⟨bg,0,none⟩),.string (EQ p (BT (BS ps k))).type,.slice na (CR V (Dd p (BT (BS ps k))) keys).length nc,.slice sa (subs (BS ps k)).length sc] wA λe w' => ∃l:LV,e= .returned (.agg #[.slice l.a l.n l.c,.map l.h,.map l.v])/\(GateAt N0 bg (.slice la n cap) (.slice (some ⟨g,0,none⟩) L.length pc) w' (R++p.hs.map (CW p keys ps)++(ps.take k).flatMap (DF V L (DA V L d) p keys)++DA V L d (Du L (EQ p (BT (BS ps k))).type) (CR V (Dd p (BT (BS ps k))) keys) (subs (BS ps k)))/\KeepQ N0 bg wA w'/\EP wA.heap.size w' l d (CR V (Dd p (BT (BS ps k))) keys) (GZ V L d (Du L (EQ p (BT (BS ps k))).type) (subs (BS ps k))))):=Aa λwA hA =>
        HIH.out _ (CR V (Dd p (BT (BS ps k))) keys) na nc sa sc (subs (BS ps k)) _ wA ((H0X.out.trans (HB1.out.mono (by omega))).trans (hA.mono (by omega))) (HG1.out.kept hA) ((HT1.out.base (Ai _)).kept hA) HNSm.out (Ip _) af hnl2 HPk.out hsne (HSm.out.2 k I) hpi9 hcR9 HRl.out
       have Hg1:Hid (∃cs,B.heap[bg]? = some (.cells cs 58 (0,0))):=Aa (let ⟨_,_,_,O,_⟩:=HG1.out;⟨_,O⟩);have Hbl1:=Aa ((HB1.out.block _ (Ag HblX.out)).trans HblX.out);have Hbc1:=Aa ((HB1.out.block _ (Ag HbcX.out)).trans HbcX.out);clear hsne hpi9 hcR9 e0 hnc
       go_upto_region 14 with fail
       refine RK (N0:=N0) (bg:=bg) (d:=d) (bl:=bl) (bc:=wr.heap.size) (cb:=cb) (cn:=ps.length) (cc:=cc) (kn:=(CR V (Dd p (BT (BS ps k))) keys).length) (kc:=nc) (sn:=(subs (BS ps k)).length) (sc:=sc) (k:=k) (base:=w.heap.size) (ka:=na) (sa:=sa) (ty:=(EQ p (BT (BS ps k))).type) (p:=p) (ps:=ps) (pv:=pv) (nx:=nx)
        (A1:=λwA l w'=>GateAt N0 bg (.slice la n cap) (.slice (some ⟨g,0,none⟩) L.length pc) w' (R++p.hs.map (CW p keys ps)++(ps.take k).flatMap (DF V L (DA V L d) p keys)++DA V L d (Du L (EQ p (BT (BS ps k))).type) (CR V (Dd p (BT (BS ps k))) keys) (subs (BS ps k)))/\KeepQ N0 bg wA w'/\EP wA.heap.size w' l d (CR V (Dd p (BT (BS ps k))) keys) (GZ V L d (Du L (EQ p (BT (BS ps k))).type) (subs (BS ps k)))) (lh:=some bh) (lv:=some bv)
        (by kernel_rfl) rfl rfl rfl rfl rfl I HR1.out Hbl1.out Hbc1.out Hg1.out HA9.out (λ_ _ _ h=>h.2.1) ?_
       rintro s l wA wB hBA ⟨hG',hK',hT'⟩;have hKQ9:KQ N0 (λq=>q=bg\/q=cb) B (F6 cb (k*11) wB l):=((KQ.of hBA).trans (KQ.ofQ hK' (.inl rfl))).trans (Oq (.inr rfl));have hcbw1:cb<B.heap.size:=(HR1.out.lt rfl).2;have hrB:B9 wB w.heap.size 131 11 (.slice (some ⟨cb,0,none⟩) ps.length cc) ps.length (CU p ps pv nx):=HR1.out.at λq hq=>by
        obtain⟨P,m⟩:=HR1.out.obj hq;have hKB:KeepQ N0 bg B wB:=(KeepQ.of hBA).trans hK';refine hKB.cells m (by decide) λe=>?_;have:=(HR1.out.lt hq).1;have:=E.out;omega
       obtain⟨c8,ho8⟩:=hrB.obj (k:=cb) rfl;have hGB:GateAt N0 bg (.slice la n cap) (.slice (some ⟨g,0,none⟩) L.length pc) (F6 cb (k*11) wB l) (R++p.hs.map (CW p keys ps)++(ps.take k).flatMap (DF V L (DA V L d) p keys)++DA V L d (Du L (EQ p (BT (BS ps k))).type) (CR V (Dd p (BT (BS ps k))) keys) (subs (BS ps k))):=hG'.at λq cs t _ m ht9=>JG λe=>by
        subst e;rw[ho8]at m;cases m;rcases ht9 with h|h|h<;>exact absurd h (by decide)
       have y:Hid (KQ N0 (λq=>q=bg\/q=cb) Y2 (F6 cb (k*11) wB l)/\B9 (F6 cb (k*11) wB l) w.heap.size 131 11 (.slice (some ⟨cb,0,none⟩) ps.length cc) ps.length (CU p ps pv (λj=>if j=k then l else nx j))/\GateAt N0 bg (.slice la n cap) (.slice (some ⟨g,0,none⟩) L.length pc) (F6 cb (k*11) wB l) (R++p.hs.map (CW p keys ps)++(ps.take (k+1)).flatMap (DF V L (DA V L d) p keys))/\∀j,j<k+1->Kf w.heap.size bg cb V L d p ps keys (F6 cb (k*11) wB l) (if j=k then l else nx j) j):=by
        refine⟨HW1.out.trans hKQ9,Q3 hrB,?_,λj M=>?_⟩
        ·rw[HTF.out,HE0.out,<-AR]
         exact hGB
        ·rcases Nat.lt_succ_iff_lt_or_eq.1 M with h|h
         ·rw[Ae (by omega)]
          exact(HN1.out j h).step hKQ9
         ·subst h
          rw[Af rfl];have hAs:=hBA.size;have hbN:=E.out;have hSZ:=HSZ.out;refine λ_ _=>⟨wA.heap.size,by omega,by omega,by omega,hT'.step ?_⟩;exact(Oq (N0:=N0) (X:=λq=>q=bg\/q=cb) (.inr rfl)).later λq hq=>by
           rcases hq with rfl|rfl<;>omega
       clear hG' hK' hT' hKQ9 hrB hGB ho8 hBA;generalize F6 cb (k*11) wB l=w9 at *;generalize hnx':(λj=>if j=k then l else nx j)=nx' at *
       have HEND2:Hid (KQ N0 (λq=>q=bg\/q=cb) Y2 w9/\B9 w9 w.heap.size 131 11 (.slice (some ⟨cb,0,none⟩) ps.length cc) ps.length (CU p ps pv nx')/\GateAt N0 bg (.slice la n cap) (.slice (some ⟨g,0,none⟩) L.length pc) w9 (R++p.hs.map (CW p keys ps)++(ps.take (k+1)).flatMap (DF V L (DA V L d) p keys))/\∀j,j<k+1->Kf w.heap.size bg cb V L d p ps keys w9 (nx' j) j):=by
        rw[<-hnx']at y ⊢;exact y
       clear y hnx';simp only[Cn,Act.put,Au,AD,AE];generalize s 70=t70;generalize s 71=t71;generalize s 72=t72;generalize s 73=t73;generalize s 74=t74;generalize s 75=t75;generalize s 76=t76;generalize s 77=t77;generalize s 78=t78;generalize s 79=t79;generalize s 80=t80;generalize s 81=t81;generalize s 82=t82
       go_wp2_with fail
       go_roundw
       case rel=>exact⟨k+1,by omega,by go_num,nx',HEND2.out.1,HEND2.out.2.1,HEND2.out.2.2.1,HEND2.out.2.2.2⟩
       case measure=>simp[intOf];omega
    ·have hkn:k=ps.length:=by omega
     rw[hkn,Br]at hG;have HNxA:Hid (∀j,j<ps.length->Kf w.heap.size bg cb V L d p ps keys wr (nx j) j):=Aa λj M=>hNx j (by omega);obtain⟨d0,d1,d2⟩:wr.cell? ⟨bl,0,none⟩=some (.slice (some ⟨cb,0,none⟩) ps.length cc)/\wr.cell? ⟨bl,1,none⟩=some (.map (some bh))/\wr.cell? ⟨bl,2,none⟩=some (.map (some bv)):=by simp[World.cell?,ae]
     obtain⟨x0,x1,x2⟩:wr.cell? ⟨w.heap.size,0,none⟩=some (.slice none 0 0)/\wr.cell? ⟨w.heap.size,1,none⟩=some (.map none)/\wr.cell? ⟨w.heap.size,2,none⟩=some (.map none):=by simp[World.cell?,H]
     obtain⟨y0,y1,y2⟩:wr.frozen? ⟨w.heap.size,0,none⟩=false/\wr.frozen? ⟨w.heap.size,1,none⟩=false/\wr.frozen? ⟨w.heap.size,2,none⟩=false:=by simp[World.frozen?,H]
     have hnlr:bl≠w.heap.size:=by have:=U.out;omega
     have hnrl:w.heap.size≠bl:=BG hnlr;have y:Hid (∀u0 u1 u2:Value,GateAt N0 bg (.slice la n cap) (.slice (some ⟨g,0,none⟩) L.length pc) (((wr.setCell ⟨w.heap.size,0,none⟩ u0).setCell ⟨w.heap.size,1,none⟩ u1).setCell ⟨w.heap.size,2,none⟩ u2) (R++(p.hs.map (CW p keys ps)++ps.flatMap (DF V L (DA V L d) p keys)))/\KeepQ N0 bg w (((wr.setCell ⟨w.heap.size,0,none⟩ u0).setCell ⟨w.heap.size,1,none⟩ u1).setCell ⟨w.heap.size,2,none⟩ u2)/\EP w.heap.size (((wr.setCell ⟨w.heap.size,0,none⟩ u0).setCell ⟨w.heap.size,1,none⟩ u1).setCell ⟨w.heap.size,2,none⟩ u2) ⟨some ⟨cb,0,none⟩,ps.length,cc,some bh,some bv⟩ (d+1) keys (GZ V L (d+1) p ps)):=Aa λu0 u1 u2=>by
      have ag:∀q,q≠w.heap.size->(((wr.setCell ⟨w.heap.size,0,none⟩ u0).setCell ⟨w.heap.size,1,none⟩ u1).setCell ⟨w.heap.size,2,none⟩ u2).heap[q]? = wr.heap[q]?:=λq hq=>by
       rw[Al _ _ _ _ (by exact hq),Al _ _ _ _ (by exact hq),Al _ _ _ _ (by exact hq)]
      have hsz:(((wr.setCell ⟨w.heap.size,0,none⟩ u0).setCell ⟨w.heap.size,1,none⟩ u1).setCell ⟨w.heap.size,2,none⟩ u2).heap.size=wr.heap.size:=by simp
      generalize hZ:((wr.setCell ⟨w.heap.size,0,none⟩ u0).setCell ⟨w.heap.size,1,none⟩ u1).setCell ⟨w.heap.size,2,none⟩ u2=Z9 at *;have hos9:Z9.os=wr.os/\Z9.tape=wr.tape/\Z9.output=wr.output:=by rw[<-hZ];exact⟨rfl,rfl,rfl⟩
      have af:∀{q t:Nat} {cs:Array Value} {fz:Nat × Nat},wr.heap[q]? = some (.cells cs t fz)->t≠63->q≠w.heap.size:=λho ht e=>by
       rw[e,H]at ho;cases ho;exact ht rfl
      refine⟨?_,?_,?_⟩
      ·rw[<-AR]
       refine hG.at λq cs t _ ho ht=>ag q (af ho ?_);rcases ht with h|h|h<;>rw[h]<;>decide
      ·refine⟨hos9.1.trans (F.os.trans HKw.out.os),hos9.2.1.trans (F.tape.trans HKw.out.tape),hos9.2.2.trans (F.output.trans HKw.out.output),by rw[hsz];exact Am HKw.out.size F.size,λq hq hne hqq=>?_⟩
       have e1:=HKw.out.block q hq hne hqq;have hcbN:=HcbN.out;rw[ag q (by omega),F.block q (by have:=HSZ.out;omega) (λe=>by omega) (hqq.imp id λhn=>by unfold JC at hn ⊢;rw[e1];exact hn),e1]
      ·intro B hLat key hks aj
       have hrowZ:B9 Z9 w.heap.size 131 11 (.slice (some ⟨cb,0,none⟩) ps.length cc) ps.length (CU p ps pv nx):=ad.at λq hq=>let ⟨_,ho⟩:=ad.obj hq;ag q (af ho (by decide));have hCZ:Dt Z9 bh (p.hs.length*1200) (Fu V keys p.hs):=hCw.at (ag bh (λe=>by
        obtain⟨es,P,z⟩:=hCw.obj;rw[e,H]at z;cases z))
       have hMZ:DC w.heap.size Z9 bv (p.hs.length*72000) (EG V p ps keys p.hs):=hMw.at (ag bv (λe=>by
        obtain⟨es,P,z⟩:=hMw.obj;rw[e,H]at z;cases z)) λq cs _ _ ho=>ag q (af ho (by decide))
       have hNs:=U.out;refine S6 d w.heap.size w.heap.size (p.hs.length*1200) (p.hs.length*72000) p ps V L (some ⟨cb,0,none⟩) cc bh bv pv nx (Fu V keys p.hs) (EG V p ps keys p.hs) key B (hrowZ.later hLat (by decide) (Aj _)) HPV.out (hCZ.later hLat hNs.1) (hMZ.later hLat hNs.2.1) hks ?_ hps λj M=>?_
       ·rw[RG HKd.out aj]
        exact RV
       have S:BS ps j∈ps:=by rw[CL M];exact AW M
       have hfk : ¬BX p.fs.length (De p) (BT (BS ps j))<0:=HAF.out _ S;have hix:=(E4 (p:=λj9=>eqs (De p j9).name (BT (BS ps j))) hfk).1;obtain⟨b9,o9,-,-,-,-,hg9⟩:=(HPt.out w0 (Aq _ _)).owners.2 _ (by rw[HOS.out];exact hix);have hg9:Jp (Dd p (BT (BS ps j))):=hg9;have hkd:=HKp.out _ hix;have hkd:(EQ p (BT (BS ps j))).kind=1\/(EQ p (BT (BS ps j))).kind=2\/(EQ p (BT (BS ps j))).kind=3:=hkd;have hvp:=Iw HGP.out HAF.out S aj;refine⟨hg9.2.2,hg9.1,hg9.2.1,hkd,CR V (Dd p (BT (BS ps j))) keys,GZ V L d (Du L (EQ p (BT (BS ps j))).type) (subs (BS ps j)),λx hx=>?_,?_⟩
       ·rw[hvp]at hx
        by_cases hh:Dk (V (Dd p (BT (BS ps j))).svc.toNat) (Dd p (BT (BS ps j))).type key=true
        ·rw[Af hh]at hx
         cases hx;obtain⟨h9,hm9,es9,et9⟩:=HGP.out.home _ hfk;have hin:∀q,q<(F8 (CC (V (Dd p (BT (BS ps j))).svc.toNat) (Dd p (BT (BS ps j))).type key) (Dd p (BT (BS ps j))).field).nk->(F8 (CC (V (Dd p (BT (BS ps j))).svc.toNat) (Dd p (BT (BS ps j))).type key) (Dd p (BT (BS ps j))).field).K q∈CR V (Dd p (BT (BS ps j))) keys:=λq hq=>by
          unfold CR;refine Fb.2 (List.mem_flatMap.2 ⟨key,aj,?_⟩);unfold EM;rw[Af hh];exact List.mem_map.2 ⟨q,by simpa using hq,rfl⟩
         refine⟨?_,λh1 h2=>?_,hin⟩
         ·obtain⟨s9,hs9,es8,m⟩:=HGP.out.r.owner _ hfk
          have es7:(Dd p (BT (BS ps j))).svc.toNat=s9:=by rw[es8];simp
          rw[es7]at hh ⊢;obtain⟨m9,-,em9,-,g9,-,hr9⟩:=m key hh;rw[em9];exact hr9.few
         ·have hne:CR V (Dd p (BT (BS ps j))) keys≠[]:=λe=>by
           have:=hin 0 h2;rw[e]at this;cases this
          obtain⟨Ni,q1,q2,q3,q4⟩:=HNxA.out j M h1 hne;have hcbN:=HcbN.out;have hl1:Later Ni wr B:=Later.trans ⟨by rw[hsz];exact Aj _,λq hN _ _=>ag q (by omega)⟩ (hLat.mono q1);exact(q4.step hl1).mono q1
        ·rw[Ae hh]at hx;cases hx
       ·rw[hvp]
        unfold Ki UE
        by_cases hh:Dk (V (Dd p (BT (BS ps j))).svc.toNat) (Dd p (BT (BS ps j))).type key=true
        ·rw[Af hh,Af hh]
         unfold Ps Uo;show (if _ then _ else _)=_
         by_cases k1:(EQ p (BT (BS ps j))).kind=1
         ·rw[Af k1,Af k1]
         ·rw[Ae k1,Ae k1]
          unfold To GZ;rw[Gl]
        ·rw[Ae hh,Ae hh]
         rfl
     clear F ad hG hNx ah ae H hKw hMw hCw hXN hNY hnl hnr hXs hnv hnh
     go_wp2_with fail
     obtain⟨e1,e2,e3⟩:=y.out (.slice (some ⟨cb,0,none⟩) ps.length cc) (.map (some bh)) (.map (some bv));exact At (v:=.agg #[.slice (some ⟨cb,0,none⟩) ps.length cc,.map (some bh),.map (some bv)]) (by simp[results,Tryz.results22,go_sem,x0,x1,x2]) rfl ⟨⟨some ⟨cb,0,none⟩,ps.length,cc,some bh,some bv⟩,rfl,e1,e2,e3⟩
theorem Qs(N0 bg:Nat)(a:World)(la:Option Addr)(n cap:Nat)(pa:Option Addr)(pn pc:Nat)(V:Nat->LServ)(L:List PPart)(b:AskEnv N0 bg a la n cap (.slice pa pn pc) V L):∀d,QA N0 bg a la n cap pa pn pc V L d
 | 0=>Th N0 bg a la n cap pa pn pc V L
 | d+1=>SY N0 bg a la n cap pa pn pc V L b d (Qs N0 bg a la n cap pa pn pc V L b d)
end Go.Proofs.YtjjggefmmeminabGreat
