import Derived.Test.YtjjggefmmeminabGreatJMn
import Derived.Test.YtjjggefmmeminabGreatJOpen
import Derived.Laws.NewBlocks
set_option maxRecDepth 100000
set_option maxHeartbeats 1000000
namespace Go.Proofs.YtjjggefmmeminabGreat
open Go.ChangeShapes Go.WideShapes Go.ChangeAt Go.RowKit Go.Deep Go.Sort Go.PlainAid
def CB (w:World):(d:Nat)->Option Addr->List (Cg d)->Prop
 | 0,_,_=>True
 | d+1,a,L=>L.length<=maxLen/\∀i,i<L.length->∃b o A C,a=some ⟨b,o,none⟩/\w.cell? ⟨b,o+i*3,none⟩=some (.string (Di (BS L i)))/\w.cell? ⟨b,o+i*3+1,none⟩=some (.string (BT (BS L i)))/\w.cell? ⟨b,o+i*3+2,none⟩=some (.slice A (subs (BS L i)).length C)/\(subs (BS L i)).length<=C/\BY (Di (BS L i))/\BY (BT (BS L i))/\CB w d A (subs (BS L i))
theorem CB.max{w:World}{d:Nat}{a:Option Addr}{L:List (Cg d)}(h:CB w d a L):L.length<=maxLen:=by
 cases d with
 |zero=>rw[MN L];exact Ai _
 |succ d=>exact h.1
theorem CB.kept{w w':World}(hB:Below w.heap.size w w'):∀{d:Nat} {a:Option Addr} {L:List (Cg d)},CB w d a L->CB w' d a L
 | 0,_,_,_=>trivial
 | _+1,_,_,h=>⟨h.1,λi hi=>let ⟨b,o,A,C,e,c0,c1,c2,hc,s0,s1,hs⟩:=h.2 i hi;⟨b,o,A,C,e,BR hB c0,BR hB c1,BR hB c2,hc,s0,s1,hs.kept hB⟩⟩
theorem CB.less{w:World}{d:Nat}{a:Option Addr}{L:List (Cg d)}(h:CB w d a L)(k:Nat):CB w d a (L.take k):=by
 cases d with
 |zero=>trivial
 |succ d =>
  refine⟨Am (by rw[Bb];omega) h.1,λi hi=>?_⟩;have h1:i<k/\i<L.length:=by rw[Bb]at hi;omega
  have e:BS (L.take k) i=BS L i:=by
   rw[CL hi,CL h1.2,List.getElem_take]
  rw[e];exact h.2 i h1.2
theorem CB.none{w:World}{d:Nat}{a:Option Addr}:CB w d a []:=by
 cases d with
 |zero=>trivial
 |succ d=>exact⟨Ai _,λi hi=>absurd hi (Ak _)⟩
def EX (w:World) (a:Option Addr) (n:Nat) (P:Nat->LPart):Prop:=n<=maxLen/\∀i,i<n->∃b o,a=some ⟨b,o,none⟩/\w.cell? ⟨b,o+i*4,none⟩=some (.string (P i).name)/\w.cell? ⟨b,o+i*4+1,none⟩=some (.slice (P i).fa (P i).nf (P i).fcap)/\w.cell? ⟨b,o+i*4+2,none⟩=some (.slice (P i).oa (P i).no (P i).ocap)/\w.cell? ⟨b,o+i*4+3,none⟩=some (.slice (P i).ha (P i).nh (P i).hcap)/\BY (P i).name/\Cl w (P i).fa (P i).nf (P i).F
theorem EX.kept{w w':World}{a:Option Addr}{n:Nat}{P:Nat->LPart}(h:EX w a n P)(hB:Below w.heap.size w w'):EX w' a n P :=
 ⟨h.1,λi hi=>let ⟨b,o,e,c0,c1,c2,c3,s0,hF⟩:=h.2 i hi;⟨b,o,e,BR hB c0,BR hB c1,BR hB c2,BR hB c3,s0,hF.kept hB⟩⟩
theorem Tryz.cells72:Tryz.prog.cellsOf 72=3:=by kernel_rfl
theorem Tryz.cells23:Tryz.prog.cellsOf 23=1:=by kernel_rfl
theorem Tryz.cells25:Tryz.prog.cellsOf 25=3:=by kernel_rfl
theorem Hh{α:Type}(n:Nat)(F:Nat->α):(List.ofFn (λi:Fin n=>F i.1)).length=n:=by simp
theorem Qe{d n:Nat}{F:Nat->Cg (d+1)}{i:Nat}(h:i<n):BS (List.ofFn (λi:Fin n=>F i.1)) i=F i:=by
 rw[CL (by rw[Hh];exact h)];simp
section
variable {H:Type} {enc:TypeId × Value->H} {w:World} {base:Nat} {spare:Nat->Bool} {held:Bool}
theorem O0:∀(k d:Nat) {y:List Value} {x:DataW H × List MemPlace},d<=2*k+1->DataW.trod enc Tryz.prog w base spare held d 23 y=some x ->
  ∃(a:Option Addr) (cap:Nat) (L:List (Cg k)),y = [.slice a L.length cap]/\L.length<=cap/\CB w k a L:=by
 intro k
 induction k with
 |zero =>
  intro d y x hk h;rcases DataW.trod_slice Tryz.underlying23 h with⟨rfl,-⟩|⟨a,len,cap,q,rest,n,rfl,rfl,-,hb,I,M,s,g,-,-⟩
  ·exact⟨none,0,[],rfl,Aj _,CB.none⟩
  ·have h0:len=0:=by
    rcases Nat.eq_zero_or_pos len with h0|h0
    ·exact h0
    ·have h1:=g 0 h0
     rw[AU (by omega)]at h1;obtain⟨cs',h2,h3⟩:=Option.bind_eq_some_iff.1 h1;obtain⟨J,m,e,-⟩:=DataW.trod_struct Tryz.underlying72 h3;omega
   exact⟨some a,cap,[],by rw[h0];rfl,Ai _,CB.none⟩
 |succ k ih =>
 intro d y x hk h;rcases DataW.trod_slice Tryz.underlying23 h with⟨rfl,-⟩|⟨a,len,cap,q,rest,n,rfl,rfl,-,hb,I,M,s,g,-,-⟩
 ·exact⟨none,0,[],rfl,Aj _,CB.none⟩
 rw[Tryz.cells72]at g
 haveI:Inhabited (Cg (k+1)):=⟨dP⟩
 obtain⟨F,hF⟩:=choose_lt (α:=Cg (k+1)) (n:=len) (p:=λi p => ∃A C,w.cells? base (a.add (i*3)) 3=some [.string (Di p),.string (BT p),.slice A (subs p).length C]/\(subs p).length<=C/\BY (Di p)/\BY (BT p)/\CB w k A (subs p)) (λi hi=>by
  have h1:=g i hi;rw[AU (by omega)]at h1;obtain⟨cs',h2,h3⟩:=Option.bind_eq_some_iff.1 h1;obtain⟨J,m,rfl,-,u,z,hf⟩:=DataW.trod_struct Tryz.underlying72 h3;rw[Tryz.cells72]at u;obtain⟨c0,c1,c2,rfl⟩:=Nk u;have N:J.length=3:=z;have B:=hf 0 _ rfl;have f1:=hf 1 _ rfl;have D:=hf 2 _ rfl;rw[AU (by omega)]at B f1 D;simp[Tryz.cells9,Tryz.cells23]at B f1 D;obtain⟨s0,K,-,O⟩:=Ba Tryz.underlying9 B;obtain⟨s1,e1,-,P⟩:=Ba Tryz.underlying9 f1;obtain⟨A,C,l,e2,Q,R⟩:=ih m (by omega) D;simp at K e1 e2;exact⟨Sd s0 s1 l,A,C,by rw[h2,K,e1,e2];rfl,Q,O,P,R⟩)
 refine⟨some a,cap,List.ofFn (λi:Fin len=>F i.1),by rw[Hh],by rw[Hh];exact I,by rw[Hh];omega,λi hi=>?_⟩;rw[Hh]at hi;rw[Qe hi];obtain⟨A,C,h1,h2,h3,h4,S⟩:=hF i hi;obtain⟨b,o,v⟩:=a;obtain⟨-,E,c⟩:=World.cells?_some h1;have r:v=none:=by
  obtain⟨U,V,T,-⟩:=hF 0 (by omega);obtain⟨-,G,j⟩:=World.cells?_some T;have h3:=j 0 (by decide);rw[AU (by omega)]at h3;simpa[Addr.add] using World.cell?_spot h3
 subst r;refine⟨b,o,A,C,rfl,?_,?_,?_,h2,h3,h4,S⟩
 ·have:=c 0 (by decide);rw[add_plain,add_plain]at this;simpa using this
 ·have:=c 1 (by decide);rw[add_plain,add_plain]at this;simpa using this
 ·have:=c 2 (by decide);rw[add_plain,add_plain]at this;simpa using this
end
end Go.Proofs.YtjjggefmmeminabGreat
namespace Go.Proofs.YtjjggefmmeminabGreat
open Go.ChangeShapes Go.WideShapes Go.ChangeAt Go.RowKit Go.Deep Go.Sort Go.PlainAid
section
variable {H:Type} {enc:TypeId × Value->H} {w:World} {base:Nat} {spare:Nat->Bool} {held:Bool}
end
end Go.Proofs.YtjjggefmmeminabGreat
namespace Go.Proofs.YtjjggefmmeminabGreat
open Go.RowKit Go.Sort Go.PlainAid
def Eo (w:World) (b:Nat) (k:Nat):Prop:=w.heap[b]? = some (.cells #[.int .i64 (k:Int)] 3 (0,0))
theorem Eo.cell{w:World}{b k:Nat}(h:Eo w b k):w.cell? ⟨b,0,none⟩=some (.int .i64 (k:Int)):=by simp[World.cell?,show w.heap[b]? = _ from h]
theorem Eo.free{w:World}{b k:Nat}(h:Eo w b k):w.frozen? ⟨b,0,none⟩=false:=by simp[World.frozen?,show w.heap[b]? = _ from h]
theorem Eo.lt{w:World}{b k:Nat}(h:Eo w b k):b<w.heap.size:=An h.cell
theorem Eo.set{w:World}{b k:Nat}(h:Eo w b k)(j:Nat):Eo (w.setCell ⟨b,0,none⟩ (.int .i64 (j:Int))) b j:=Ao w b 0 _ 3 _ h
theorem Eo.kept{w w':World}{b k:Nat}(h:Eo w b k)(hB:Below w.heap.size w w'):Eo w' b k:=(hB.block b h.lt).trans h
def Gk (d:Nat):Prop := ∀(a:Option Addr) (cap:Nat) (L:List (Cg d)) (deep Eu bc:Nat) (b w:World),CB b d a L->Below b.heap.size b w->Eo w bc Eu->b.heap.size<=bc->Eu<=60->deep<=9 ->
  Calls Tryz.prog 60 #[.slice a L.length cap,.int .i64 (deep:Int),.pointer (some ⟨bc,0,none⟩)] w λe w'=>e= .returned (.int .i64 (wL d deep Eu L).1)/\Eo w' bc (wL d deep Eu L).2/\Below b.heap.size b w'
theorem LA(d:Nat)(ih:Gk d)(p:Cg (d+1))(A:Option Addr)(C deep Eu bc:Nat)(b w:World)(hP:CB b d A (subs p))(hB:Below b.heap.size b w)(hb:Eo w bc Eu)(F:b.heap.size<=bc)(af:Eu<=60)(Q:deep<=8)(R:BY (Di p))(S:BY (BT p)) :
  Calls Tryz.prog 93 #[.agg #[.string (Di p),.string (BT p),.slice A (subs p).length C],.int .i64 (deep:Int),.pointer (some ⟨bc,0,none⟩)] w λe w'=>e= .returned (.int .i64 (wP d deep Eu p).1)/\Eo w' bc (wP d deep Eu p).2/\Below b.heap.size b w':=by
 have E:Hid (wP d deep Eu p=if 60<Eu+1 then (4,Eu+1) else if Dp p then (6,Eu+1) else if (subs p).isEmpty then (0,Eu+1) else wL d (deep+1) (Eu+1) (subs p)):=rfl
 generalize T:w.alloc (Obj.cells #[.string (Di p),.string (BT p),.slice A (subs p).length C] 72)=W;have y:Below w.heap.size w W:=by rw[<-T];exact BW _ _
 have G:W.heap[w.heap.size]? = some (.cells #[.string (Di p),.string (BT p),.slice A (subs p).length C] 72 (0,0)):=by rw[<-T];exact Ap _ _
 have o:=hb.kept y;have kc:=o.cell;have kf:=o.free;have V:w.heap.size≠bc:=by have:=hb.lt;omega
 generalize I:W.setCell ⟨bc,0,none⟩ (.int .i64 ((Eu+1:Nat):Int))=U;have z:Eo U bc (Eu+1):=by rw[<-I];exact o.set _
 have q:U.heap[w.heap.size]? = some (.cells #[.string (Di p),.string (BT p),.slice A (subs p).length C] 72 (0,0)):=by rw[<-I,Al _ _ _ _ V];exact G
 have J:Below b.heap.size b U:=by rw[<-I];exact(hB.trans (y.mono hB.size)).setCell F _
 have c0:U.cell? ⟨w.heap.size,0,none⟩=some (.string (Di p)):=by simp[World.cell?,q]
 have c1:U.cell? ⟨w.heap.size,1,none⟩=some (.string (BT p)):=by simp[World.cell?,q]
 have c2:U.cell? ⟨w.heap.size,2,none⟩=some (.slice A (subs p).length C):=by simp[World.cell?,q]
 have kU:=z.cell;have X:W.setCell ⟨bc,0,none⟩ (.int .i64 ((Eu:Int)+1))=U:=by rw[<-I];rfl
 have r:=C6 J;have B:=C6 z;clear I J z q G y hB hb o
 by_cases K:60<Eu+1
 ·have L:(60:Int)<(Eu:Int)+1:=by omega
  have c:Hid (wP d deep Eu p=(4,Eu+1)):=by rw[E.out,Af K];rfl
  go_enter Tryz.func93,Tryz.ntmps93
  go_wp2_with fail
  go_ret;exact⟨by rw[c.out];rfl,by rw[c.out];exact B.out,r.out⟩
 have L : ¬(60:Int)<(Eu:Int)+1:=by omega
 rw[Ae K]at E;have a:=Es (BT p) U S
 go_enter Tryz.func93,Tryz.ntmps93
 go_wp2_with fail
 refine a.mono ?_;clear a;rintro e M ⟨rfl,j⟩;clear X T kc kf;have k0:=BR j c0;have k2:=BR j c2;have g:Hid (Below b.heap.size b M):=r.out.trans (j.mono r.out.size);have s:=C6 (B.out.kept j);clear j r B c0 c1 c2 kU
 cases hn:Cb (BT p) with
 |false =>
  have c:Hid (wP d deep Eu p=(6,Eu+1)):=by rw[E.out,Af (by unfold Dp;rw[hn];rfl)];rfl
  clear hn
  go_wp2_with fail
  go_ret;exact⟨by rw[c.out];rfl,by rw[c.out];exact s.out,g.out⟩
 |true =>
  have HL:Hid (Ri (Di p)=true\/Cb (Di p)=true->wP d deep Eu p=if (subs p).isEmpty then (0,Eu+1) else wL d (deep+1) (Eu+1) (subs p)):=λh=>by
   rw[E.out,Ae];unfold Dp;rcases h with h|h<;>rw[hn,h]<;>simp
  have HX:Hid (Ri (Di p)=false->Cb (Di p)=false->wP d deep Eu p=(6,Eu+1)):=λh1 h2=>by
   rw[E.out,Af];unfold Dp;rw[hn,h1,h2];rfl
  have u:∀v,Below M.heap.size M v->(Ri (Di p)=true\/Cb (Di p)=true)->(subs p).length≠0->Calls Tryz.prog 60 #[.slice A (subs p).length C,.int .i64 ((deep:Int)+1),.pointer (some ⟨bc,0,none⟩)] v λe w'=>e= .returned (.int .i64 (wP d deep Eu p).1)/\Eo w' bc (wP d deep Eu p).2/\Below b.heap.size b w':=λv h2 D k=>by
   have Y : ¬(subs p).isEmpty=true:=λh=>k (by rw[List.isEmpty_iff.1 h];rfl);rw[HL.out D,Ae Y];exact ih A C (subs p) (deep+1) (Eu+1) bc b v hP (g.out.trans (h2.mono g.out.size)) (s.out.kept h2) F (by omega) (by omega)
  have l:(Ri (Di p)=true\/Cb (Di p)=true)->(subs p).length=0->wP d deep Eu p=(0,Eu+1):=λD k=>by
   rw[HL.out D,Af (by rw[BE];exact AC k)]
  have x:=C6 u;have m:=C6 l;have N:=Nc (Di p);clear hn E u l
  cases he:Ri (Di p) with
  |true =>
   rw[he]at N
   by_cases k:(subs p).length=0
   ·have c:=C6 (m.out (.inl he) k)
    clear he
    go_wp2_with fail
    go_ret;exact⟨by rw[c.out];rfl,by rw[c.out];exact s.out,g.out⟩
   ·have a:=x.out M (Aq _ _) (.inl he) k
    have Z:0<((subs p).length:Int):=by omega
    clear he k
    go_wp2_with fail
    refine a.mono ?_;clear a;rintro e v ⟨rfl,aa,ab⟩
    go_wp2_with fail
    go_ret;exact⟨rfl,aa,ab⟩
  |false =>
   rw[he]at N;have a:=Es (Di p) M R
   go_wp2_with fail
   refine a.mono ?_;clear a;rintro e v ⟨rfl,n⟩;have k2:=BR n k2;have O:Hid (Below b.heap.size b v):=g.out.trans (n.mono g.out.size);have P:=C6 (s.out.kept n);have ac:=C6 n;clear n
   cases i:Cb (Di p) with
   |false =>
    have c:=C6 (HX.out he i);clear he i
    go_wp2_with fail
    go_ret;exact⟨by rw[c.out];rfl,by rw[c.out];exact P.out,O.out⟩
   |true =>
    by_cases k:(subs p).length=0
    ·have c:=C6 (m.out (.inr i) k)
     clear he i
     go_wp2_with fail
     go_ret;exact⟨by rw[c.out];rfl,by rw[c.out];exact P.out,O.out⟩
    ·have a:=x.out v ac.out (.inr i) k
     have Z:0<((subs p).length:Int):=by omega
     clear he i k
     go_wp2_with fail
     refine a.mono ?_;clear a;rintro e w3 ⟨rfl,ad,ae⟩
     go_wp2_with fail
     go_ret;exact⟨rfl,ad,ae⟩
theorem IH(d:Nat)(R:∀S,d=S+1->Gk S):Gk d:=by
 intro a cap L deep Eu bc D w E hB hb F q G;have hn:L.length<=9223372036854775807:=E.max;have W:=C6 E;have I:=C6 hB;have J:=C6 hb;clear E hB hb
 by_cases K:8<deep
 ·have l:Hid (wL d deep Eu L=(3,Eu)):=by unfold wL;rw[Af K];rfl
  have M:(8:Int)<(deep:Int):=by omega
  go_enter Tryz.func60,Tryz.ntmps60
  go_wp2_with fail
  go_ret;exact⟨by rw[l.out];rfl,by rw[l.out];exact J.out,I.out⟩
 have M : ¬(8:Int)<(deep:Int):=by omega
 by_cases h0:L.length=0
 ·have l:Hid (wL d deep Eu L=(4,Eu)):=by unfold wL;rw[Ae K,Af (by rw[BE];exact AC h0)];rfl
  have N:((L.length:Int)==0)=true:=by rw[beq_iff_eq];omega
  clear h0
  go_enter Tryz.func60,Tryz.ntmps60
  go_wp2_with fail
  go_ret;exact⟨by rw[l.out];rfl,by rw[l.out];exact J.out,I.out⟩
 have N:((L.length:Int)==0)=false:=by rw[Bc];omega
 cases d with
 |zero=>exact absurd (by rw[MN L];rfl) h0
 |succ d =>
 have X:=C6 (R d rfl);have l:Hid (wL (d+1) deep Eu L=wR (d+1) deep Eu L):=by
  unfold wL;rw[Ae K,Ae (λh=>h0 (by rw[List.isEmpty_iff.1 h];rfl))];rfl
 clear R h0
 go_enter Tryz.func60,Tryz.ntmps60
 go_wp2_with fail
 go_loopw [17] (λi wr => ∃k c:Nat,k<=L.length/\i= .int .i64 k/\c<=60/\Hid (wR (d+1) deep Eu L=wR (d+1) deep c (L.drop k))/\Eo wr bc c/\Below D.heap.size D wr) (λi _=>L.length - (intOf i).toNat)
 case atStart=>exact⟨0,Eu,Ai _,rfl,q,rfl,J.out,I.out⟩
 case round =>
  obtain⟨k,c,hk,rfl,hc,O,m,g⟩:=hrel
  by_cases s:k<L.length
  ·obtain⟨b,o,A,C,ha,c0,c1,c2,Y,s0,s1,hs⟩:=(W.out).2 k s
   subst ha;have T:(k:Int)<(L.length:Int):=by omega
   have Z:(0:Int)<=(k:Int):=by omega
   have e0:=(g.cell (An c0)).trans c0;have e1:=(g.cell (An c1)).trans c1;have e2:=(g.cell (An c2)).trans c2;generalize u:wr.alloc (Obj.cells #[.string (Di (BS L k)),.string (BT (BS L k)),.slice A (subs (BS L k)).length C] 72)=V;have n:Below wr.heap.size wr V:=by rw[<-u];exact BW _ _
   have v:=LA d X.out (BS L k) A C deep c bc D V hs (g.trans (n.mono g.size)) (m.kept n) F hc (by omega) s0 s1;have v0:V.cell? ⟨wr.heap.size,0,none⟩=some (.string (Di (BS L k))):=by rw[<-u,Ac _ _ _ _ rfl];rfl
   have v1:V.cell? ⟨wr.heap.size,1,none⟩=some (.string (BT (BS L k))):=by rw[<-u,Ac _ _ _ _ rfl];rfl
   have v2:V.cell? ⟨wr.heap.size,2,none⟩=some (.slice A (subs (BS L k)).length C):=by rw[<-u,Ac _ _ _ _ rfl];rfl
   have U:Hid (wR (d+1) deep c (L.drop k)=if (wP d deep c (BS L k)).1≠0 then wP d deep c (BS L k) else wR (d+1) deep (wP d deep c (BS L k)).2 (L.drop (k+1))):=by rw[Hm s,J2];rfl
   have P:=C6 (Ub d deep c (BS L k) hc);clear c0 c1 c2 m g n hs Y s0 s1
   go_wp2_with fail
   clear u e0 e1 e2;refine v.mono ?_;clear v v0 v1 v2;rintro e w1 ⟨rfl,x,y⟩;generalize wP d deep c (BS L k)=r at *
   by_cases p:r.1=0
   ·have Q:(r.1 != 0)=false:=by simpa using p
    have j:Hid (wR (d+1) deep Eu L=wR (d+1) deep r.2 (L.drop (k+1))):=by rw[O.out,U.out,Ae (by simp[p])];rfl
    have z:=P.out.2 p;clear p
    go_wp2_with fail
    go_roundw
    case rel=>exact⟨k+1,r.2,by omega,by go_num,z,j,x,y⟩
    case measure=>simp[intOf];omega
   ·have Q:(r.1 != 0)=true:=by simpa using p
    have j:Hid (wL (d+1) deep Eu L=r):=by rw[l.out,O.out,U.out,Af p];rfl
    clear p
    go_wp2_with fail
    go_ret;exact⟨by rw[j.out];rfl,by rw[j.out];exact x,y⟩
  ·have B:k=L.length:=by omega
   have j:Hid (wL (d+1) deep Eu L=(0,c)):=by rw[l.out,O.out,B,List.drop_length,MZ];rfl
   clear B
   go_wp2_with fail
   go_ret;exact⟨by rw[j.out];rfl,by rw[j.out];exact m,g⟩
theorem H8:∀d,Gk d
 | 0=>IH 0 (λ_ h=>by omega)
 | d+1=>IH (d+1) (λa h=>by cases h;exact H8 d)
theorem OU(d:Nat)(type key:ByteArray)(a:Option Addr)(cap:Nat)(L:List (Cg d))(w:World)(v:CB w d a L)(q:BY type)(r:BY key) :
  Calls Tryz.prog 31 #[.agg #[.string type,.string key,.slice a L.length cap]] w λe w'=>e= .returned (.int .i64 (wA d type key L))/\Below w.heap.size w w':=by
 generalize s:w.alloc (Obj.cells #[.string type,.string key,.slice a L.length cap] 25)=W;have o:Below w.heap.size w W:=by rw[<-s];exact BW _ _
 have c:W.heap[w.heap.size]? = some (.cells #[.string type,.string key,.slice a L.length cap] 25 (0,0)):=by rw[<-s];exact Ap _ _
 have c0:W.cell? ⟨w.heap.size,0,none⟩=some (.string type):=by simp[World.cell?,c]
 have c1:W.cell? ⟨w.heap.size,1,none⟩=some (.string key):=by simp[World.cell?,c]
 have c2:W.cell? ⟨w.heap.size,2,none⟩=some (.slice a L.length cap):=by simp[World.cell?,c]
 have b:=Es type W q;have y:=C6 v;have k:=C6 o;clear v c o
 go_enter Tryz.func31,Tryz.ntmps31
 go_wp2_with fail
 clear s;refine b.mono ?_;clear b;rintro e x ⟨rfl,g⟩;have c1:=BR g c1;have c2:=BR g c2;have h:Hid (Below w.heap.size w x):=k.out.trans (g.mono k.out.size);clear g k c0
 cases hn:Cb type with
 |false =>
  have p:Hid (wA d type key L=6):=by unfold wA;rw[hn];rfl
  clear hn
  go_wp2_with fail
  go_ret;exact⟨by rw[p.out];rfl,h.out⟩
 |true =>
  have b:=Es key x r
  go_wp2_with fail
  refine b.mono ?_;clear b;rintro e n ⟨rfl,l⟩;have c2:=BR l c2;have i:Hid (Below w.heap.size w n):=h.out.trans (l.mono h.out.size);clear l h c1
  cases j:Cb key with
  |false =>
   have p:Hid (wA d type key L=6):=by unfold wA;rw[hn,j];rfl
   clear hn j
   go_wp2_with fail
   go_ret;exact⟨by rw[p.out];rfl,i.out⟩
  |true =>
   have p:Hid (wA d type key L=(wL d 1 0 L).1):=by unfold wA;rw[hn,j];rfl
   clear hn j;have m:Below n.heap.size n (n.alloc (Obj.cells #[.int .i64 0] 3)):=BW _ _;have z:w.heap.size<n.heap.size:=An c2;have b:=H8 d a cap L 1 0 n.heap.size w _ y.out (i.out.trans (m.mono i.out.size)) (Ap _ _) i.out.size (by omega) (by omega);have c2:=BR m c2;clear m
   go_wp2_with fail
   refine b.mono ?_;clear b;rintro e A ⟨rfl,-,u⟩
   go_wp2_with fail
   go_ret;exact⟨by rw[p.out];rfl,u⟩
end Go.Proofs.YtjjggefmmeminabGreat
