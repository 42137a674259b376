import Derived.Test.YtjjggefmmeminabGreatChSee
set_option maxRecDepth 100000
set_option maxHeartbeats 1000000
namespace Go.Proofs.YtjjggefmmeminabGreat
open Go.RowKit Go.Sort
structure Keep (Z:Nat->Prop) (w w':World):Prop where
 os:w'.os=w.os
 tape:w'.tape=w.tape
 output:w'.output=w.output
 size:w.heap.size<=w'.heap.size
 block:∀b,Z b->w'.heap[b]? = w.heap[b]?
theorem Keep.refl(Z:Nat->Prop)(w:World):Keep Z w w:=⟨rfl,rfl,rfl,Aj _,λ_ _=>rfl⟩
theorem Keep.trans{Z:Nat->Prop}{a b c:World}(h:Keep Z a b)(k:Keep Z b c):Keep Z a c :=
 ⟨k.os.trans h.os,k.tape.trans h.tape,k.output.trans h.output,Am h.size k.size,λi hi=>(k.block i hi).trans (h.block i hi)⟩
theorem Keep.mono{Z a:Nat->Prop}{w w':World}(h:Keep Z w w')(c:∀b,a b->Z b):Keep a w w':=⟨h.os,h.tape,h.output,h.size,λb hb=>h.block b (c b hb)⟩
theorem Keep.of{Z:Nat->Prop}{w w':World}{B:Nat}(h:Below B w w')(a:∀b,Z b->b<B):Keep Z w w':=⟨h.os,h.tape,h.output,h.size,λb hb=>h.block b (a b hb)⟩
theorem Keep.below{Z:Nat->Prop}{w w':World}{B:Nat}(h:Keep Z w w')(a:∀b,b<B->Z b):Below B w w':=⟨h.os,h.tape,h.output,h.size,λb hb=>h.block b (a b hb)⟩
theorem Keep.grown{Z:Nat->Prop}{w w':World}{a:Option Nat}(h:w.grownBy w' a)(c:∀b,Z b->b<w.heap.size)(d:∀b,a=some b->¬Z b):Keep Z w w' :=
 ⟨h.os,h.tape,h.output,h.size,λb hb=>h.block b (c b hb) (λe=>d b e.symm hb)⟩
theorem Keep.set{Z:Nat->Prop}(w:World)(p:Addr)(v:Value)(a : ¬Z p.block):Keep Z w (w.setCell p v) :=
 ⟨rfl,rfl,rfl,by simp,λb hb=>Al _ _ _ _ (λe=>a (by rw[<-e];exact hb))⟩
theorem Keep.cell{Z:Nat->Prop}{w w':World}(h:Keep Z w w'){p:Addr}(a:Z p.block):w'.cell? p=w.cell? p:=Aw (h.block _ a)
end Go.Proofs.YtjjggefmmeminabGreat
namespace Go.Proofs.YtjjggefmmeminabGreat
open Go.RowKit Go.Sort Go.PlainAid
structure LServ where
 ta:Option Addr
 nt:Nat
 tcap:Nat
 T:Nat->LType
 ca:Option Addr
 nc:Nat
 ccap:Nat
 C:Nat->PChange
 xa:Option Addr
 nx:Nat
 xcap:Nat
 X:Nat->LThing
structure ServOk (w:World) (s:LServ):Prop where
 types:Cs w s.ta s.nt s.T
 changes:EI w s.ca s.nc s.C
 things:CZ w s.xa s.nx s.X
 tcap:s.nt<=s.tcap
 xcap:s.nx<=s.xcap
theorem ServOk.kept{w w':World}{s:LServ}(h:ServOk w s)(hB:Below w.heap.size w w'):ServOk w' s:=⟨h.types.kept hB,h.changes.kept hB,h.things.kept hB,h.tcap,h.xcap⟩
def B7 (s:LServ):Nat->PSeen:=Hu s.nt (DK s.T) s.C s.nc
def JV (s:LServ):Int × Int:=EZ s.nt s.T s.nc s.C
theorem Seens.keep{w w':World}{base n:Nat}{v:Value}{fv a:Nat->Value}{S:Nat->PSeen}(h:Seens w base v n fv a S)(hk:∀b,base<=b->b<w.heap.size->w'.heap[b]? = w.heap[b]?):Seens w' base v n fv a S :=
 ⟨h.nmax,h.row.at λk hb=>hk k (h.row.lt hb).1 (h.row.lt hb).2,λi hi=>(h.fields i hi).at λk hb=>hk k ((h.fields i hi).lt hb).1 ((h.fields i hi).lt hb).2,λi hi=>(h.owns i hi).at λk hb=>hk k ((h.owns i hi).lt hb).1 ((h.owns i hi).lt hb).2,h.fapart,h.oapart,h.good⟩
def Sz (s:LServ):Value:=.agg #[.slice s.ta s.nt s.tcap,.slice s.ca s.nc s.ccap,.slice s.xa s.nx s.xcap]
structure ServAt (w:World) (b o:Nat) (s:LServ):Prop where
 c0:w.cell? ⟨b,o,none⟩=some (.slice s.ta s.nt s.tcap)
 c1:w.cell? ⟨b,o+1,none⟩=some (.slice s.ca s.nc s.ccap)
 c2:w.cell? ⟨b,o+2,none⟩=some (.slice s.xa s.nx s.xcap)
 ok:ServOk w s
def Dc (w:World) (a:Option Addr) (n:Nat) (V:Nat->LServ):Prop:=n<=maxLen/\∀i,i<n->∃b o,a=some ⟨b,o,none⟩/\ServAt w b (o+i*3) (V i)
theorem Dc.kept{w w':World}{a:Option Addr}{n:Nat}{V:Nat->LServ}(h:Dc w a n V)(hB:Below w.heap.size w w'):Dc w' a n V :=
 ⟨h.1,λi hi=>let ⟨b,o,e,s⟩:=h.2 i hi;⟨b,o,e,BR hB s.c0,BR hB s.c1,BR hB s.c2,s.ok.kept hB⟩⟩
def CM (s:LServ):Int:=if (JV s).1≠0 then (JV s).1 else (Cu s.nt s.T s.nx s.X).1
def DE (n:Nat) (V:Nat->LServ):Int × Int:=if 5<n then (4,0) else CA n (λi=>CM (V i))
theorem I6(s:LServ)(w:World)(hs:ServOk w s):Calls Tryz.prog 55 #[Sz s] w λe w'=>e= .returned (.int .i64 (CM s))/\Below w.heap.size w w':=by
 have F:=FZ;have i:=Aa hs;clear hs;unfold Sz;generalize j:w.alloc (Obj.cells #[.slice s.ta s.nt s.tcap,.slice s.ca s.nc s.ccap,.slice s.xa s.nx s.xcap] 81)=W;have c:Below w.heap.size w W:=by rw[<-j];exact BW _ _
 have A:W.cell? ⟨w.heap.size,0,none⟩=some (.slice s.ta s.nt s.tcap):=by rw[<-j,Ac _ _ _ _ rfl];rfl
 have G:W.cell? ⟨w.heap.size,1,none⟩=some (.slice s.ca s.nc s.ccap):=by rw[<-j,Ac _ _ _ _ rfl];rfl
 have b2:W.cell? ⟨w.heap.size,2,none⟩=some (.slice s.xa s.nx s.xcap):=by rw[<-j,Ac _ _ _ _ rfl];rfl
 have b:=QG s.ta s.ca s.nt s.tcap s.nc s.ccap s.T s.C W (i.out.types.kept c) (i.out.changes.kept c) i.out.tcap;have k:=Aa c;clear c
 go_enter Tryz.func55,Tryz.ntmps55
 go_wp2_with fail
 clear j;refine b.mono ?_;clear b;rintro e o ⟨⟨u,rfl,l,g⟩,a⟩;have p:∃q B v,u= .slice q B v:=by
  by_cases h:(EZ s.nt s.T s.nc s.C).1=0
  ·obtain⟨fv,I,hS⟩:=g h
   obtain⟨q,v,e,-⟩:=hS.slice;exact⟨_,_,_,e⟩
  ·exact⟨_,_,_,l h⟩
 obtain⟨q,B,v,rfl⟩:=p;clear l g;have D:Hid (CM s=if (EZ s.nt s.T s.nc s.C).1≠0 then (EZ s.nt s.T s.nc s.C).1 else (Cu s.nt s.T s.nx s.X).1):=rfl
 generalize EZ s.nt s.T s.nc s.C=r at *;unfold Dj;generalize E:o.alloc (Obj.cells #[.int .i64 r.1,.int .i64 r.2] 39)=X;have d:Below o.heap.size o X:=by rw[<-E];exact BW _ _
 have d0:X.cell? ⟨o.heap.size,0,none⟩=some (.int .i64 r.1):=by rw[<-E,Ac _ _ _ _ rfl];rfl
 have A:=BR (a.trans (d.mono a.size)) A;have b2:=BR (a.trans (d.mono a.size)) b2;have m:Hid (Below w.heap.size w X):=k.out.trans ((a.trans (d.mono a.size)).mono k.out.size);clear d a G
 by_cases h0:r.1=0
 case neg =>
  have hb:(r.1 != 0)=true:=by simpa using h0
  have x:Hid (CM s=r.1):=by rw[D.out,Af h0];rfl
  clear h0
  go_wp2_with fail
  go_ret;exact⟨by rw[x.out];rfl,m.out⟩
 have hb:(r.1 != 0)=false:=by simpa using h0
 have x:Hid (CM s=(Cu s.nt s.T s.nx s.X).1):=by rw[D.out,Ae (λh=>h h0)];rfl
 clear h0;have b:=PK s.ta s.xa s.nt s.tcap s.nx s.xcap s.T s.X X (i.out.types.kept m.out) (i.out.things.kept m.out) i.out.xcap
 go_wp2_with fail
 refine b.mono ?_;clear b;rintro e H ⟨rfl,n⟩;have z:Hid (Below w.heap.size w H):=m.out.trans (n.mono m.out.size);clear n;generalize Cu s.nt s.T s.nx s.X=y at *;unfold Dj
 go_wp2_with fail
 go_ret;exact⟨by rw[x.out];rfl,z.out⟩
theorem KV(a:Option Addr)(n cap K:Nat)(x:Array Value)(g:Nat->Int)(w:World)(I:(Nat->Prop)->Nat->World->Prop)(hn:n<=9223372036854775807)(eK:∀args w,(callFunc K args).run Tryz.prog w= .ok (.enter K args) w)(o:∀(Z:Nat->Prop) (i:Nat) (d:World),(∀b,Z b->b<d.heap.size)->i<n->I Z i d->Calls Tryz.prog K (#[.int .i64 (i:Int)]++x) d λe w'=>e= .returned (.int .i64 (g i))/\(g i=0->I Z (i+1) w')/\Keep Z d w')(y:∀(Z:Nat->Prop) (i:Nat) (d F:World),Below d.heap.size d F->I Z i d->I (λb=>Z b\/(d.heap.size<=b/\b<F.heap.size)) i F)(Z:Nat->Prop)(p:∀(Y:Nat->Prop) (i:Nat) (d F:World) (B:Nat) (u v:Int),(∀b,Z b->Y b)->¬Z B->w.heap.size<=B->Boxed d F B u v->I Y i d->I Z i F)(P:∀b,Z b->b<w.heap.size)(h0:I Z 0 w) :
  Calls Tryz.prog 28 #[.slice a n cap,.func (.func K) #[] x] w λe w'=>e= .returned (Dj (CA n g))/\((CA n g).1=0->I Z n w')/\Keep Z w w':=by
 generalize Q:w.alloc (Obj.cells #[.int .i64 0,.int .i64 0] 39)=W;have s:Below w.heap.size w W:=by rw[<-Q];exact BW _ _
 have z:W.heap[w.heap.size]? = some (.cells #[.int .i64 0,.int .i64 0] 39 (0,0)):=by rw[<-Q];exact Ap _ _
 obtain⟨Y,q⟩:∃Y:Nat->Prop,Y=λb=>Z b\/(w.heap.size<=b/\b<W.heap.size):=⟨_,rfl⟩;have R:Hid (I Y 0 W):=by rw[q];exact y Z 0 w W s h0
 have A:Hid (∀b,Z b->Y b):=λb hb=>by rw[q];exact .inl hb
 have G:Hid (Y w.heap.size):=by rw[q];exact .inr ⟨Aj _,Ag z⟩
 have S:Hid (∀b,Y b->b<W.heap.size):=λb hb=>by
  rw[q]at hb;rcases hb with hb|hb
  ·exact Ah (P b hb) s.size
  ·exact hb.2
 have H:Hid (Keep Z w W):=Keep.of s P;have r:Hid (¬Z w.heap.size):=λh=>by have:=P _ h;omega
 have T:=Aa z;have U:=Aa o;have V:=Aa p;clear o y p s z h0 q P
 go_enter Tryz.func28,Tryz.ntmps28
 go_wp2_with fail
 clear Q
 go_loopw [9] (λi wr => ∃k:Nat,k<=n/\i= .int .i64 k/\Hid (∀j,j<k->g j=0)/\I Y k wr/\Keep Y W wr) (λi _=>n - (intOf i).toNat)
 case atStart=>exact⟨0,Ai _,rfl,(λj X=>absurd X (Ak _)),R.out,Keep.refl _ _⟩
 case round =>
  obtain⟨k,hk,rfl,hb,hI,hK⟩:=hrel;have J:=Aa hI;have HK:=Aa hK;have m:=(hK.block _ G.out).trans T.out;clear hI hK
  by_cases L:k<n
  ·have M:=U.out Y k wr (λb hb=>Ah (S.out b hb) HK.out.size) L J.out
   go_wp2_with fail
   refine M.mono ?_;clear M;rintro e d ⟨rfl,N,C⟩;have D:=(C.block _ G.out).trans m;have HI1:=Aa N;have O:Hid (Keep Y W d):=HK.out.trans C;clear N C
   by_cases c:g k=0
   ·have hb2:Hid (∀j,j<k+1->g j=0):=λj X=>by
     rcases Nat.lt_succ_iff_lt_or_eq.1 X with h|h
     ·exact hb j h
     ·rw[h];exact c
    have HI2:=Aa (HI1.out c);have hpb:(g k != 0)=false:=by simpa using c
    clear c D m
    go_wp2
    go_roundw
    case rel=>exact⟨k+1,by omega,by go_num,hb2,HI2.out,O.out⟩
    case measure=>simp[intOf];omega
   ·have l:Hid (CA n g=(g k,(k:Int))):=Do L c hb
    have HPK:=Aa c;have hpb:(g k != 0)=true:=by simpa using c
    obtain⟨d0,d1,z0,z1⟩:=Dz D;have E:Hid (Keep Z w ((d.setCell ⟨w.heap.size,0,none⟩ (.int .i64 (g k))).setCell ⟨w.heap.size,1,none⟩ (.int .i64 (k:Int)))):=(H.out.trans (O.out.mono A.out)).trans ((Keep.set _ _ _ r.out).trans (Keep.set _ _ _ r.out));clear c D m
    go_wp2_with fail
    exact At (v:=.agg #[.int .i64 (g k),.int .i64 (k:Int)]) (by simp[results,Tryz.results28,go_sem,d0,d1]) rfl ⟨by rw[l.out];rfl,λh=>absurd (by rw[l.out]at h;exact h) HPK.out,E.out⟩
  ·have hkn:k=n:=by omega
   subst hkn;have l:Hid (CA k g=(0,0)):=Dm hb.out;obtain⟨d0,d1,z0,z1⟩:=Dz m;have E:Hid (Keep Z w ((wr.setCell ⟨w.heap.size,0,none⟩ (.int .i64 0)).setCell ⟨w.heap.size,1,none⟩ (.int .i64 0))):=(H.out.trans (HK.out.mono A.out)).trans ((Keep.set _ _ _ r.out).trans (Keep.set _ _ _ r.out));have HIN:Hid (I Z k ((wr.setCell ⟨w.heap.size,0,none⟩ (.int .i64 0)).setCell ⟨w.heap.size,1,none⟩ (.int .i64 0))):=V.out Y k wr _ w.heap.size 0 0 A.out r.out (Aj _) (LY m) J.out;clear m
   go_wp2_with fail
   exact At (v:=.agg #[.int .i64 0,.int .i64 0]) (by simp[results,Tryz.results28,go_sem,d0,d1]) rfl ⟨by rw[l.out];rfl,λ_=>HIN.out,E.out⟩
theorem Tryz.e54:∀args w,(callFunc 54 args).run Tryz.prog w= .ok (.enter 54 args) w:=AN Tryz.func54 (by kernel_rfl) rfl
theorem NF(a:Option Addr)(n cap i bl:Nat)(V:Nat->LServ)(w:World)(hS:Dc w a n V)(j:w.cell? ⟨bl,0,none⟩=some (.slice a n cap))(hi:i<n) :
  Calls Tryz.prog 54 #[.int .i64 (i:Int),.pointer (some ⟨bl,0,none⟩)] w λe w'=>e= .returned (.int .i64 (CM (V i)))/\Below w.heap.size w w':=by
 obtain⟨b,o,rfl,hs⟩:=hS.2 i hi;have c0:=hs.c0;have c1:=hs.c1;have c2:=hs.c2;have c:=I6 (V i) w hs.ok;unfold Sz at c;have g:(i:Int)<(n:Int):=by omega
 have h:(0:Int)<=(i:Int):=by omega
 clear hs hS
 go_enter Tryz.func54,Tryz.ntmps54
 go_wp2_with fail
 refine c.mono ?_;clear c;rintro e k ⟨rfl,d⟩;clear c0 c1 c2
 go_wp2_with fail
 go_ret;exact⟨rfl,d⟩
theorem Pc(a:Option Addr)(n cap:Nat)(V:Nat->LServ)(w:World)(hS:Dc w a n V) :
  Calls Tryz.prog 27 #[.slice a n cap] w λe w'=>e= .returned (Dj (DE n V))/\Below w.heap.size w w':=by
 have D:=zm;have hn:n<=9223372036854775807:=hS.1;have E:=Aa hS;clear hS;generalize o:(w.alloc (Obj.cells #[.slice a n cap] 22)).alloc (Obj.cells #[.int .i64 0,.int .i64 0] 39)=W;have p:Below w.heap.size w W:=by rw[<-o];exact CN _ _ _
 have q:W.heap[w.heap.size]? = some (.cells #[.slice a n cap] 22 (0,0)):=by rw[<-o];exact(A5 _ _ _ (by simp)).trans (Ap _ _)
 have g:W.heap[w.heap.size+1]? = some (.cells #[.int .i64 0,.int .i64 0] 39 (0,0)):=by
  rw[<-o,show w.heap.size+1=(w.alloc (Obj.cells #[.slice a n cap] 22)).heap.size by simp];exact Ap _ _
 have C:W.cell? ⟨w.heap.size,0,none⟩=some (.slice a n cap):=by simp[World.cell?,q]
 have j:=Aa p;clear p
 by_cases x:5<n
 ·have hF:Hid (DE n V=(4,0)):=by unfold DE;rw[Af x];rfl
  have y:(5:Int)<(n:Int):=by omega
  obtain⟨d0,z,F,G⟩:=Dz g;have k:Hid (Below w.heap.size w ((W.setCell ⟨w.heap.size+1,0,none⟩ (.int .i64 4)).setCell ⟨w.heap.size+1,1,none⟩ (.int .i64 0))):=(j.out.setCell (BI _) _).setCell (BI _) _
  go_enter Tryz.func27,Tryz.ntmps27
  go_wp2_with fail
  clear o;exact At (v:=.agg #[.int .i64 4,.int .i64 0]) (by simp[results,Tryz.results27,go_sem,d0,z]) rfl ⟨by rw[hF.out];rfl,k.out⟩
 ·have y : ¬(5:Int)<(n:Int):=by omega
  have hF:Hid (DE n V=CA n (λi=>CM (V i))):=by unfold DE;rw[Ae x];rfl
  have c:=KV a n cap 54 #[.pointer (some ⟨w.heap.size,0,none⟩)] (λi=>CM (V i)) W (λ_ _ l=>Below W.heap.size W l) hn Tryz.e54
   (λZ i l H hi d=>(NF a n cap i w.heap.size V l ((E.out.kept j.out).kept d) (BR d C) hi).mono λe w' h=>⟨h.1,λ_=>d.trans (h.2.mono d.size),Keep.of h.2 H⟩)
   (λZ i l I hb d=>d.trans (hb.mono d.size)) (λb=>b<W.heap.size) (λY i l I B u v K J hB A d=>A.below d hB d.size) (λb hb=>hb) (Aq _ _)
  have c:Calls Tryz.prog 28 #[.slice a n cap,.func (.func 54) #[] #[.pointer (some ⟨w.heap.size,0,none⟩)]] W λe w'=>e= .returned (Dj (CA n λi=>CM (V i)))/\Below W.heap.size W w':=c.mono λe w' h=>⟨h.1,h.2.2.below λ_ h=>h⟩;clear x;generalize CA n (λi=>CM (V i))=r at *;unfold Dj at c
  go_enter Tryz.func27,Tryz.ntmps27
  go_wp2_with fail
  clear o;refine c.mono ?_;clear c;rintro e l ⟨rfl,m⟩;have s:=(m.block _ (Ag g)).trans g;obtain⟨d0,z,F,G⟩:=Dz s;have k:Hid (Below w.heap.size w ((l.setCell ⟨w.heap.size+1,0,none⟩ (.int .i64 r.1)).setCell ⟨w.heap.size+1,1,none⟩ (.int .i64 r.2))):=((j.out.trans (m.mono j.out.size)).setCell (BI _) _).setCell (BI _) _;clear m s g q C
  go_wp2_with fail
  exact At (v:=.agg #[.int .i64 r.1,.int .i64 r.2]) (by simp[results,Tryz.results27,go_sem,d0,z]) rfl ⟨by rw[hF.out];rfl,k.out⟩
end Go.Proofs.YtjjggefmmeminabGreat
