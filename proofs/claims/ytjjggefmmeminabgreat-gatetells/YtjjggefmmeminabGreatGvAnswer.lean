import Derived.Test.YtjjggefmmeminabGreatJSv
import Derived.Deep.CutRange
set_option maxRecDepth 100000
set_option maxHeartbeats 4000000
namespace Go.Proofs.YtjjggefmmeminabGreat
open Go.RowKit Go.Sort
theorem Tryz.e149:∀args w,(callFunc 149 args).run Tryz.prog w= .ok (.enter 149 args) w:=AN Tryz.func149 (by kernel_rfl) rfl
theorem En.cell{w w':World}{m n:Nat}{f : ByteArray->Option Int}(h:En w m n f)(hg:w.grownBy w' (some m)){p:Addr}{v:Value}(hc:w.cell? p=some v):w'.cell? p=some v:=by
 refine(Aw (w:=w) (hg.block p.block (An hc) λe=>?_)).trans hc;obtain⟨D,⟨b,a,h1,-⟩,-⟩:=h;cases e;simp[World.cell?,h1]at hc
theorem CF.grown{w w':World}{m n k:Nat}{f : ByteArray->Option Int}(h:En w m k f)(hg:w.grownBy w' (some m)){a:Option Addr}{K:Nat->ByteArray}(hk:CF w a n K):CF w' a n K :=
 ⟨hk.1,λi hi=>let ⟨b,o,e,hc,hs⟩:=hk.2 i hi;⟨b,o,e,h.cell hg hc,hs⟩⟩
theorem Hy{w w':World}{m:Nat}(hg:w.grownBy w' (some m)){B:Nat}(a:B<=m)(hB:B<=w.heap.size):Below B w w' :=
 ⟨hg.os,hg.tape,hg.output,hg.size,λk hk=>hg.block k (by omega) (λe=>by cases e;omega)⟩
theorem J5(a:Option Addr)(n cap b m:Nat)(K:Nat->ByteArray)(w:World)(u:CF w a n K)(z:Asked w b m K 0) :
  Calls Tryz.prog 148 #[.slice a n cap,.func (.func 149) #[] #[.pointer (some ⟨b,0,none⟩)]] w λe w'=>e= .returned (.int .i64 (Ds n (DU K)))/\w.grownBy w' (some m):=by
 have hn:n<=9223372036854775807:=u.1;have C:=Aa u;have A:=Aa z;have G:=Tryz.e149;clear u z
 go_enter Tryz.func148,Tryz.ntmps148
 go_wp2_with fail
 go_loopw [8] (λi wr => ∃k:Nat,k<=n/\i= .int .i64 k/\Hid (∀j,j<k->DU K j=false)/\Asked wr b m K k/\w.grownBy wr (some m)) (λi _=>n - (intOf i).toNat)
 case atStart=>exact⟨0,Ai _,rfl,(λj s=>absurd s (Ak _)),A.out,⟨rfl,rfl,rfl,Aj _,λ_ _ _=>rfl⟩⟩
 case round =>
  obtain⟨k,hk,rfl,hb,g,hg⟩:=hrel
  by_cases l:k<n
  ·obtain⟨H,I,rfl,D,hs⟩:=(C.out.grown A.out.map hg).2 k l
   have B:(k:Int)<(n:Int):=by omega
   have E:(0:Int)<=(k:Int):=by omega
   have v:=Aa hg;have o:=Ka b m k K wr hs (by unfold maxLen;omega) g;clear hg g hs
   go_wp2_with fail
   refine o.mono ?_;clear o;rintro e F ⟨rfl,p,q⟩;have x:=Aa p;have r:Hid (w.grownBy F (some m)):=Lx v.out q;clear p q D
   cases d:DU K k with
   |true =>
    have c:Hid (Ds n (DU K)=(k:Int)):=DD l d hb;clear d
    go_wp2_with fail
    go_ret;exact⟨by rw[c.out];rfl,r.out⟩
   |false =>
    have y:Hid (∀j,j<k+1->DU K j=false):=λj s=>by
     rcases Nat.lt_succ_iff_lt_or_eq.1 s with h|h
     ·exact hb j h
     ·rw[h];exact d
    clear d
    go_wp2_with fail
    go_roundw
    case rel=>exact⟨k+1,by omega,by go_num,y,x.out,r.out⟩
    case measure=>simp[intOf];omega
  ·have c:Hid (Ds n (DU K) = -1):=Em (λj s=>hb j (by omega))
   have v:=Aa hg;clear g hg
   go_wp2_with fail
   go_ret;exact⟨by rw[c.out];rfl,v.out⟩
theorem zIo(a:Option Addr)(n cap b m:Nat)(K:Nat->ByteArray)(w:World)(d:CF w a n K)(g:Asked w b m K 0) :
  Calls Tryz.prog 130 #[.slice a n cap,.func (.func 149) #[] #[.pointer (some ⟨b,0,none⟩)]] w λe w'=>e= .returned (.bool (Hg n K))/\w.grownBy w' (some m):=by
 have c:=J5 a n cap b m K w d g;clear d g
 go_enter Tryz.func130,Tryz.ntmps130
 go_wp2_with fail
 refine c.mono ?_;clear c;rintro e j ⟨rfl,hg⟩;have h:=Aa hg;clear hg;have i:Hid (Hg n K=decide (0<=Ds n (DU K))):=rfl;generalize Ds n (DU K)=r at *
 go_wp2_with fail
 go_ret;exact⟨by rw[i.out];rfl,h.out⟩
theorem I5(fa ka:Option Addr)(nf l n cap:Nat)(G:Nat->LField)(F:Nat->ByteArray)(w:World)(J:Cl w fa nf G)(hF:CF w ka n F) :
  Calls Tryz.prog 129 #[.slice fa nf l,.slice ka n cap] w λe w'=>e= .returned (.int .i64 (DQ nf G n F))/\Below w.heap.size w w':=by
 have hn:n<=9223372036854775807:=hF.1;have M:=Aa J;have N:=Aa hF;have T:=Tryz.e149;clear J hF
 go_enter Tryz.func129,Tryz.ntmps129
 go_wp2_with fail
 refine(L4 F w).mono ?_;rintro e U ⟨b,m,rfl,O,B,s,u⟩;have C:=Aa s;have D:=Aa u;clear s u
 go_wp2_with fail
 go_loopw [11] (λi wr => ∃k:Nat,k<=n/\i= .int .i64 k/\Hid (∀j,j<k->FJ nf G F j=0)/\Asked wr b m F k/\Below w.heap.size w wr) (λi _=>n - (intOf i).toNat)
 case atStart=>exact⟨0,Ai _,rfl,(λj z=>absurd z (Ak _)),C.out,D.out⟩
 case round =>
  obtain⟨k,hk,rfl,hb,o,hB⟩:=hrel
  by_cases p:k<n
  ·obtain⟨V,W,rfl,P,hs⟩:=(N.out.kept hB).2 k p
   have K:(k:Int)<(n:Int):=by omega
   have Q:(0:Int)<=(k:Int):=by omega
   have c:=E9 fa nf l G (F k) wr (M.out.kept hB);have A:=Aa hB;have E:=Aa o;have R:=Aa hs;clear hB o hs
   go_wp2_with fail
   refine c.mono ?_;clear c;rintro e L ⟨rfl,q⟩;have c:=Ka b m k F L R.out (by unfold maxLen;omega) (E.out.kept q);have r:Hid (Below w.heap.size w L):=A.out.trans (q.mono A.out.size);clear q P
   by_cases hx:BX nf G (F k)<0
   ·have d:FJ nf G F k=7:=by unfold FJ;rw[Af hx]
    have a:Hid (DQ nf G n F=7):=by unfold DQ Hid;rw[Do p (by rw[d];decide) hb,d]
    clear c d
    go_wp2_with fail
    go_ret;exact⟨by rw[a.out];rfl,r.out⟩
   ·have d:Hid (FJ nf G F k=if DU F k then 6 else 0):=by unfold FJ Hid;rw[Ae hx]
    go_wp2_with fail
    refine c.mono ?_;clear c hx;rintro e S ⟨rfl,v,x⟩;have H:=Aa v;have y:Hid (Below w.heap.size w S):=r.out.trans (Hy x B r.out.size);clear v x
    cases g:DU F k with
    |true =>
     rw[g]at d;have a:Hid (DQ nf G n F=6):=by unfold DQ Hid;rw[Do p (by rw[d.out];decide) hb,d.out];rfl
     clear g d
     go_wp2_with fail
     go_ret;exact⟨by rw[a.out];rfl,y.out⟩
    |false =>
     rw[g]at d;have I:Hid (∀j,j<k+1->FJ nf G F j=0):=λj z=>by
      rcases Nat.lt_succ_iff_lt_or_eq.1 z with h|h
      ·exact hb j h
      ·rw[h,d.out];rfl
     clear g d
     go_wp2_with fail
     go_roundw
     case rel=>exact⟨k+1,by omega,by go_num,I,H.out,y.out⟩
     case measure=>simp[intOf];omega
  ·have a:Hid (DQ nf G n F=0):=by unfold DQ Hid;rw[Dm (λj z=>hb j (by omega))]
   have A:=Aa hB;clear o hB
   go_wp2_with fail
   go_ret;exact⟨by rw[a.out];rfl,A.out⟩
theorem Pp(a:Option Addr)(n cap:Nat)(V:Nat->SServ)(q:LReq)(w:World)(P:Gt w a n V)(hq:ReqOk w q) :
  Calls Tryz.prog 106 #[.slice a n cap,S8 q] w λe w'=>e= .returned (.int .i64 (Ee n V q))/\Below w.heap.size w w':=by
 have hn:n<=9223372036854775807:=P.1;have eK:=Tryz.e149;unfold S8;generalize u:w.alloc (Obj.cells #[.int .i64 q.svc,.string q.type,.slice q.ka q.nk q.kcap,.slice q.fa q.nf q.fcap] 68)=W;have hB:Below w.heap.size w W:=by rw[<-u];exact BW _ _
 have k0:W.cell? ⟨w.heap.size,0,none⟩=some (.int .i64 q.svc):=by rw[<-u,Ac _ _ _ _ rfl];rfl
 have k1:W.cell? ⟨w.heap.size,1,none⟩=some (.string q.type):=by rw[<-u,Ac _ _ _ _ rfl];rfl
 have v:W.cell? ⟨w.heap.size,2,none⟩=some (.slice q.ka q.nk q.kcap):=by rw[<-u,Ac _ _ _ _ rfl];rfl
 have O:W.cell? ⟨w.heap.size,3,none⟩=some (.slice q.fa q.nf q.fcap):=by rw[<-u,Ac _ _ _ _ rfl];rfl
 have HV:=Aa (P.kept hB);have HQ:=Aa (hq.kept hB);have z:=Aa hB;clear P hq hB
 by_cases h1:q.svc<0
 ·have g:Hid (Ee n V q=5):=G7 (.inl h1)
  go_enter Tryz.func106,Tryz.ntmps106
  go_wp2_with fail
  go_ret;exact⟨by rw[g.out];rfl,z.out⟩
 by_cases h2:(n:Int)<=q.svc
 ·have g:Hid (Ee n V q=5):=G7 (.inr h2)
  go_enter Tryz.func106,Tryz.ntmps106
  go_wp2_with fail
  go_ret;exact⟨by rw[g.out];rfl,z.out⟩
 obtain⟨c,hc⟩:∃c:Nat,q.svc=(c:Int):=⟨q.svc.toNat,by omega⟩;have j:c<n:=by omega
 rw[hc]at k0 h1 h2;obtain⟨b,o,rfl,hs⟩:=HV.out.2 c j;have c0:=hs.c0;have A:=Ix (V c).ta (V c).nt (V c).tcap (V c).T q.type W hs.types;have HT:=Aa hs.types;have hc':(c:Int)<(n:Int):=by omega
 have hc0:(0:Int)<=(c:Int):=by omega
 have Q:=Aa hc;clear hs hc HV
 go_enter Tryz.func106,Tryz.ntmps106
 go_wp2_with fail
 clear u;refine A.mono ?_;clear A;rintro e i ⟨rfl,h⟩;have v:=BR h v;have O:=BR h O;have k:Hid (Below w.heap.size w i):=z.out.trans (h.mono z.out.size);have m:=Aa (HQ.out.kept h);have B:=Aa (HT.out.kept h);clear h c0 k0 k1 HQ HT z;rcases Kn (V c).nt (V c).T q.type with hf|⟨t,ht,hf⟩
 ·have g:Hid (Ee n V q=1):=JE Q.out j hf
  go_wp2_with fail
  go_ret;exact⟨by rw[g.out];rfl,k.out⟩
 have r:=Aa hf;rw[hf];clear hf;obtain⟨b1,o1,C,ty⟩:=B.out.2 t ht;have t1:=ty.2.1;rw[C];have cF:∀d os,Calls Tryz.prog 129 #[.slice ((V c).T t).fa ((V c).T t).nf ((V c).T t).fcap,.slice q.fa q.nf q.fcap] (grow (redrawn i d) os) λe w''=>e= .returned (.int .i64 (DQ ((V c).T t).nf ((V c).T t).F q.nf q.F))/\∃p:Regrown,w''=grow (redrawn i p.d) p.os:=λd os=>AF (I5 _ _ _ _ _ _ _ _ _ (ty.2.2.2.2.kept (Av i d os)) (m.out.fields.kept (Av i d os)));have r3:=As O;have r1:=As t1;have D:Hid (∀d os,(grow (redrawn i d) os).cell? ⟨w.heap.size,2,none⟩=some (.slice q.ka q.nk q.kcap)):=λd os=>As v d os;have htn:(t:Int)<((V c).nt:Int):=by omega
 have ht0:(0:Int)<=(t:Int):=by omega
 have ht1 : ¬(t:Int)<0:=by omega
 clear ty v O t1 B
 go_wp2_with fail
 refine Ar (by kernel_rfl) (by kernel_rfl) ?_
 repeat (go_big_quiet_step (first|exact cF _ _))
 refine AK ?_;intro _ R;obtain⟨⟨E,osq⟩,G⟩:=R;subst G;have s:Hid (Below w.heap.size w (grow (redrawn i E) osq)):=k.out.trans ((Av i E osq).mono k.out.size);have v:=D.out E osq;have S:=Aa (m.out.kept (Av i E osq));generalize grow (redrawn i E) osq=y at *;clear cF r3 r1 D k m
 by_cases he:DQ ((V c).T t).nf ((V c).T t).F q.nf q.F=0
 case neg =>
  have g:Hid (Ee n V q=DQ ((V c).T t).nf ((V c).T t).F q.nf q.F):=Ic Q.out j r.out he;generalize DQ ((V c).T t).nf ((V c).T t).F q.nf q.F=x at *;have hb:(x != 0)=true:=by simpa using he
  clear he
  go_wp2_with fail
  go_ret;exact⟨by rw[g.out];rfl,s.out⟩
 have g:Hid (Ee n V q=if Hg q.nk q.K then 6 else 0):=Hc Q.out j r.out he
 rw[he];clear he r;have U:Hid (CF y q.ka q.nk q.K):=S.out.keys;clear C
 go_wp2_with fail
 go_region_law (first
  | (go_simp;go_at_call 131;refine(L4 q.K _).mono ?_;rintro e w5 ⟨bx,mx,rfl,X,H,I,J⟩;have l:Hid (Below y.heap.size y w5):=(Aq y.heap.size y).drew.trans J;have k5:=BR l.out v;have Y:Hid (y.heap.size<=mx):=H;have Z:=Aa I;clear J I H X)
  | (go_simp;go_at_call 130;refine(zIo q.ka q.nk q.kcap bx mx q.K w5 (U.out.kept l.out) Z.out).mono ?_;rintro e w6 ⟨rfl,L⟩;have M:Hid (Below w.heap.size w w6):=s.out.trans ((l.out.trans (Hy L Y.out l.out.size)).mono s.out.size);clear L))
 all_goals (
  cases N:Hg q.nk q.K
  ·rw[N]at g
   go_wp2_with fail
   go_ret;exact⟨by rw[g.out];rfl,M.out⟩
  ·rw[N]at g
   go_wp2_with fail
   go_ret;exact⟨by rw[g.out];rfl,M.out⟩)
def D4 (w:World) (B base:Nat) (a:Value) (N:Nat) (b:Nat->List LVal):Prop := ∃sv:Nat->Value,B9 w B 86 1 a N sv/\∀j,j<N->∃kv,ValRowsO w B base (sv j) (b j) kv
structure RepliesO (w:World) (B base:Nat) (fv vv:Value) (N:Nat) (fnd:Nat->Bool) (Ls:Nat->List LVal):Prop where
 found:B9 w B 4 1 fv N (λj=>.bool (fnd j))
 vals:D4 w B base vv N Ls
 few:∀j,j<N->(Ls j).length<=maxLen
theorem Jv(w:World)(B base:Nat)(a:Nat->List LVal):D4 w B base (.slice none 0 0) 0 a:=⟨λ_=>.slice none 0 0,A4 _ _ _ _,λ_ b=>absurd b (Ak _)⟩
theorem Ng(w:World)(B base:Nat)(a:Nat->Bool)(b:Nat->List LVal):RepliesO w B base (.slice none 0 0) (.slice none 0 0) 0 a b :=
 ⟨A4 _ _ _ _,Jv _ _ _ _,λ_ c=>absurd c (Ak _)⟩
theorem D4.kept{w w':World}{B base:Nat}{a:Value}{N:Nat}{b:Nat->List LVal}(h:D4 w B base a N b)(hB:Below w.heap.size w w')(hb:base<=w.heap.size):D4 w' B base a N b:=by
 obtain⟨sv,h1,h2⟩:=h;exact⟨sv,h1.kept hB,λj c=>let ⟨kv,hk⟩:=h2 j c;⟨kv,hk.kept hB hb⟩⟩
theorem D4.lower{w:World}{B B' base:Nat}{a:Value}{N:Nat}{b:Nat->List LVal}(h:D4 w B base a N b)(hb:B'<=B):D4 w B' base a N b:=by
 obtain⟨sv,h1,h2⟩:=h;exact⟨sv,h1.lower hb,λj c=>let ⟨kv,hk⟩:=h2 j c;⟨kv,hk.lower hb⟩⟩
def T8 (t:Nat):Bool:=t==4 || t==127
theorem UX:∀t,T8 t=true->U7 t=true:=λt h=>by
 simp only[T8,U7,Bool.or_eq_true] at *;rcases h with h|h
 ·exact .inl (.inl h)
 ·exact .inr h
theorem D4.steady{w w':World}{B base:Nat}{a:Value}{N:Nat}{b:Nat->List LVal}(h:D4 w B base a N b)(hS:Steady T8 base w w'):D4 w' B base a N b:=by
 obtain⟨sv,h1,h2⟩:=h;exact⟨sv,h1.steady hS (by decide),λj c=>let ⟨kv,hk⟩:=h2 j c;⟨kv,hk.steady (hS.mono UX)⟩⟩
theorem D4.snoc{w w':World}{B base:Nat}{e a v:Value}{N:Nat}{c:Nat->List LVal}{sv:Nat->Value}{kv:Nat->Value}(g:B9 w B 86 1 e N sv)(h:∀j,j<N->∃kv,ValRowsO w B base (sv j) (c j) kv)(hb:base<=B)(hB:B<=w.heap.size)(hv:ValRowsO w B base v (c N) kv)(b:B9 w' B 86 1 a (N+1) (λj=>if j<N*1 then sv j else v))(hg:w.grownBy w' e.ownBlock):D4 w' B base a (N+1) c:=by
 have hS:Steady U7 base w w':=Fl (g.lower hb) (by decide) hg (by omega);refine⟨_,b,λj i=>?_⟩
 by_cases h1:j<N*1
 ·obtain⟨d,hk⟩:=h j (by omega)
  simp only[Af h1];exact⟨d,hk.steady hS⟩
 ·have h2:j=N:=by omega
  subst h2;simp only[Ae h1];exact⟨kv,hv.steady hS⟩
theorem Steady.lower{ts:Nat->Bool}{base a:Nat}{w w':World}(h:Steady ts base w w')(hb:a<=base):Steady ts a w w':=⟨h.below.mono hb,h.keep⟩
def Vb (t:Nat):Bool:=t==86 || t==127
theorem KP{w w':World}{b t B e size n:Nat}{d:Array Value}{g:Nat × Nat}{v:Value}{f : Nat->Value}(ho:w.heap[b]? = some (.cells d t g))(j:B9 w B e size v n f)(a:t≠e)(hg:w.grownBy w' v.ownBlock):w'.heap[b]? = some (.cells d t g):=by
 rw[hg.block b (Ag ho) λh=>?_]
 ·exact ho
 ·obtain⟨c,i⟩:=j.obj h.symm
  rw[ho]at i;cases i;exact a rfl
theorem Oe{nf:Nat}{G:Nat->LField}{F:Nat->ByteArray}{i:Nat}(h:FJ nf G F i=0):DU F i=false:=by
 unfold FJ at h;split at h
 ·cases h
 ·split at h
  ·cases h
  ·rename_i h2;simpa using h2
theorem Tryz.info4:(Tryz.prog.info? 4).map (λi=>(i.zero,i.size,i.bytes))=some (some (.bool false),1,1):=by kernel_rfl
theorem Tryz.info86:(Tryz.prog.info? 86).map (λi=>(i.zero,i.size,i.bytes))=some (some (.slice none 0 0),1,24):=by kernel_rfl
theorem Ec.noThing(w:World):Ec w Hl.va Hl.nv Hl.V:=⟨Ai _,λ_ hi=>absurd hi (Ak _)⟩
theorem Lh:M5 Hl:=⟨by decide,λ_ hk=>absurd hk (Ak _)⟩
theorem Kw{w:World}{s:SServ}(a:CZ w s.xa s.nx s.X)(c:Jd s)(typ key:ByteArray):Ec w (Dx s typ key).va (Dx s typ key).nv (Dx s typ key).V/\M5 (Dx s typ key):=by
 rcases CE s.nx (Cf s.X typ key) with⟨hi,-⟩|⟨k,hk,hi,-⟩
 ·rw[(Js (by rw[hi];decide)).2]
  exact⟨Ec.noThing w,Lh⟩
 ·rw[(Jy hi).2]
  obtain⟨b,o,-,-,-,-,-,-,-,h⟩:=a.2 k hk;exact⟨h,c k hk⟩
theorem Od(a:Option Addr)(n cap:Nat)(V:Nat->SServ)(q:LReq)(w:World)(hV:Gt w a n V)(hL:∀i,i<n->Jd (V i))(hq:ReqOk w q)(hqk:q.nk*16<=140737488355328)(base:Nat)(hbase:base<=w.heap.size) :
  Calls Tryz.prog 78 #[.slice a n cap,S8 q] w λe w' => ∃fv z,e= .returned (.tuple #[.agg #[fv,z],.int .i64 (Ee n V q)])/\RepliesO w' w.heap.size base fv z (if Ee n V q=0 then q.nk else 0) (λj=>FX (V q.svc.toNat) q.type (q.K j)) (λj=>Dw (Dx (V q.svc.toNat) q.type (q.K j)) q.nf q.F)/\Below w.heap.size w w':=by
 obtain⟨iB,bi,bz0,bz1,bz2⟩:=Cd Tryz.info4;obtain⟨iV,vi,vz0,vz1,vz2⟩:=Cd Tryz.info86;have hn:n<=9223372036854775807:=hV.1;have eK:=Tryz.e132;obtain⟨ka,L⟩:∃ka,ka=q.ka:=⟨_,rfl⟩;have ai:=hq.keys;rw[<-L]at ai;have hnk:q.nk<=9223372036854775807:=ai.1;have J:=λW (hB:Below w.heap.size w W)=>Pp a n cap V q W (hV.kept hB) (hq.kept hB);unfold S8 at J;rw[<-L]at J;unfold S8;rw[<-L];clear L;generalize hW:(w.alloc (Obj.cells #[.int .i64 q.svc,.string q.type,.slice ka q.nk q.kcap,.slice q.fa q.nf q.fcap] 68)).alloc (Obj.cells #[.slice none 0 0,.slice none 0 0] 127)=W;have hB:Below w.heap.size w W:=by rw[<-hW];exact CN _ _ _
 have hWs:W.heap.size=w.heap.size+1+1:=by rw[<-hW];simp
 have k0:W.cell? ⟨w.heap.size,0,none⟩=some (.int .i64 q.svc):=by rw[<-hW,Az _ _ _ (by simp),Ac _ _ _ _ rfl];rfl
 have k1:W.cell? ⟨w.heap.size,1,none⟩=some (.string q.type):=by rw[<-hW,Az _ _ _ (by simp),Ac _ _ _ _ rfl];rfl
 have k2:W.cell? ⟨w.heap.size,2,none⟩=some (.slice ka q.nk q.kcap):=by rw[<-hW,Az _ _ _ (by simp),Ac _ _ _ _ rfl];rfl
 have k3:W.cell? ⟨w.heap.size,3,none⟩=some (.slice q.fa q.nf q.fcap):=by rw[<-hW,Az _ _ _ (by simp),Ac _ _ _ _ rfl];rfl
 have hr:W.heap[w.heap.size+1]? = some (.cells #[.slice none 0 0,.slice none 0 0] 127 (0,0)):=by
  rw[<-hW];exact(show w.heap.size+1=(w.alloc (Obj.cells #[.int .i64 q.svc,.string q.type,.slice ka q.nk q.kcap,.slice q.fa q.nf q.fcap] 68)).heap.size by simp) ▸ Ap _ _
 have S:=J W hB;have HKS:=Aa (ai.kept hB);clear J ai;have HV:=Aa (hV.kept hB);have HQ:=Aa (hq.kept hB);have HB:=Aa hB;have HL:=Aa hL;have HR:=Aa hr;have HWs:=Aa hWs;clear hV hq hB hL hr hWs
 go_enter Tryz.func78,Tryz.ntmps78
 go_wp2_with fail
 clear hW;refine S.mono ?_;clear S;rintro e M ⟨rfl,h⟩;have k0:=BR h k0;have k1:=BR h k1;have k2:=BR h k2;have k3:=BR h k3;have T:=Aa ((h.block _ (Ag HR.out)).trans HR.out);have HV1:=Aa (HV.out.kept h);have HQ1:=Aa (HQ.out.kept h);have HK1:=Aa (HKS.out.kept h);have aj:Hid (Below w.heap.size w M):=HB.out.trans (h.mono HB.out.size);have HS1:Hid (w.heap.size+1+1<=M.heap.size):=by have:=h.size;have:=HWs.out;unfold Hid;omega
 clear h HV HQ HB HR HWs HKS
 by_cases H:Ee n V q=0
 case neg =>
  have hb:(Ee n V q != 0)=true:=by simpa using H
  have HWR:=Aa H;obtain⟨d0,d1⟩:M.cell? ⟨w.heap.size+1,0,none⟩=some (.slice none 0 0)/\M.cell? ⟨w.heap.size+1,1,none⟩=some (.slice none 0 0):=by simp[World.cell?,T.out]
  obtain⟨z0,z1⟩:M.frozen? ⟨w.heap.size+1,0,none⟩=false/\M.frozen? ⟨w.heap.size+1,1,none⟩=false:=by simp[World.frozen?,T.out]
  clear H;have ak:Hid (Below w.heap.size w ((M.setCell ⟨w.heap.size+1,0,none⟩ (Value.slice none 0 0)).setCell ⟨w.heap.size+1,1,none⟩ (Value.slice none 0 0))):=aj.out.trans ⟨rfl,rfl,rfl,by simp,λk hk=>(Al _ _ _ _ (by show k≠w.heap.size+1;omega)).trans (Al _ _ _ _ (by show k≠w.heap.size+1;omega))⟩
  go_wp2_with fail
  exact At (v:=.tuple #[.agg #[.slice none 0 0,.slice none 0 0],.int .i64 (Ee n V q)]) (by simp[results,Tryz.results78,go_sem,d0,d1]) rfl ⟨_,_,rfl,Ng _ _ _ _ _,ak.out⟩
 obtain⟨c,t,hc,hcn,-,-,hfe,hst⟩:=NE H;have HWR:=Aa H;have HC:=Aa hc;rw[H];rw[hc]at k0;have hc':(c:Int)<(n:Int):=by omega
 have hc0:(0:Int)<=(c:Int):=by omega
 obtain⟨b,o,ha,hs⟩:=HV1.out.2 c hcn;subst ha;have c2:=hs.c2;have HT:=Aa hs.things;clear hs hc H
 go_upto_region 4 with fail
 go_cut [7] from 20 to 28 (λf wx => ∃bm bt m,f=MS bm bt/\Finds wx bm bt m q.type (V c)/\Below M.heap.size M wx)
 case first =>
  go_region_law (go_simp;go_at_call 107;refine(PQ (V c) q.type _ (HT.out.kept (Aq _ _).drew)).mono ?_;rintro e s ⟨bm,bt,m,rfl,hF,g⟩;have HF:=Aa hF;have al:Hid (Below M.heap.size M s):=(Aq M.heap.size M).drew.trans g;clear hF g)
  all_goals (
   go_wp2_with fail
   go_meet
   exact⟨bm,bt,m,rfl,HF.out,al.out⟩)
 case rest =>
  obtain⟨bm,bt,m,rfl,hF,g⟩:=hcut;obtain⟨s,U⟩:∃s,s=wc:=⟨_,rfl⟩;rw[<-U]at hF g;rw[<-U];clear U;have k2:=BR g k2;have k3:=BR g k3;have HR2:=Aa ((g.block _ (Ag T.out)).trans T.out);have HF:=Aa hF;have HT2:=Aa (HT.out.kept g);have HK2:=Aa (HK1.out.kept g);have HFl2:=Aa (HQ1.out.fields.kept g);have al:Hid (Below w.heap.size w s):=aj.out.trans (g.mono aj.out.size);have hz2:w.heap.size+1+1<=s.heap.size:=Am HS1.out g.size;have HD:Hid (∀i,i<q.nf->DU q.F i=false):=λi hi=>Oe (hfe i hi);have HLS:=Aa (HL.out c hcn);have HSV:Hid (q.svc.toNat=c):=by have:=HC.out;unfold Hid;omega
  clear hF g T HT HK1 HQ1 aj HS1 hfe hst HL HC c2 k0 k1;unfold MS;generalize hW3:s.alloc (Obj.cells #[.slice none 0 0,.slice none 0 0] 127)=W3;have hB3:Below s.heap.size s W3:=by rw[<-hW3];exact BW _ _
  have hb3:W3.heap[s.heap.size]? = some (.cells #[.slice none 0 0,.slice none 0 0] 127 (0,0)):=by rw[<-hW3];exact Ap _ _
  have j2:=BR hB3 k2;have ak:=Aa hB3;have Hb3:=Aa hb3;clear hB3 hb3 k2
  go_wp2_with fail
  clear hW3 j2;obtain⟨d,am⟩:∃d,d=s.heap.size:=⟨_,rfl⟩;rw[<-am]at Hb3 ak hz2;rw[<-am];have X:=Aa am;clear am
  go_loopw [32] (λi wr => ∃k:Nat,k<=q.nk/\i= .int .i64 k/\(∃fv z,wr.heap[d]? = some (.cells #[fv,z] 127 (0,0))/\B9 wr d 4 1 fv k (λj=>.bool (FX (V c) q.type (q.K j)))/\D4 wr d base z k (λj=>Dw (Dx (V c) q.type (q.K j)) q.nf q.F))/\Below d s wr) (λi _=>q.nk - (intOf i).toNat)
  case atStart=>exact⟨0,Ai _,rfl,⟨_,_,Hb3.out,A4 _ _ _ _,Jv _ _ _ _⟩,ak.out⟩
  case round =>
   obtain⟨k,hk,rfl,⟨fv,z,Y,Z,aa⟩,hw⟩:=hrel;have A:Below s.heap.size s wr:=X.out ▸ hw
   by_cases hlt:k<q.nk
   ·obtain⟨b4,o4,L,f0,hs⟩:=(HK2.out.kept A).2 k hlt
    subst L;have hlt':(k:Int)<(q.nk:Int):=by omega
    have hk0:(0:Int)<=(k:Int):=by omega
    have S:=OG bm bt m (V c) q.type (q.K k) wr (HT2.out.kept A) hs (HF.out.kept A);have an:=Aa Y;have ao:=Aa Z;have ap:=Aa aa;have HW:=Aa A;clear Y Z aa hw A hs
    go_wp2_with fail
    refine S.mono ?_;clear S;rintro e w3 ⟨rfl,hw3⟩;obtain⟨x,hx⟩:∃x,x=Dx (V c) q.type (q.K k):=⟨_,rfl⟩;obtain⟨fd,hfd⟩:∃fd,fd=FX (V c) q.type (q.K k):=⟨_,rfl⟩;have HXE:=Aa hx;have HFE:=Aa hfd;rw[<-hx,<-hfd];clear hx hfd f0;unfold KD;generalize hX5:w3.alloc (Obj.cells #[.string x.type,.string x.key,.slice x.va x.nv x.vcap] 88)=X5;have N:Below wr.heap.size wr X5:=hw3.trans (by rw[<-hX5];exact(BW _ _).mono hw3.size);have he5:X5.heap[w3.heap.size]? = some (.cells #[.string x.type,.string x.key,.slice x.va x.nv x.vcap] 88 (0,0)):=by rw[<-hX5];exact Ap _ _
    have ab:=(N.block _ (Ag an.out)).trans an.out;have hzr:d<=wr.heap.size:=by have:=HW.out.size;have:=X.out;omega
    have hz5:d<=X5.heap.size:=Am hzr N.size;have HW5:Hid (Below s.heap.size s X5):=HW.out.trans (N.mono HW.out.size);have ac:=Aa (ao.out.kept N);have HVL5:=Aa (ap.out.kept N (by omega));have r0:X5.cell? ⟨d,0,none⟩=some fv:=by simp[World.cell?,ab]
    have HE5:=Aa he5;have HBX5:=Aa ab;clear hw3 N he5 ab ao ap an;have hap:=B9.one #[.bool fd] ac.out hz5 124 iB _ 1 Tryz.underlying124 bi bz0 bz1 bz2 rfl (by decide) (λ_=>.bool fd) (λj hj=>by
     match j,hj with
     | 0,_=>rfl) (λ_ _=>rfl) (by unfold maxLen;omega) (by omega) (m:=X5.heap.size) rfl
    go_wp2_with (at_builtin;refine Ew _ rfl _ _ 124 rfl _ _ rfl rfl (λv' w'=>B9 w' d 4 1 v' (k+1) _/\World.grownBy _ w' fv.ownBlock) hap ?_)
    intro fv' w6 u hg6;obtain⟨O,P,rfl,-⟩:=u.slice;have ad:=BW X5 (Obj.cells #[.bool fd] 4);have Q:=KP ((ad.block _ (Ag HBX5.out)).trans HBX5.out) (ac.out.kept ad) (by decide) hg6;obtain⟨y0,y1⟩:w6.cell? ⟨d,0,none⟩=some fv/\w6.cell? ⟨d,1,none⟩=some z:=by simp[World.cell?,Q]
    have v0:w6.frozen? ⟨d,0,none⟩=false:=by simp[World.frozen?,Q]
    obtain⟨r,ae⟩:∃r,r=w6.setCell ⟨d,0,none⟩ (.slice O (k+1) P):=⟨_,rfl⟩;have aq:Steady T8 d X5 r:=by
     rw[ae];exact((Il ad hz5).trans (Fl (ac.out.kept ad) (by decide) hg6 (by simp;omega))).trans (E0 Q (by decide) (Aj _) _)
    have hb7:r.heap[d]? = some (.cells #[.slice O (k+1) P,z] 127 (0,0)):=by
     rw[ae,Ao w6 d 0 _ 127 _ Q];rfl
    have af:B9 r d 4 1 (.slice O (k+1) P) (k+1) (λj=>.bool (FX (V c) q.type (q.K j))):=by
     rw[ae];refine(u.set_other (p:=⟨d,0,none⟩) (λe=>?_) _).congr λj hj=>?_
     ·obtain⟨cu,ho⟩:=u.obj e
      have:w6.heap[d]? = _:=ho;rw[Q]at this;cases this
     ·have hj':j<k\/j=k:=by omega
      rcases hj' with h1|h1
      ·simp[h1]
      ·simp[h1,HFE.out]
    have HR7:=Aa af;have HV7:=Aa (HVL5.out.steady (aq.lower (by omega)));have HW7:Hid (Below d s r):=(X.out ▸ HW5.out).trans aq.below;have HE7:=Aa (aq.block HE5.out (by decide));have HB7:=Aa hb7;clear u hg6 ad hap Q af hb7 hX5 r0
    go_upto_region 11 with fail
    rw[<-ae];clear ae y0 y1 v0 aq;obtain⟨e0,e1,e2⟩:r.cell? ⟨w3.heap.size,0,none⟩=some (.string x.type)/\r.cell? ⟨w3.heap.size,1,none⟩=some (.string x.key)/\r.cell? ⟨w3.heap.size,2,none⟩=some (.slice x.va x.nv x.vcap):=by simp[World.cell?,HE7.out]
    have r1:r.cell? ⟨d,1,none⟩=some z:=by simp[World.cell?,HB7.out]
    have B:Below s.heap.size s r:=X.out ▸ HW7.out;have q3:=BR B k3;have ar:d<=r.heap.size:=by have:=B.size;have:=X.out;omega
    obtain⟨zzq,hlx⟩:=Kw (HT2.out.kept B) HLS.out q.type (q.K k);rw[<-HXE.out]at zzq hlx;have hD7:Below r.heap.size r r.drew:=(Aq _ _).drew;have hcv:=RF x q.fa q.nf q.fcap q.F r.drew (zzq.kept hD7) hlx ((HFl2.out.kept B).kept hD7) HD.out base (by show base<=r.heap.size;omega);unfold KD at hcv;have hfew:(Dw x q.nf q.F).length<=maxLen:=Am (Jh HD.out) zzq.1;have hap7:∀(G:World) (sv:Nat->Value) (sa:Option Addr) (sc:Nat),B9 G d 86 1 z k sv->d<=G.heap.size->∀ty,∃v' w',(Builtin.append_ #[125,125] ty #[z,.slice (some ⟨G.heap.size,0,none⟩) 1 1]).run Tryz.prog (G.alloc (.cells #[.slice sa (Dw x q.nf q.F).length sc] 86))= .ok v' w'/\B9 w' d 86 1 v' (k+1) (λj=>if j<k*1 then sv j else .slice sa (Dw x q.nf q.F).length sc)/\(G.alloc (.cells #[.slice sa (Dw x q.nf q.F).length sc] 86)).grownBy w' z.ownBlock:=λG sv sa sc ag au =>
     B9.one #[.slice sa (Dw x q.nf q.F).length sc] ag au 125 iV _ 24 Tryz.underlying125 vi vz0 vz1 vz2 rfl (by decide) (λ_=>.slice sa (Dw x q.nf q.F).length sc) (λj hj=>by
      match j,hj with
      | 0,_=>rfl) (λ_ _=>rfl) (by unfold maxLen;omega) (by omega) (m:=G.heap.size) rfl
    clear B zzq hlx hD7 HE7;generalize w3.heap.size=b5 at *
    go_region_law (first
     | (go_simp;go_at_call 108;refine hcv.mono ?_;rintro e G ⟨v,kv,rfl,hVR,C⟩;obtain⟨sa,sc,rfl,-⟩:=hVR.row.slice;have C:Below r.heap.size r G:=(Aq r.heap.size r).drew.trans C;have hb8:=(C.block _ (Ag HB7.out)).trans HB7.out;have r8:G.cell? ⟨d,1,none⟩=some z:=BR C r1;have HVR:=Aa (hVR.lower (B':=d) ar);obtain⟨sv,ag,hsr⟩:=HV7.out.kept C (Am (by omega) ar);have ah:=Aa ag;have HSR8:=Aa hsr;have Hb8:=Aa hb8;have HB8:=Aa C;have au:d<=G.heap.size:=Am ar C.size;have hap8:=hap7 G sv sa sc ag au;have r9:=BR (BW G (Obj.cells #[.slice sa (Dw x q.nf q.F).length sc] 86)) r8;clear hVR C hb8 ag hsr)
     | (refine JJ rfl (.tmp 49) (.tmp 54) 125 rfl z (.slice (some ⟨G.heap.size,0,none⟩) 1 1) (by simp[Act.eval]) (by simp[Act.eval]) (λv' w'=>B9 w' d 86 1 v' (k+1) _/\World.grownBy _ w' z.ownBlock) hap8 ?_;rintro vv' R ⟨I,hg9⟩;obtain⟨D,E,rfl,-⟩:=I.slice;have y:=BW G (Obj.cells #[.slice sa (Dw x q.nf q.F).length sc] 86);have av:=KP ((y.block _ (Ag Hb8.out)).trans Hb8.out) (ah.out.kept y) (by decide) hg9;obtain⟨y0,y1⟩:R.cell? ⟨d,0,none⟩=some (.slice O (k+1) P)/\R.cell? ⟨d,1,none⟩=some z:=(by simp[World.cell?,av]);have v1:R.frozen? ⟨d,1,none⟩=false:=(by simp[World.frozen?,av]);have HROW9:=Aa I;have HG9:=Aa hg9;have Hb9:=Aa av;clear I hg9 y av))
    all_goals (
     have l:Hid ((R.setCell ⟨d,1,none⟩ (.slice D (k+1) E)).heap[d]? = some (.cells #[.slice O (k+1) P,.slice D (k+1) E] 127 (0,0))/\B9 (R.setCell ⟨d,1,none⟩ (.slice D (k+1) E)) d 4 1 (.slice O (k+1) P) (k+1) (λj=>.bool (FX (V c) q.type (q.K j)))/\D4 (R.setCell ⟨d,1,none⟩ (.slice D (k+1) E)) d base (.slice D (k+1) E) (k+1) (λj=>Dw (Dx (V c) q.type (q.K j)) q.nf q.F)/\Below d s (R.setCell ⟨d,1,none⟩ (.slice D (k+1) E))):=by
      have y:=BW G (Obj.cells #[.slice sa (Dw x q.nf q.F).length sc] 86);have hS1:Steady Vb d r R:=((Il HB8.out ar).trans (Il y au)).trans (Fl (ah.out.kept y) (by decide) HG9.out (by simp;omega));have hS2:Steady Vb d R (R.setCell ⟨d,1,none⟩ (.slice D (k+1) E)):=E0 Hb9.out (by decide) (Aj _) _;have hS3:Steady T8 d R (R.setCell ⟨d,1,none⟩ (.slice D (k+1) E)):=E0 Hb9.out (by decide) (Aj _) _;refine⟨?_,HR7.out.steady (hS1.trans hS2) (by decide),?_,HW7.out.trans (hS1.trans hS2).below⟩
      ·rw[Ao R d 1 _ 127 _ Hb9.out];rfl
      ·refine D4.steady ?_ (hS3.lower (by omega))
       refine D4.snoc (sv:=sv) (kv:=kv) (v:=.slice sa (Dw x q.nf q.F).length sc) (ah.out.kept y) (λj hj=>?_) (by omega) (by simp;omega) ?_ HROW9.out HG9.out
       ·obtain⟨kv',h'⟩:=HSR8.out j hj
        exact⟨kv',h'.kept y (by omega)⟩
       ·rw[<-HXE.out]
        exact HVR.out.kept y (by omega)
     clear hap8
     go_wp2_with fail
     go_roundw
     case rel=>exact⟨k+1,by omega,by go_num,⟨_,_,l.out.1,l.out.2.1,l.out.2.2.1⟩,l.out.2.2.2⟩
     case measure=>simp[intOf];omega)
   ·have hkn:k=q.nk:=by omega
    have HW:=Aa A;have ao:=Aa Z;have ap:=Aa aa;have an:=Aa Y;have aw:=Aa ((A.block _ (Ag HR2.out)).trans HR2.out);obtain⟨d0,d1⟩:wr.cell? ⟨w.heap.size+1,0,none⟩=some (.slice none 0 0)/\wr.cell? ⟨w.heap.size+1,1,none⟩=some (.slice none 0 0):=by simp[World.cell?,aw.out]
    obtain⟨z0,z1⟩:wr.frozen? ⟨w.heap.size+1,0,none⟩=false/\wr.frozen? ⟨w.heap.size+1,1,none⟩=false:=by simp[World.frozen?,aw.out]
    obtain⟨r0,r1⟩:wr.cell? ⟨d,0,none⟩=some fv/\wr.cell? ⟨d,1,none⟩=some z:=by simp[World.cell?,Y]
    obtain⟨fa,fc,rfl,-⟩:=Z.slice;obtain⟨va,vc,rfl,-⟩:∃a cap,z= .slice a k cap/\k<=cap:=by
     obtain⟨sv,h1,-⟩:=aa;exact h1.slice
    clear Y Z aa hw A;have l:Hid (RepliesO ((wr.setCell ⟨w.heap.size+1,0,none⟩ (.slice fa k fc)).setCell ⟨w.heap.size+1,1,none⟩ (.slice va k vc)) w.heap.size base (.slice fa k fc) (.slice va k vc) k (λj=>FX (V c) q.type (q.K j)) (λj=>Dw (Dx (V c) q.type (q.K j)) q.nf q.F)/\Below w.heap.size w ((wr.setCell ⟨w.heap.size+1,0,none⟩ (.slice fa k fc)).setCell ⟨w.heap.size+1,1,none⟩ (.slice va k vc))):=by
     have h1:=Ao wr (w.heap.size+1) 0 _ 127 (.slice fa k fc) aw.out;have hS:∀ts:Nat->Bool,ts 127=true->Steady ts w.heap.size wr ((wr.setCell ⟨w.heap.size+1,0,none⟩ (.slice fa k fc)).setCell ⟨w.heap.size+1,1,none⟩ (.slice va k vc)):=λts hts =>
      (E0 aw.out hts (by omega) _).trans (E0 h1 hts (by omega) _)
     refine⟨⟨(ao.out.steady (hS Vb (by decide)) (by decide)).lower (by omega),(ap.out.steady ((hS T8 (by decide)).lower hbase)).lower (by omega),λj hj=>?_⟩,(al.out.trans (HW.out.mono al.out.size)).trans (hS T8 (by decide)).below⟩;exact Am (Jh HD.out) (Kw (HT2.out) HLS.out q.type (q.K j)).1.1
    rw[hkn]at l
    go_wp2_with fail
    rw[HSV.out];exact At (v:=.tuple #[.agg #[.slice fa q.nk fc,.slice va q.nk vc],.int .i64 0]) (by simp[results,Tryz.results78,go_sem,d0,d1]) rfl ⟨_,_,rfl,l.out⟩
end Go.Proofs.YtjjggefmmeminabGreat
