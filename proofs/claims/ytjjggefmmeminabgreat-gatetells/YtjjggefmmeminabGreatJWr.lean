import Derived.Test.YtjjggefmmeminabGreatJBase
import Derived.Handy
set_option maxHeartbeats 1000000
namespace Go.Proofs.YtjjggefmmeminabGreat
open Go.RowKit Go.Sort Go.PlainAid
def B6 (T:Nat->LType) (i:Nat):Int:=if !Cb (T i).name||decide (0<=find i T (T i).name) then 6 else 0
theorem IE(a:Option Addr)(n cap i:Nat)(T:Nat->LType)(w:World)(l:Cs w a n T)(q:n<=cap)(hi:i<n) :
  Calls Tryz.prog 114 #[.slice a n cap,.int .i64 (i:Int)] w λe w'=>e= .returned (.int .i64 (B6 T i))/\Below w.heap.size w w':=by
 have hn:n<=9223372036854775807:=l.1;obtain⟨b,o,rfl,hc,-,-,hs,-⟩:=l.2 i hi;have v:=As hc;have j:∀d os,Calls Tryz.prog 59 #[.string (T i).name] (grow (redrawn w d) os) λe w''=>e= .returned (.bool (Cb (T i).name))/\∃p:Regrown,w''=grow (redrawn w p.d) p.os:=λd os=>AF (Es _ _ hs);have m:∀d os,Calls Tryz.prog 128 #[.slice (some ⟨b,o,none⟩) i cap,.string (T i).name] (grow (redrawn w d) os) λe w''=>e= .returned (.int .i64 (find i T (T i).name))/\∃p:Regrown,w''=grow (redrawn w p.d) p.os:=λd os=>AF (Ix _ _ _ T _ _ ((l.less (BF hi)).kept (Av w d os)));clear l hc hs;have r:(i:Int)<(n:Int):=by omega
 have s:(0:Int)<=(i:Int):=by omega
 have u:(i:Int)<=(cap:Int):=by omega
 cases h1:Cb (T i).name
 ·have c:Hid (B6 T i=6):=by unfold B6 Hid;simp[h1]
  go_enter Tryz.func114,Tryz.ntmps114
  go_wp2
  refine Ar (by kernel_rfl) (by kernel_rfl) ?_;rw[h1]at j
  repeat (go_big_quiet_step (first|exact j _ _|exact m _ _))
  refine AK ?_;intro _ h;obtain⟨⟨k,osq⟩,g⟩:=h;subst g
  go_wp2
  go_ret;exact⟨by rw[c.out];rfl,Av w k osq⟩
 ·by_cases h2:0<=find i T (T i).name
  ·have c:Hid (B6 T i=6):=by unfold B6 Hid;simp[h1,h2]
   go_enter Tryz.func114,Tryz.ntmps114
   go_wp2
   refine Ar (by kernel_rfl) (by kernel_rfl) ?_;rw[h1]at j
   repeat (go_big_quiet_step (first|exact j _ _|exact m _ _))
   refine AK ?_;intro _ h;obtain⟨⟨k,osq⟩,g⟩:=h;subst g
   go_wp2
   go_ret;exact⟨by rw[c.out];rfl,Av w k osq⟩
  ·have c:Hid (B6 T i=0):=by unfold B6 Hid;simp[h1,h2]
   go_enter Tryz.func114,Tryz.ntmps114
   go_wp2
   refine Ar (by kernel_rfl) (by kernel_rfl) ?_;rw[h1]at j
   repeat (go_big_quiet_step (first|exact j _ _|exact m _ _))
   refine AK ?_;intro _ h;obtain⟨⟨k,osq⟩,g⟩:=h;subst g
   go_wp2
   go_ret;exact⟨by rw[c.out];rfl,Av w k osq⟩
def Gu (k:Int) (ty:ByteArray) (f:Int):Int:=if k=1 then (if ty.size=0 then 0 else 7) else if k=2\/k=3 then (if f<0 then 5 else 0) else 1
theorem Ef{s:ByteArray}:s.toList.isEmpty=true↔s.size=0:=by rw[BE];exact EY
theorem Ug{k:Int}{ty:ByteArray}{f : Int}(h:(k==1)=true)(a:(!ty.toList.isEmpty)=true):Gu k ty f=7:=by
 have h1:k=1:=by simpa using h
 have h2 : ¬ty.size=0:=λe=>by rw[Ef.2 e]at a;simp at a
 unfold Gu;simp[h1,h2]
theorem Uc{k:Int}{ty:ByteArray}{f : Int}(h:(k==1)=true)(a:(!ty.toList.isEmpty)=false):Gu k ty f=0:=by
 have h1:k=1:=by simpa using h
 have h2:ty.size=0:=Ef.1 (by simpa using a);unfold Gu;simp[h1,h2]
theorem IR{k:Int}{ty:ByteArray}{f : Int}(a:(k==2)=true\/(k==3)=true):Gu k ty f=if f<0 then 5 else 0:=by
 have h2:k=2\/k=3:=by simpa using a
 unfold Gu;rw[Ae (by omega),Af h2]
theorem Ui{k:Int}{ty:ByteArray}{f : Int}(h:(k==1)=false)(b:(k==2)=false)(a:(k==3)=false):Gu k ty f=1:=by
 have h1 : ¬k=1:=by simpa using h
 have h2 : ¬k=2:=by simpa using b
 have h3 : ¬k=3:=by simpa using a
 unfold Gu;rw[Ae h1,Ae (by omega)]
def Cm (n:Nat) (T:Nat->LType) (F:Nat->LField) (i:Nat):Int :=
 if !Cb (F i).name||decide (0<=BX i F (F i).name) then 6 else Gu (F i).kind (F i).type (find n T (F i).type)
theorem KA(a fa:Option Addr)(n cap nf k i:Nat)(T:Nat->LType)(F:Nat->LField)(w:World)(E:Cs w a n T)(hF:Cl w fa nf F)(G:nf<=k)(hi:i<nf) :
  Calls Tryz.prog 137 #[.slice a n cap,.slice fa nf k,.int .i64 (i:Int)] w λe w'=>e= .returned (.int .i64 (Cm n T F i))/\Below w.heap.size w w':=by
 have N:nf<=9223372036854775807:=hF.1;obtain⟨b,o,rfl,O,P,Q,y,B,-⟩:=hF.2 i hi;have H:Hid (Cs w a n T):=E;have I:Hid (Cl w (some ⟨b,o,none⟩) nf F):=hF;clear E hF;have R:(i:Int)<(nf:Int):=by omega
 have S:(0:Int)<=(i:Int):=by omega
 have U:(i:Int)<=(k:Int):=by omega
 generalize v:w.alloc (Obj.cells #[Value.string (F i).name,Value.int IntKind.i64 (F i).kind,Value.string (F i).type] 113)=W;have hB:Below w.heap.size w W:=by rw[<-v];exact BW _ _
 have J:W.cell? ⟨w.heap.size,0,none⟩=some (.string (F i).name):=by rw[<-v,Ac _ _ _ _ rfl];rfl
 have k1:W.cell? ⟨w.heap.size,1,none⟩=some (.int .i64 (F i).kind):=by rw[<-v,Ac _ _ _ _ rfl];rfl
 have K:W.cell? ⟨w.heap.size,2,none⟩=some (.string (F i).type):=by rw[<-v,Ac _ _ _ _ rfl];rfl
 have V:=As J;have X:=As k1;have Y:=As K;have x:∀d os,Calls Tryz.prog 59 #[.string (F i).name] (grow (redrawn W d) os) λe w''=>e= .returned (.bool (Cb (F i).name))/\∃p:Regrown,w''=grow (redrawn W p.d) p.os:=λd os=>AF (Es _ _ y);have C:∀d os,Calls Tryz.prog 64 #[.slice (some ⟨b,o,none⟩) i k,.string (F i).name] (grow (redrawn W d) os) λe w''=>e= .returned (.int .i64 (BX i F (F i).name))/\∃p:Regrown,w''=grow (redrawn W p.d) p.os:=λd os=>AF (E9 _ _ _ F _ _ (((I.out.less (BF hi)).kept hB).kept (Av W d os)));have L:∀d os,Calls Tryz.prog 128 #[.slice a n cap,.string (F i).type] (grow (redrawn W d) os) λe w''=>e= .returned (.int .i64 (find n T (F i).type))/\Below (grow (redrawn W d) os).heap.size (grow (redrawn W d) os) w'':=λd os=>Ix _ _ _ T _ _ ((H.out.kept hB).kept (Av W d os));have l:∀d os,Below w.heap.size w (grow (redrawn W d) os):=λd os=>hB.trans ((Av W d os).mono hB.size);have m:∀d os u,Below (grow (redrawn W d) os).heap.size (grow (redrawn W d) os) u->Below w.heap.size w u:=λd os u h=>(l d os).trans (h.mono (l d os).size);clear J k1 K H I hB y B;have z:Hid (∀d os,Below w.heap.size w (grow (redrawn W d) os)):=l;have A:Hid (∀d os u,Below (grow (redrawn W d) os).heap.size (grow (redrawn W d) os) u->Below w.heap.size w u):=m;clear l m;cases h1:Cb (F i).name
 ·have c:Hid (Cm n T F i=6):=by unfold Cm Hid;simp[h1]
  go_enter Tryz.func137,Tryz.ntmps137
  go_wp2
  clear v;refine Ar (by kernel_rfl) (by kernel_rfl) ?_;rw[h1]at x
  repeat (go_big_quiet_step (first|exact x _ _|exact C _ _))
  refine AK ?_;intro _ q;obtain⟨⟨M,osq⟩,j⟩:=q;subst j
  go_wp2_with fail
  go_ret;exact⟨by rw[c.out];rfl,z.out _ _⟩
 by_cases h2:0<=BX i F (F i).name
 ·have c:Hid (Cm n T F i=6):=by unfold Cm Hid;simp[h1,h2]
  go_enter Tryz.func137,Tryz.ntmps137
  go_wp2
  clear v;refine Ar (by kernel_rfl) (by kernel_rfl) ?_;rw[h1]at x
  repeat (go_big_quiet_step (first|exact x _ _|exact C _ _))
  refine AK ?_;intro _ q;obtain⟨⟨M,osq⟩,j⟩:=q;subst j
  go_wp2_with fail
  go_ret;exact⟨by rw[c.out];rfl,z.out _ _⟩
 have c:Hid (Cm n T F i=Gu (F i).kind (F i).type (find n T (F i).type)):=by unfold Cm Hid;simp[h1,h2]
 go_enter Tryz.func137,Tryz.ntmps137
 go_wp2
 clear v;refine Ar (by kernel_rfl) (by kernel_rfl) ?_;rw[h1]at x
 repeat (go_big_quiet_step (first|exact x _ _|exact C _ _))
 refine AK ?_;intro _ q;obtain⟨⟨M,osq⟩,j⟩:=q;subst j
 go_wp2_with fail
 ·go_ret
  exact⟨by rw[c.out,Ug ‹_› ‹_›];rfl,z.out _ _⟩
 ·go_ret
  exact⟨by rw[c.out,Uc ‹_› ‹_›];rfl,z.out _ _⟩
 ·have g:Hid (Cm n T F i=if find n T (F i).type<0 then 5 else 0):=by unfold Hid;rw[c.out,IR (.inl ‹_›)]
  refine(L _ _).mono ?_;rintro e u ⟨rfl,r⟩;have s:=A.out _ _ _ r;clear r
  by_cases D:find n T (F i).type<0
  ·go_wp2_with fail
   go_ret;exact⟨by rw[g.out,Af D];rfl,s⟩
  ·go_wp2_with fail
   go_ret;exact⟨by rw[g.out,Ae (by omega)];rfl,s⟩
 ·have g:Hid (Cm n T F i=if find n T (F i).type<0 then 5 else 0):=by unfold Hid;rw[c.out,IR (.inr ‹_›)]
  refine(L _ _).mono ?_;rintro e u ⟨rfl,r⟩;have s:=A.out _ _ _ r;clear r
  by_cases D:find n T (F i).type<0
  ·go_wp2_with fail
   go_ret;exact⟨by rw[g.out,Af D];rfl,s⟩
  ·go_wp2_with fail
   go_ret;exact⟨by rw[g.out,Ae (by omega)];rfl,s⟩
 ·go_ret
  exact⟨by rw[c.out,Ui ‹_› ‹_› ‹_›];rfl,z.out _ _⟩
theorem Tryz.e113:∀args w,(callFunc 113 args).run Tryz.prog w= .ok (.enter 113 args) w:=AN Tryz.func113 (by kernel_rfl) rfl
theorem Tryz.e115:∀args w,(callFunc 115 args).run Tryz.prog w= .ok (.enter 115 args) w:=AN Tryz.func115 (by kernel_rfl) rfl
theorem Tryz.e136:∀args w,(callFunc 136 args).run Tryz.prog w= .ok (.enter 136 args) w:=AN Tryz.func136 (by kernel_rfl) rfl
def Ct (n:Nat) (T:Nat->LType) (nf:Nat) (F:Nat->LField):Int:=if 10<nf then 4 else (CA nf (Cm n T F)).1
def CD (n:Nat) (T:Nat->LType):Int × Int :=
 if 8<n then (4,0) else if (CA n (B6 T)).1≠0 then CA n (B6 T) else CA n (λi=>Ct n T (T i).nf (T i).F)
theorem FZ(x y:Int):∀w:World,(Instr.field 39 (.agg #[.int .i64 x,.int .i64 y]) 0).run Tryz.prog w= .ok (.int .i64 x) w:=λ_=>by kernel_rfl
theorem Jf(a fa:Option Addr)(n cap nf b i g b2:Nat)(T:Nat->LType)(F:Nat->LField)(w:World)(h:Cs w a n T)(hF:Cl w fa nf F)(c:nf<=b)(hi:i<nf)(c1:w.cell? ⟨g,0,none⟩=some (.slice a n cap))(c2:w.cell? ⟨b2,0,none⟩=some (.slice fa nf b)) :
  Calls Tryz.prog 136 #[.int .i64 (i:Int),.pointer (some ⟨g,0,none⟩),.pointer (some ⟨b2,0,none⟩)] w λe w'=>e= .returned (.int .i64 (Cm n T F i))/\Below w.heap.size w w':=by
 have hc:=KA a fa n cap nf b i T F w h hF c hi;clear h hF
 go_enter Tryz.func136,Tryz.ntmps136
 go_wp2_with fail
 refine hc.mono ?_;rintro e j ⟨rfl,d⟩
 go_wp2_with fail
 go_ret;exact⟨rfl,d⟩
theorem JI(a fa:Option Addr)(n cap nf b:Nat)(T:Nat->LType)(F:Nat->LField)(w:World)(k:Cs w a n T)(hF:Cl w fa nf F)(g:nf<=b) :
  Calls Tryz.prog 116 #[.slice a n cap,.slice fa nf b] w λe w'=>e= .returned (.int .i64 (Ct n T nf F))/\Below w.heap.size w w':=by
 have m:=zm;have j:nf<=9223372036854775807:=hF.1;have o:Hid (Cs w a n T):=k;have p:Hid (Cl w fa nf F):=hF;clear k hF
 by_cases h:10<(nf:Int)
 ·have c:Hid (Ct n T nf F=4):=by unfold Ct Hid;rw[Af (by omega)]
  go_enter Tryz.func116,Tryz.ntmps116
  go_wp2_with fail
  go_ret;exact⟨by rw[c.out];rfl,CN _ _ _⟩
 ·have c:Hid (Ct n T nf F=(CA nf (Cm n T F)).1):=by unfold Ct Hid;rw[Ae (by omega)]
  go_enter Tryz.func116,Tryz.ntmps116
  go_wp2_with fail
  refine(EB nf j 136 _ (Cm n T F) _ Tryz.e136 ?_).mono ?_
  ·intro i hi l d
   have hb:=(CN w (.cells #[.slice a n cap] 77) (.cells #[.slice fa nf b] 94)).trans (d.mono (CN w _ _).size);refine Jf a fa n cap nf b i _ _ T F l (o.out.kept hb) (p.out.kept hb) g hi (BR d ?_) (BR d ?_)
   ·rw[Az _ _ _ (by simp),Ac _ _ _ _ rfl];rfl
   ·rw[Ac _ _ _ _ (by simp)];rfl
  ·rintro e l ⟨rfl,d⟩
   unfold Dj;have q:=FZ (CA nf (Cm n T F)).1 (CA nf (Cm n T F)).2
   go_wp2_with fail
   go_ret;exact⟨by rw[c.out];rfl,(CN w _ _).trans (d.mono (CN w _ _).size)⟩
theorem P7(a:Option Addr)(n cap i d:Nat)(T:Nat->LType)(w:World)(g:Cs w a n T)(b:n<=cap)(hi:i<n)(c1:w.cell? ⟨d,0,none⟩=some (.slice a n cap)) :
  Calls Tryz.prog 113 #[.int .i64 (i:Int),.pointer (some ⟨d,0,none⟩)] w λe w'=>e= .returned (.int .i64 (B6 T i))/\Below w.heap.size w w':=by
 have hc:=IE a n cap i T w g b hi;clear g
 go_enter Tryz.func113,Tryz.ntmps113
 go_wp2_with fail
 refine hc.mono ?_;rintro e h ⟨rfl,c⟩
 go_wp2_with fail
 go_ret;exact⟨rfl,c⟩
theorem PZ(a:Option Addr)(n cap i l:Nat)(T:Nat->LType)(w:World)(j:Cs w a n T)(hi:i<n)(c1:w.cell? ⟨l,0,none⟩=some (.slice a n cap)) :
  Calls Tryz.prog 115 #[.int .i64 (i:Int),.pointer (some ⟨l,0,none⟩)] w λe w'=>e= .returned (.int .i64 (Ct n T (T i).nf (T i).F))/\Below w.heap.size w w':=by
 have hn:n<=9223372036854775807:=j.1;obtain⟨b,o,rfl,-,g,c,-,hF⟩:=j.2 i hi;have u:=As c1;have k1:=As g;have m:∀d os,Calls Tryz.prog 116 #[.slice (some ⟨b,o,none⟩) n cap,.slice (T i).fa (T i).nf (T i).fcap] (grow (redrawn w d) os) λe w''=>e= .returned (.int .i64 (Ct n T (T i).nf (T i).F))/\∃p:Regrown,w''=grow (redrawn w p.d) p.os:=λd os=>AF (JI _ _ _ _ _ _ T (T i).F _ (j.kept (Av w d os)) (hF.kept (Av w d os)) c);clear j hF g c;have q:(i:Int)<(n:Int):=by omega
 have r:(0:Int)<=(i:Int):=by omega
 go_enter Tryz.func115,Tryz.ntmps115
 go_wp2
 refine Ar (by kernel_rfl) (by kernel_rfl) ?_
 repeat (go_big_quiet_step (first|exact m _ _))
 refine AK ?_;intro _ k;obtain⟨⟨s,osq⟩,h⟩:=k;subst h
 go_wp2
 go_ret;exact⟨rfl,Av w s osq⟩
theorem FI(w:World)(o b a:Obj):Below w.heap.size w (((w.alloc o).alloc b).alloc a):=(CN w o b).alloc (by simp;omega) a
theorem Q4(a:Option Addr)(n cap:Nat)(T:Nat->LType)(w:World)(C:Cs w a n T)(y:n<=cap) :
  Calls Tryz.prog 82 #[.slice a n cap] w λe w'=>e= .returned (Dj (CD n T))/\Below w.heap.size w w':=by
 have U:=zm;have hn:n<=9223372036854775807:=C.1;have I:Hid (Cs w a n T):=C;clear C
 by_cases h:8<(n:Int)
 ·have d:Hid (CD n T=(4,0)):=by unfold CD Hid;rw[Af (by omega)]
  go_enter Tryz.func82,Tryz.ntmps82
  go_wp2_with fail
  exact At (v:=.agg #[.int .i64 4,.int .i64 0]) (by simp[results,Tryz.results82,go_sem]) rfl ⟨by rw[d.out];rfl,CN _ _ _⟩
 ·have q : ¬8<n:=by omega
  have s:Hid ((CA n (B6 T)).1≠0->CD n T=CA n (B6 T)):=λh0=>by unfold CD;rw[Ae q,Af h0]
  have u:Hid ((CA n (B6 T)).1=0->CD n T=CA n (λi=>Ct n T (T i).nf (T i).F)):=λh0=>by unfold CD;rw[Ae q,Ae (by omega)]
  clear q
  go_enter Tryz.func82,Tryz.ntmps82
  go_wp2_with fail
  generalize m:((w.alloc (Obj.cells #[Value.slice a n cap] 77)).alloc (Obj.cells #[Value.int IntKind.i64 0,Value.int IntKind.i64 0] 39))=W;have hB:Below w.heap.size w W:=by rw[<-m];exact CN _ _ _
  have A:w.heap.size+1<W.heap.size:=by rw[<-m];simp
  have c0:W.cell? ⟨w.heap.size,0,none⟩=some (.slice a n cap):=by rw[<-m,Az _ _ _ (by simp),Ac _ _ _ _ rfl];rfl
  have J:W.cell? ⟨w.heap.size+1,0,none⟩=some (.int .i64 0):=by rw[<-m,Ac _ _ _ _ (by simp)];rfl
  have K:W.cell? ⟨w.heap.size+1,1,none⟩=some (.int .i64 0):=by rw[<-m,Ac _ _ _ _ (by simp)];rfl
  have L:W.frozen? ⟨w.heap.size+1,0,none⟩=false:=by rw[<-m];exact AZ _ _ _ _ (by simp)
  have f1:W.frozen? ⟨w.heap.size+1,1,none⟩=false:=by rw[<-m];exact AZ _ _ _ _ (by simp)
  clear m;refine(EB n hn 113 _ (B6 T) _ Tryz.e113 ?_).mono ?_
  ·intro i hi o b
   exact P7 a n cap i _ T o (I.out.kept (hB.trans (b.mono hB.size))) y hi (BR b c0)
  rintro e o ⟨rfl,b⟩;have j:Below w.heap.size w o:=hB.trans (b.mono hB.size);have k:w.heap.size+1<o.heap.size:=Ah A b.size;have D:w.heap.size<o.heap.size:=by omega
  have d0:=BR b c0;have s0:=BR b J;have s1:=BR b K;have M:=(b.frozen (p:=⟨w.heap.size+1,0,none⟩) A).trans L;have N:=(b.frozen (p:=⟨w.heap.size+1,1,none⟩) A).trans f1;clear b c0 J K L f1 A hB;unfold Dj
  by_cases h0:(CA n (B6 T)).1=0
  ·have E:((CA n (B6 T)).1 != 0)=false:=by simpa using h0
   have d:Hid (CD n T=CA n (λi=>Ct n T (T i).nf (T i).F)):=u.out h0;clear h0
   go_wp2_with fail
   generalize z:o.alloc (Obj.cells #[Value.int IntKind.i64 (CA n (B6 T)).fst,Value.int IntKind.i64 (CA n (B6 T)).snd] 39)=G;have g:Below o.heap.size o G:=by rw[<-z];exact BW _ _
   clear z;have l:Below w.heap.size w G:=j.trans (g.mono j.size);have O:=BR g d0;have P:=BR g s0;have Q:=BR g s1;have R:=(g.frozen (p:=⟨w.heap.size+1,0,none⟩) k).trans M;have S:=(g.frozen (p:=⟨w.heap.size+1,1,none⟩) k).trans N;have x:w.heap.size+1<G.heap.size:=Ah k g.size;clear d0 s0 s1 M N k D j g;refine(EB n hn 115 _ (λi=>Ct n T (T i).nf (T i).F) _ Tryz.e115 ?_).mono ?_
   ·intro i hi B c
    exact PZ a n cap i _ T B (I.out.kept (l.trans (c.mono l.size))) hi (BR c O)
   rintro e B ⟨rfl,c⟩;have V:=BR c P;have X:=BR c Q;have Z:=(c.frozen (p:=⟨w.heap.size+1,0,none⟩) x).trans R;have z1:=(c.frozen (p:=⟨w.heap.size+1,1,none⟩) x).trans S;have H:Below w.heap.size w B:=l.trans (c.mono l.size);have Y:w.heap.size+1<B.heap.size:=Ah x c.size;clear c P Q R S l O;generalize CA n (λi=>Ct n T (T i).nf (T i).F)=r at *;unfold Dj
   go_wp2_with fail
   exact At (v:=.agg #[.int .i64 r.1,.int .i64 r.2]) (by simp[results,Tryz.results82,go_sem,V,X]) rfl ⟨by rw[d.out];rfl,(H.setCell (by simp) _).setCell (by simp) _⟩
  ·have E:((CA n (B6 T)).1 != 0)=true:=by simpa using h0
   have d:Hid (CD n T=CA n (B6 T)):=s.out h0;clear h0;generalize CA n (B6 T)=r at *
   go_wp2_with fail
   exact At (v:=.agg #[.int .i64 r.1,.int .i64 r.2]) (by simp[results,Tryz.results82,go_sem,s0,s1,k]) rfl ⟨by rw[d.out];rfl,((j.setCell (by simp) _).setCell (by simp) _).alloc (by simpa using j.size) _⟩
theorem Tryz.e151:∀args w,(callFunc 151 args).run Tryz.prog w= .ok (.enter 151 args) w:=AN Tryz.func151 (by kernel_rfl) rfl
theorem Tryz.e150:∀args w,(callFunc 150 args).run Tryz.prog w= .ok (.enter 150 args) w:=AN Tryz.func150 (by kernel_rfl) rfl
def Cf (X:Nat->LThing) (typ key:ByteArray) (i:Nat):Bool:=eqs (X i).type typ&&eqs (X i).key key
def hasThing (n:Nat) (X:Nat->LThing) (typ key:ByteArray):Bool:=decide (0<=Ds n (Cf X typ key))
theorem Lc(b o cap n i a b2 c:Nat)(typ key s1 d:ByteArray)(w:World)(hi:i<n)(c1:w.cell? ⟨a,0,none⟩=some (.slice (some ⟨b,o,none⟩) n cap))(c2:w.cell? ⟨b2,0,none⟩=some (.string typ))(c3:w.cell? ⟨c,0,none⟩=some (.string key))(j:w.cell? ⟨b,o+i*3,none⟩=some (.string s1))(k:w.cell? ⟨b,o+i*3+1,none⟩=some (.string d)) :
  Calls Tryz.prog 150 #[.int .i64 (i:Int),.pointer (some ⟨a,0,none⟩),.pointer (some ⟨b2,0,none⟩),.pointer (some ⟨c,0,none⟩)] w λe w'=>e= .returned (.bool (eqs s1 typ&&eqs d key))/\Below w.heap.size w w':=by
 have g:(i:Int)<(n:Int):=by omega
 have h:(0:Int)<=(i:Int):=by omega
 rw[<-CT,<-CT];cases h1:(s1.toList==typ.toList)
 all_goals
  go_enter Tryz.func150,Tryz.ntmps150
  go_wp2
  go_quiet (fail)
  go_wp2
  go_ret;exact⟨rfl,Cz _ _⟩
theorem Mt(a:Option Addr)(n cap:Nat)(X:Nat->LThing)(typ key:ByteArray)(w:World)(d:CZ w a n X) :
  Calls Tryz.prog 133 #[.slice a n cap,.string typ,.string key] w λe w'=>e= .returned (.bool (hasThing n X typ key))/\Below w.heap.size w w':=by
 have h:=zm;have j:Hid (CZ w a n X):=d;have hn:n<=9223372036854775807:=d.1;clear d;unfold hasThing
 go_enter Tryz.func133,Tryz.ntmps133
 go_wp2_with fail
 refine(Gx n hn 150 _ (Cf X typ key) _ Tryz.e150 ?_).mono ?_
 ·intro i hi g c
  obtain⟨b,o,rfl,hc,hk,-⟩:=j.out.2 i hi;have hb:=(FI w (.cells #[.slice (some ⟨b,o,none⟩) n cap] 79) (.cells #[.string typ] 9) (.cells #[.string key] 9)).trans (c.mono (FI w _ _ _).size);refine Lc b o cap n i _ _ _ typ key (X i).type (X i).key g hi (BR c ?_) (BR c ?_) (BR c ?_) (BR hb hc) (BR hb hk)
  ·rw[Az _ _ _ (by simp;omega),Az _ _ _ (by simp),Ac _ _ _ _ rfl];rfl
  ·rw[Az _ _ _ (by simp),Ac _ _ _ _ (by simp)];rfl
  ·rw[Ac _ _ _ _ (by simp)];rfl
 ·rintro e g ⟨rfl,c⟩
  go_wp2
  go_ret;exact⟨rfl,(FI w _ _ _).trans (c.mono (FI w _ _ _).size)⟩
def Gi (e:Bool) (k:Int) (n t:Nat) (x:Int):Int :=
 if e=false then 6 else if (k=1/\0<n)\/(k≠1/\t≠0) then 7 else if 20<n\/(k=2/\1<n) then 4 else if 40<t then 3 else if 0<=x then 6 else 0
def CK (f:LField) (v:LVal):Int:=Gi (eqs v.field f.name) f.kind v.nk v.text.size (Ds v.nk (λi => !Cb (v.K i)))
theorem T7{e:Bool}{k:Int}{n t:Nat}{x:Int}(h:(!e)=true):Gi e k n t x=6:=by
 have a:e=false:=by simpa using h
 unfold Gi;rw[Af a]
theorem Qu{e:Bool}{k:Int}{n t:Nat}{x:Int}(h:(!e)=false)(h1:(k=1/\0<n)\/(k≠1/\t≠0)):Gi e k n t x=7:=by
 have a : ¬e=false:=by simpa using h
 unfold Gi;rw[Ae a,Af h1]
theorem Qr{e:Bool}{k:Int}{n t:Nat}{x:Int}(h:(!e)=false)(h1 : ¬((k=1/\0<n)\/(k≠1/\t≠0)))(h2:20<n\/(k=2/\1<n)):Gi e k n t x=4:=by
 have a : ¬e=false:=by simpa using h
 unfold Gi;rw[Ae a,Ae h1,Af h2]
theorem Uk{e:Bool}{k:Int}{n t:Nat}{x:Int}(h:(!e)=false)(h1 : ¬((k=1/\0<n)\/(k≠1/\t≠0)))(h2 : ¬(20<n\/(k=2/\1<n)))(h3:40<t):Gi e k n t x=3:=by
 have a : ¬e=false:=by simpa using h
 unfold Gi;rw[Ae a,Ae h1,Ae h2,Af h3]
theorem LX{e:Bool}{k:Int}{n t:Nat}{x:Int}(h:(!e)=false)(h1 : ¬((k=1/\0<n)\/(k≠1/\t≠0)))(h2 : ¬(20<n\/(k=2/\1<n)))(h3 : ¬40<t):Gi e k n t x=if 0<=x then 6 else 0:=by
 have a : ¬e=false:=by simpa using h
 unfold Gi;rw[Ae a,Ae h1,Ae h2,Ae h3]
theorem FK{k:Int}{s:ByteArray}(h : ¬k=1)(a:(!k==1)=false\/(!s.toList.isEmpty)=false):s.size=0:=by
 rcases a with a|a
 ·exact absurd (by simpa using a) h
 ·exact Ef.1 (by simpa using a)
theorem NH{k:Int}{s:ByteArray}(a:(!k==1)=true/\(!s.toList.isEmpty)=true) : ¬s.size=0:=λe=>by
 have:=a.2;rw[Ef.2 e]at this;simp at this
theorem Le(c b o cap n i:Nat)(s:ByteArray)(w:World)(hi:i<n)(hs:BY s)(c1:w.cell? ⟨c,2,none⟩=some (.slice (some ⟨b,o,none⟩) n cap))(c2:w.cell? ⟨b,o+i,none⟩=some (.string s)) :
  Calls Tryz.prog 151 #[.int .i64 (i:Int),.pointer (some ⟨c,0,none⟩)] w λe w'=>e= .returned (.bool (!Cb s))/\Below w.heap.size w w':=by
 have d:(i:Int)<(n:Int):=by omega
 have g:(0:Int)<=(i:Int):=by omega
 have hc:=Es s w hs
 go_enter Tryz.func151,Tryz.ntmps151
 go_wp2_with fail
 refine hc.mono ?_;rintro e h ⟨rfl,a⟩
 go_wp2_with fail
 go_ret;exact⟨rfl,a⟩
theorem MB(f:LField)(v:LVal)(w:World)(hv:CF w v.ka v.nk v.K) :
  Calls Tryz.prog 135 #[.agg #[.string f.name,.int .i64 f.kind,.string f.type],.agg #[.string v.field,.string v.text,.slice v.ka v.nk v.kcap]] w λe w'=>e= .returned (.int .i64 (CK f v))/\Below w.heap.size w w':=by
 have q:=zm;have p:Hid (CF w v.ka v.nk v.K):=hv;have hn:v.nk<=9223372036854775807:=hv.1;clear hv;have g:Hid (∀m h:World,(∃o n,m=(w.alloc o).alloc n)->Below m.heap.size m h->Below w.heap.size w h):=by
  rintro m h ⟨o,n,rfl⟩ a;exact(CN w o n).trans (a.mono (CN w o n).size)
 have d:Hid (∀(k:Int),Calls Tryz.prog 90 #[.int .i64 (v.nk:Int),.func (.func 151) #[] #[.pointer (some ⟨w.heap.size+1,0,none⟩)]] ((w.alloc (.cells #[.string f.name,.int .i64 k,.string f.type] 113)).alloc (.cells #[.string v.field,.string v.text,.slice v.ka v.nk v.kcap] 120)) λe w'=>e= .returned (.int .i64 (Ds v.nk (λi => !Cb (v.K i))))/\Below w.heap.size w w'):=by
  intro k;refine(Gx v.nk hn 151 _ (λi => !Cb (v.K i)) _ Tryz.e151 ?_).mono ?_
  ·intro i hi h a
   obtain⟨b,o,ha,hc,hs⟩:=p.out.2 i hi;refine Le _ b o v.kcap v.nk i (v.K i) h hi hs (BR a ?_) (BR (g.out _ _ ⟨_,_,rfl⟩ a) hc);rw[Ac _ _ _ _ (by simp),<-ha];rfl
  ·rintro e h ⟨rfl,a⟩
   exact⟨rfl,g.out _ _ ⟨_,_,rfl⟩ a⟩
 have hx:Hid (CK f v=Gi (v.field.toList==f.name.toList) f.kind v.nk v.text.size (Ds v.nk (λi => !Cb (v.K i)))):=by unfold Hid CK;rw[<-CT]
 clear g p
 go_enter Tryz.func135,Tryz.ntmps135
 go_wp2_with fail
 ·go_ret
  exact⟨by rw[hx.out,T7 ‹_›];rfl,CN _ _ _⟩
 ·go_ret
  exact⟨by rw[hx.out,Qu ‹_› (.inl ⟨‹_›,‹0<v.nk›⟩)];rfl,CN _ _ _⟩
 ·have hk:f.kind=1 := ‹f.kind=1›
  have h2 : ¬0<v.nk := ‹_›;have h3:40<(v.text.size:Int) := ‹_›;go_ret;exact⟨by rw[hx.out,Uk ‹_› (by omega) (by omega) (by omega)];rfl,CN _ _ _⟩
 ·have hk:f.kind=1 := ‹f.kind=1›
  have h2 : ¬0<v.nk := ‹_›;have h3:(v.text.size:Int)<=40 := ‹_›;have c:Hid (CK f v=if 0<=Ds v.nk (λi => !Cb (v.K i)) then 6 else 0):=by unfold Hid;rw[hx.out,LX ‹_› (by omega) (by omega) (by omega)]
  refine(d.out _).mono ?_;rintro e h ⟨rfl,a⟩
  by_cases j:0<=Ds v.nk (λi => !Cb (v.K i))
  ·go_wp2_with fail
   go_ret;exact⟨by rw[c.out,Af j];rfl,a⟩
  ·go_wp2_with fail
   go_ret;exact⟨by rw[c.out,Ae (by omega)];rfl,a⟩
 ·have hk : ¬f.kind=1 := ‹_›
  go_ret;exact⟨by rw[hx.out,Qu ‹_› (.inr ⟨hk,NH ‹_›⟩)];rfl,CN _ _ _⟩
 ·have hk : ¬f.kind=1 := ‹_›
  have h2:=FK hk ‹_›;have h3:20<(v.nk:Int) := ‹_›;go_ret;exact⟨by rw[hx.out,Qr ‹_› (by omega) (by omega)];rfl,CN _ _ _⟩
 ·have hk : ¬f.kind=1 := ‹_›
  have h2:=FK hk ‹_›;have l:f.kind=2 := ‹_›;have h3:1<(v.nk:Int) := ‹_›;go_ret;exact⟨by rw[hx.out,Qr ‹_› (by omega) (by omega)];rfl,CN _ _ _⟩
 ·have hk : ¬f.kind=1 := ‹_›
  have h2:=FK hk ‹_›;have h3:40<(v.text.size:Int) := ‹_›;omega
 ·have hk : ¬f.kind=1 := ‹_›
  have h2:=FK hk ‹_›;have l:f.kind=2 := ‹_›;have h3:(v.nk:Int)<=1 := ‹_›;have c:Hid (CK f v=if 0<=Ds v.nk (λi => !Cb (v.K i)) then 6 else 0):=by unfold Hid;rw[hx.out,LX ‹_› (by omega) (by omega) (by omega)]
  refine(d.out _).mono ?_;rintro e h ⟨rfl,a⟩
  by_cases j:0<=Ds v.nk (λi => !Cb (v.K i))
  ·go_wp2_with fail
   go_ret;exact⟨by rw[c.out,Af j];rfl,a⟩
  ·go_wp2_with fail
   go_ret;exact⟨by rw[c.out,Ae (by omega)];rfl,a⟩
 ·have hk : ¬f.kind=1 := ‹¬f.kind=1›
  have h2:=FK hk ‹_›;have h3:40<(v.text.size:Int) := ‹_›;omega
 ·have hk : ¬f.kind=1 := ‹¬f.kind=1›
  have h2:=FK hk ‹_›;have l : ¬f.kind=2 := ‹_›;have h3:(v.nk:Int)<=20 := ‹_›;have c:Hid (CK f v=if 0<=Ds v.nk (λi => !Cb (v.K i)) then 6 else 0):=by unfold Hid;rw[hx.out,LX ‹_› (by omega) (by omega) (by omega)]
  refine(d.out _).mono ?_;rintro e h ⟨rfl,a⟩
  by_cases j:0<=Ds v.nk (λi => !Cb (v.K i))
  ·go_wp2_with fail
   go_ret;exact⟨by rw[c.out,Af j];rfl,a⟩
  ·go_wp2_with fail
   go_ret;exact⟨by rw[c.out,Ae (by omega)];rfl,a⟩
theorem Tryz.e134:∀args w,(callFunc 134 args).run Tryz.prog w= .ok (.enter 134 args) w:=AN Tryz.func134 (by kernel_rfl) rfl
theorem Tryz.e111:∀args w,(callFunc 111 args).run Tryz.prog w= .ok (.enter 111 args) w:=AN Tryz.func111 (by kernel_rfl) rfl
theorem JS(fa:Option Addr)(nf a l b2 j:Nat)(F:Nat->LField)(x:LThing)(w:World)(hF:Cl w fa nf F)(h:Ec w x.va x.nv x.V)(y:j<nf)(i:j<x.nv)(c1:w.cell? ⟨l,0,none⟩=some (.slice fa nf a))(c2:w.cell? ⟨b2,2,none⟩=some (.slice x.va x.nv x.vcap)) :
  Calls Tryz.prog 134 #[.int .i64 (j:Int),.pointer (some ⟨l,0,none⟩),.pointer (some ⟨b2,0,none⟩)] w λe w'=>e= .returned (.int .i64 (CK (F j) (x.V j)))/\Below w.heap.size w w':=by
 have z:(j:Int)<(nf:Int):=by omega
 have m:(j:Int)<(x.nv:Int):=by omega
 have A:(0:Int)<=(j:Int):=by omega
 have B:nf<=9223372036854775807:=hF.1;have C:x.nv<=9223372036854775807:=h.1;obtain⟨b,o,rfl,n,f1,q,-⟩:=hF.2 j y;obtain⟨G,H,c,r,s,u,-,-,-,v⟩:=h.2 j i;rw[c]at c2;clear hF h c;have k1:=As c1;have I:=As c2;have J:=As n;have K:=As f1;have L:=As q;have M:=As r;have N:=As s;have O:=As u;have D:∀d os,Calls Tryz.prog 135 #[.agg #[.string (F j).name,.int .i64 (F j).kind,.string (F j).type],.agg #[.string (x.V j).field,.string (x.V j).text,.slice (x.V j).ka (x.V j).nk (x.V j).kcap]] (grow (redrawn w d) os) λe w''=>e= .returned (.int .i64 (CK (F j) (x.V j)))/\∃p:Regrown,w''=grow (redrawn w p.d) p.os:=λd os=>AF (MB (F j) (x.V j) _ (v.kept (Av w d os)));clear v c1 c2 n f1 q r s u
 go_enter Tryz.func134,Tryz.ntmps134
 go_wp2
 refine Ar (by kernel_rfl) (by kernel_rfl) ?_
 repeat (go_big_quiet_step (first|exact D _ _))
 refine AK ?_;intro _ k;obtain⟨⟨E,osq⟩,g⟩:=k;subst g
 go_wp2
 go_ret;exact⟨rfl,Av w E osq⟩
def Cv (n:Nat) (T:Nat->LType) (X:Nat->LThing) (i:Nat):Int :=
 if find n T (X i).type<0 then 5
 else if !Cb (X i).key||hasThing i X (X i).type (X i).key then 6
 else if (X i).nv≠(T (find n T (X i).type).toNat).nf then 4
 else (CA (T (find n T (X i).type).toNat).nf (λj=>CK ((T (find n T (X i).type).toNat).F j) ((X i).V j))).1
def Cu (n:Nat) (T:Nat->LType) (m:Nat) (X:Nat->LThing):Int × Int:=if 60<m then (4,0) else CA m (Cv n T X)
theorem KY(a xa:Option Addr)(n cap m s i:Nat)(T:Nat->LType)(X:Nat->LThing)(w:World)(P:Cs w a n T)(M:CZ w xa m X)(Q:m<=s)(hi:i<m) :
  Calls Tryz.prog 112 #[.slice a n cap,.slice xa m s,.int .i64 (i:Int)] w λe w'=>e= .returned (.int .i64 (Cv n T X i))/\Below w.heap.size w w':=by
 have hmf:=zm;have hm:m<=9223372036854775807:=M.1;have hn:n<=9223372036854775807:=P.1;obtain⟨b,o,rfl,x0,x1,x2,-,hs0,R,hV⟩:=M.2 i hi;have S:Hid (Cs w a n T):=P;have HX:Hid (CZ w (some ⟨b,o,none⟩) m X):=M;have HV:Hid (Ec w (X i).va (X i).nv (X i).V):=hV;clear P M hV;have hi':(i:Int)<(m:Int):=by omega
 have hi0:(0:Int)<=(i:Int):=by omega
 have hic:(i:Int)<=(s:Int):=by omega
 generalize H:w.alloc (Obj.cells #[Value.string (X i).type,Value.string (X i).key,Value.slice (X i).va (X i).nv (X i).vcap] 88)=W;have hB:Below w.heap.size w W:=by rw[<-H];exact BW _ _
 have hz:w.heap.size<W.heap.size:=by rw[<-H];simp
 have k0:W.cell? ⟨w.heap.size,0,none⟩=some (.string (X i).type):=by rw[<-H,Ac _ _ _ _ rfl];rfl
 have k1:W.cell? ⟨w.heap.size,1,none⟩=some (.string (X i).key):=by rw[<-H,Ac _ _ _ _ rfl];rfl
 have k2:W.cell? ⟨w.heap.size,2,none⟩=some (.slice (X i).va (X i).nv (X i).vcap):=by rw[<-H,Ac _ _ _ _ rfl];rfl
 go_enter Tryz.func112,Tryz.ntmps112
 go_wp2_with fail
 clear H x0 x1 x2;refine(Ix a n cap T (X i).type W (S.out.kept hB)).mono ?_;rintro e v ⟨rfl,x⟩;have l:Below w.heap.size w v:=hB.trans (x.mono hB.size);have J:w.heap.size<v.heap.size:=Ah hz x.size;have l0:=BR x k0;have l1:=BR x k1;have l2:=BR x k2;clear k0 k1 k2 hB hz x
 by_cases N:find n T (X i).type<0
 ·have g:Hid (Cv n T X i=5):=by unfold Cv Hid;rw[Af N]
  go_wp2_with fail
  go_ret;exact⟨by rw[g.out];rfl,l⟩
 obtain⟨t,U,E⟩:∃t:Nat,t<n/\find n T (X i).type=(t:Int):=by
  rcases CE n (λj=>eqs (T j).name (X i).type) with⟨h,_⟩|⟨t,U,h,_⟩
  ·exact absurd (show find n T (X i).type<0 by unfold find;omega) N
  ·exact⟨t,U,h⟩
 have g:Hid (Cv n T X i=if !Cb (X i).key||hasThing i X (X i).type (X i).key then 6 else if (X i).nv≠(T t).nf then 4 else (CA (T t).nf (λj=>CK ((T t).F j) ((X i).V j))).1):=by
  unfold Cv Hid;rw[Ae N,E,Ax]
 rw[E];clear E N;have ht0 : ¬(t:Int)<0:=by omega
 have ht':(t:Int)<(n:Int):=by omega
 go_wp2_with fail
 have r0:=As l0;have r1:=As l1;have G:∀d os,Calls Tryz.prog 59 #[.string (X i).key] (grow (redrawn v d) os) λe w''=>e= .returned (.bool (Cb (X i).key))/\∃p:Regrown,w''=grow (redrawn v p.d) p.os:=λd os=>AF (Es _ _ R);have I:∀d os,Calls Tryz.prog 133 #[.slice (some ⟨b,o,none⟩) i s,.string (X i).type,.string (X i).key] (grow (redrawn v d) os) λe w''=>e= .returned (.bool (hasThing i X (X i).type (X i).key))/\∃p:Regrown,w''=grow (redrawn v p.d) p.os:=λd os=>AF (Mt _ _ _ X _ _ _ (((HX.out.less (BF hi)).kept l).kept (Av v d os)));have A:Hid (∀d os,Below w.heap.size w (grow (redrawn v d) os)):=λd os=>l.trans ((Av v d os).mono l.size);cases h1:Cb (X i).key
 ·have c:Hid (Cv n T X i=6):=by unfold Hid;rw[g.out];simp[h1]
  rw[h1]at G;refine Ar (by kernel_rfl) (by kernel_rfl) ?_
  repeat (go_big_quiet_step (first|exact G _ _|exact I _ _))
  refine AK ?_;intro _ B;obtain⟨⟨O,osq⟩,k⟩:=B;subst k
  go_wp2_with fail
  go_ret;exact⟨by rw[c.out];rfl,A.out _ _⟩
 cases h2:hasThing i X (X i).type (X i).key
 case true =>
  have c:Hid (Cv n T X i=6):=by unfold Hid;rw[g.out];simp[h2]
  rw[h1]at G;rw[h2]at I;refine Ar (by kernel_rfl) (by kernel_rfl) ?_
  repeat (go_big_quiet_step (first|exact G _ _|exact I _ _))
  refine AK ?_;intro _ B;obtain⟨⟨O,osq⟩,k⟩:=B;subst k
  go_wp2_with fail
  go_ret;exact⟨by rw[c.out];rfl,A.out _ _⟩
 case false =>
  have c:Hid (Cv n T X i=if (X i).nv≠(T t).nf then 4 else (CA (T t).nf (λj=>CK ((T t).F j) ((X i).V j))).1):=by unfold Hid;rw[g.out];simp[h1,h2]
  rw[h1]at G;rw[h2]at I;clear h1 h2 g;refine Ar (by kernel_rfl) (by kernel_rfl) ?_
  repeat (go_big_quiet_step (first|exact G _ _|exact I _ _))
  refine AK ?_;intro _ B;obtain⟨⟨O,osq⟩,k⟩:=B;have C:Below v.heap.size v (grow (redrawn v O) osq):=Av v O osq;rw[<-k]at C;clear k G I r0 r1 A;rename_i u;have y:Below w.heap.size w u:=l.trans (C.mono l.size);have hz2:w.heap.size<u.heap.size:=Ah J C.size;have m2:=BR C l2;clear l0 l1 l2 l C J;have K:Hid (Cs u a n T):=S.out.kept y;obtain⟨b2,o2,ha,-,t1,-,-,hF⟩:=K.out.2 t U;have HF:Hid (Cl u (T t).fa (T t).nf (T t).F):=hF;have Y:Hid (Ec u (X i).va (X i).nv (X i).V):=HV.out.kept y;have Z:(T t).nf<=9223372036854775807:=hF.1;clear hF K S HX HV;subst ha
  by_cases h4:(X i).nv=(T t).nf
  ·have aa:(((X i).nv:Int) != ((T t).nf:Int))=false:=by simp[h4]
   have q:Hid (Cv n T X i=(CA (T t).nf (λj=>CK ((T t).F j) ((X i).V j))).1):=by unfold Hid;rw[c.out,Ae (by omega)]
   have ab:Hid ((X i).nv=(T t).nf):=h4;clear h4
   go_wp2_with fail
   refine(EB (T t).nf Z 134 _ (λj=>CK ((T t).F j) ((X i).V j)) _ Tryz.e134 ?_).mono ?_
   ·intro j hj L D
    have z:Below u.heap.size u L:=(BW u (.cells #[.slice (T t).fa (T t).nf (T t).fcap] 94)).trans (D.mono (BW u _).size);refine JS (T t).fa (T t).nf (T t).fcap _ _ j (T t).F (X i) L (HF.out.kept z) (Y.out.kept z) hj (by rw[ab.out];exact hj) (BR D ?_) (BR z m2);rw[Ac _ _ _ _ rfl];rfl
   rintro e L ⟨rfl,D⟩;have z:Below u.heap.size u L:=(BW u (.cells #[.slice (T t).fa (T t).nf (T t).fcap] 94)).trans (D.mono (BW u _).size);have ac:Below w.heap.size w L:=y.trans (z.mono y.size);clear D z;generalize CA (T t).nf (λj=>CK ((T t).F j) ((X i).V j))=r at *;unfold Dj;have hfd:=FZ r.1 r.2
   go_wp2_with fail
   go_ret;exact⟨by rw[q.out];rfl,ac⟩
  ·have aa:(((X i).nv:Int) != ((T t).nf:Int))=true:=by rw[bne_iff_ne];omega
   have q:Hid (Cv n T X i=4):=by unfold Hid;rw[c.out,Af h4]
   clear h4
   go_wp2_with fail
   go_ret;exact⟨by rw[q.out];rfl,y.trans ((BW u _).mono y.size)⟩
theorem Nz(a d:Option Addr)(n cap m b i h b2:Nat)(T:Nat->LType)(X:Nat->LThing)(w:World)(j:Cs w a n T)(k:CZ w d m X)(c:m<=b)(hi:i<m)(c1:w.cell? ⟨h,0,none⟩=some (.slice a n cap))(c2:w.cell? ⟨b2,0,none⟩=some (.slice d m b)) :
  Calls Tryz.prog 111 #[.int .i64 (i:Int),.pointer (some ⟨h,0,none⟩),.pointer (some ⟨b2,0,none⟩)] w λe w'=>e= .returned (.int .i64 (Cv n T X i))/\Below w.heap.size w w':=by
 have hc:=KY a d n cap m b i T X w j k c hi;clear j k
 go_enter Tryz.func111,Tryz.ntmps111
 go_wp2_with fail
 refine hc.mono ?_;rintro e l ⟨rfl,g⟩
 go_wp2_with fail
 go_ret;exact⟨rfl,g⟩
theorem PK(a l:Option Addr)(n cap m c:Nat)(T:Nat->LType)(X:Nat->LThing)(w:World)(u:Cs w a n T)(s:CZ w l m X)(k:m<=c) :
  Calls Tryz.prog 81 #[.slice a n cap,.slice l m c] w λe w'=>e= .returned (Dj (Cu n T m X))/\Below w.heap.size w w':=by
 have A:=zm;have B:m<=9223372036854775807:=s.1;have C:Hid (Cs w a n T):=u;have D:Hid (CZ w l m X):=s;clear u s
 by_cases h:60<(m:Int)
 ·have d:Hid (Cu n T m X=(4,0)):=by unfold Cu Hid;rw[Af (by omega)]
  go_enter Tryz.func81,Tryz.ntmps81
  go_wp2_with fail
  exact At (v:=.agg #[.int .i64 4,.int .i64 0]) (by simp[results,Tryz.results81,go_sem]) rfl ⟨by rw[d.out];rfl,FI _ _ _ _⟩
 ·have d:Hid (Cu n T m X=CA m (Cv n T X)):=by unfold Cu Hid;rw[Ae (by omega)]
  go_enter Tryz.func81,Tryz.ntmps81
  go_wp2_with fail
  generalize g:(((w.alloc (Obj.cells #[Value.slice a n cap] 77)).alloc (Obj.cells #[Value.slice l m c] 79)).alloc (Obj.cells #[Value.int IntKind.i64 0,Value.int IntKind.i64 0] 39))=W;have hB:Below w.heap.size w W:=by rw[<-g];exact FI _ _ _ _
  have o:w.heap.size+2<W.heap.size:=by rw[<-g];simp
  have c0:W.cell? ⟨w.heap.size,0,none⟩=some (.slice a n cap):=by rw[<-g,Az _ _ _ (by simp;omega),Az _ _ _ (by simp),Ac _ _ _ _ rfl];rfl
  have c1:W.cell? ⟨w.heap.size+1,0,none⟩=some (.slice l m c):=by rw[<-g,Az _ _ _ (by simp),Ac _ _ _ _ (by simp)];rfl
  have x:W.cell? ⟨w.heap.size+2,0,none⟩=some (.int .i64 0):=by rw[<-g,Ac _ _ _ _ (by simp)];rfl
  have y:W.cell? ⟨w.heap.size+2,1,none⟩=some (.int .i64 0):=by rw[<-g,Ac _ _ _ _ (by simp)];rfl
  have z:W.frozen? ⟨w.heap.size+2,0,none⟩=false:=by rw[<-g];exact AZ _ _ _ _ (by simp)
  have f1:W.frozen? ⟨w.heap.size+2,1,none⟩=false:=by rw[<-g];exact AZ _ _ _ _ (by simp)
  clear g;refine(EB m B 111 _ (Cv n T X) _ Tryz.e111 ?_).mono ?_
  ·intro i hi q b
   have j:=hB.trans (b.mono hB.size);exact Nz a l n cap m c i _ _ T X q (C.out.kept j) (D.out.kept j) k hi (BR b c0) (BR b c1)
  rintro e q ⟨rfl,b⟩;have s0:=BR b x;have s1:=BR b y;have F:=(b.frozen (p:=⟨w.heap.size+2,0,none⟩) o).trans z;have G:=(b.frozen (p:=⟨w.heap.size+2,1,none⟩) o).trans f1;have j:Below w.heap.size w q:=hB.trans (b.mono hB.size);have E:w.heap.size+2<q.heap.size:=Ah o b.size;clear b c0 c1 x y z f1 hB o;generalize CA m (Cv n T X)=r at *;unfold Dj
  go_wp2_with fail
  exact At (v:=.agg #[.int .i64 r.1,.int .i64 r.2]) (by simp[results,Tryz.results81,go_sem,s0,s1]) rfl ⟨by rw[d.out];rfl,(j.setCell (by simp;omega) _).setCell (by simp;omega) _⟩
end Go.Proofs.YtjjggefmmeminabGreat
