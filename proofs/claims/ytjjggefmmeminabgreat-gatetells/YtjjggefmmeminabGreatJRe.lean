import Derived.Test.YtjjggefmmeminabGreatJPl
set_option maxHeartbeats 2000000
namespace Go.Proofs.YtjjggefmmeminabGreat
open Go.RowKit Go.Sort Go.PlainAid
def Gg (a:Option Addr) (n:Nat) (T:Nat->LType) (name:ByteArray):Value :=
 if find n T name<0 then .pointer none else .pointer (a.map λb=>⟨b.block,b.off+(find n T name).toNat*2,none⟩)
theorem Fa{a:Option Addr}{n:Nat}{T:Nat->LType}{name:ByteArray}(h:find n T name<0):Gg a n T name= .pointer none:=by unfold Gg;rw[Af h]
theorem Fe{b o n t:Nat}{T:Nat->LType}{name:ByteArray}(h:find n T name=(t:Int)):Gg (some ⟨b,o,none⟩) n T name= .pointer (some ⟨b,o+t*2,none⟩):=by
 unfold Gg;rw[h,Ae (by omega),Ax];rfl
theorem Ge(a:Option Addr)(n cap:Nat)(T:Nat->LType)(name:ByteArray)(w:World)(g:Cs w a n T) :
  Calls Tryz.prog 103 #[.slice a n cap,.string name] w λe w'=>e= .returned (Gg a n T name)/\Below w.heap.size w w':=by
 have hn:n<=9223372036854775807:=g.1;have p:Hid (Cs w a n T):=g;clear g
 go_enter Tryz.func103,Tryz.ntmps103
 go_wp2_with fail
 go_loop [8] (λi => ∃k:Nat,k<=n/\i= .int .i64 k/\Hid (∀j,j<k->eqs (T j).name name=false)) (λi=>n - (intOf i).toNat)
 case atStart=>exact⟨0,Ai _,rfl,(λj d=>absurd d (Ak _))⟩
 case round =>
  obtain⟨k,hk,rfl,hb⟩:=hrel
  by_cases c:k<n
  ·obtain⟨b,o,ha,hc,-⟩:=p.out.2 k c
   subst ha;have m:(k:Int)<(n:Int):=by omega
   have q:(0:Int)<=(k:Int):=by omega
   cases he:((T k).name.toList==name.toList)
   ·have l:Hid (∀j,j<k+1->eqs (T j).name name=false):=λj d=>by
     rcases Nat.lt_succ_iff_lt_or_eq.1 d with h|h
     ·exact hb j h
     ·rw[h,<-CT];exact he
    go_wp2_with fail
    go_round
    case rel=>exact⟨k+1,by omega,by go_num,l⟩
    case measure=>simp[intOf];omega
   ·have hq:Hid (Gg (some ⟨b,o,none⟩) n T name= .pointer (some ⟨b,o+k*2,none⟩)):=Fe (DD c (by show eqs (T k).name name=true;rw[<-CT];exact he) hb.out)
    go_wp2_with fail
    go_ret;exact⟨by rw[hq.out];rfl,Aq _ _⟩
  ·have hq:Hid (Gg a n T name= .pointer none):=Fa (show Ds _ _<0 from Dq.2 (λj d=>hb.out j (by omega)))
   go_wp2_with fail
   go_ret;exact⟨by rw[hq.out];rfl,Aq _ _⟩
theorem Gs(a:Option Addr)(n cap:Nat)(F:Nat->LField)(name:ByteArray)(w:World)(hF:Cl w a n F) :
  Calls Tryz.prog 45 #[.slice a n cap,.string name] w λe w'=>e= .returned (.int .i64 (BX n F name))/\Below w.heap.size w w':=by
 have hn:n<=9223372036854775807:=hF.1;have p:Hid (Cl w a n F):=hF;clear hF
 go_enter Tryz.func45,Tryz.ntmps45
 go_wp2_with fail
 go_loopw [9] (λi wr => ∃k:Nat,k<=n/\i= .int .i64 k/\Hid (∀j,j<k->eqs (F j).name name=false)/\Below w.heap.size w wr) (λi _=>n - (intOf i).toNat)
 case atStart=>exact⟨0,Ai _,rfl,(λj g=>absurd g (Ak _)),Aq _ _⟩
 case round =>
  obtain⟨k,hk,rfl,hb,c⟩:=hrel
  by_cases d:k<n
  ·obtain⟨b,o,ha,q,r,s,-⟩:=(p.out.kept c).2 k d
   subst ha;have m:(k:Int)<(n:Int):=by omega
   have u:(0:Int)<=(k:Int):=by omega
   cases he:((F k).name.toList==name.toList)
   ·have l:Hid (∀j,j<k+1->eqs (F j).name name=false):=λj g=>by
     rcases Nat.lt_succ_iff_lt_or_eq.1 g with h|h
     ·exact hb j h
     ·rw[h,<-CT];exact he
    go_wp2_with fail
    go_roundw
    case rel=>exact⟨k+1,by omega,by go_num,l,c.trans ((BW wr _).mono c.size)⟩
    case measure=>simp[intOf];omega
   ·have hq:Hid (BX n F name=(k:Int)):=DD d (by show eqs (F k).name name=true;rw[<-CT];exact he) hb.out
    go_wp2_with fail
    go_ret;exact⟨by rw[hq.out];rfl,c.trans ((BW wr _).mono c.size)⟩
  ·have hq:Hid (BX n F name = -1):=Em (λj g=>hb.out j (by omega))
   go_wp2_with fail
   go_ret;exact⟨by rw[hq.out];rfl,c⟩
theorem J4(a:Option Addr)(n cap:Nat)(F:Nat->LField)(name:ByteArray)(w:World)(hF:Cl w a n F) :
  Calls Tryz.prog 41 #[.slice a n cap,.string name] w λe w'=>e= .returned (.bool (decide (0<=BX n F name)))/\Below w.heap.size w w':=by
 have hc:=Gs a n cap F name w hF;clear hF
 go_enter Tryz.func41,Tryz.ntmps41
 go_wp2_with fail
 refine hc.mono ?_;rintro e c ⟨rfl,b⟩
 go_wp2_with fail
 go_ret;exact⟨rfl,b⟩
def ER (a:Option Addr) (n:Nat) (X:Nat->LThing) (typ key:ByteArray):Value :=
 if Ds n (Cf X typ key)<0 then .pointer none else .pointer (a.map λb=>⟨b.block,b.off+(Ds n (Cf X typ key)).toNat*3,none⟩)
theorem Hz{a:Option Addr}{n:Nat}{X:Nat->LThing}{typ key:ByteArray}(h:Ds n (Cf X typ key)<0):ER a n X typ key= .pointer none:=by unfold ER;rw[Af h]
theorem H4{b o n t:Nat}{X:Nat->LThing}{typ key:ByteArray}(h:Ds n (Cf X typ key)=(t:Int)):ER (some ⟨b,o,none⟩) n X typ key= .pointer (some ⟨b,o+t*3,none⟩):=by
 unfold ER;rw[h,Ae (by omega),Ax];rfl
theorem FL(a:Option Addr)(n cap:Nat)(X:Nat->LThing)(typ key:ByteArray)(w:World)(q:CZ w a n X) :
  Calls Tryz.prog 44 #[.slice a n cap,.string typ,.string key] w λe w'=>e= .returned (ER a n X typ key)/\Below w.heap.size w w':=by
 have hn:n<=9223372036854775807:=q.1;have s:Hid (CZ w a n X):=q;clear q
 go_enter Tryz.func44,Tryz.ntmps44
 go_wp2_with fail
 go_loop [10] (λi => ∃k:Nat,k<=n/\i= .int .i64 k/\Hid (∀j,j<k->Cf X typ key j=false)) (λi=>n - (intOf i).toNat)
 case atStart=>exact⟨0,Ai _,rfl,(λj p=>absurd p (Ak _))⟩
 case round =>
  obtain⟨k,hk,rfl,hb⟩:=hrel
  by_cases g:k<n
  ·obtain⟨b,o,ha,hc,u,-⟩:=s.out.2 k g
   subst ha;have r:(k:Int)<(n:Int):=by omega
   have v:(0:Int)<=(k:Int):=by omega
   have l:Hid (Cf X typ key k=false->∀j,j<k+1->Cf X typ key j=false):=λh0 j p=>by
    rcases Nat.lt_succ_iff_lt_or_eq.1 p with h|h
    ·exact hb j h
    ·rw[h];exact h0
   have c:Hid (Cf X typ key k=(((X k).type.toList==typ.toList)&&((X k).key.toList==key.toList))):=by unfold Hid Cf;rw[CT,CT]
   cases he:((X k).type.toList==typ.toList)
   ·have d:Hid (∀j,j<k+1->Cf X typ key j=false):=l.out (by rw[c.out,he];rfl)
    go_wp2_with fail
    go_round
    case rel=>exact⟨k+1,by omega,by go_num,d⟩
    case measure=>simp[intOf];omega
   ·cases m:((X k).key.toList==key.toList)
    ·have d:Hid (∀j,j<k+1->Cf X typ key j=false):=l.out (by rw[c.out,m,Bool.and_false])
     go_wp2_with fail
     go_round
     case rel=>exact⟨k+1,by omega,by go_num,d⟩
     case measure=>simp[intOf];omega
    ·have hq:Hid (ER (some ⟨b,o,none⟩) n X typ key= .pointer (some ⟨b,o+k*3,none⟩)):=H4 (DD g (by rw[c.out,he,m];rfl) hb.out)
     go_wp2_with fail
     go_ret;exact⟨by rw[hq.out];rfl,Aq _ _⟩
  ·have hq:Hid (ER a n X typ key= .pointer none):=Hz (Dq.2 (λj p=>hb.out j (by omega)))
   go_wp2_with fail
   go_ret;exact⟨by rw[hq.out];rfl,Aq _ _⟩
def JN (s:ByteArray) (j:Nat):Bool := !FO (bt s j)&&(decide (j=0) || !J9 (bt s j))
theorem QN{s:ByteArray}{k:Nat}(hk:k<s.size)(h:JN s k=true):Cb s=false:=by
 unfold JN at h;simp only[Bn,Bool.not_eq_true',Bool.or_eq_true,decide_eq_true_eq]at h;obtain⟨h1,h2⟩:=h;unfold Cb;rcases h2 with h2|h2
 ·subst h2;simp[h1]
 ·have : ¬Ds s.size (M0 s)<0:=by
   rw[Dq];intro hh;have:=hh k hk;unfold M0 at this;simp[h1,h2]at this
  simp[this]
theorem O1{s:ByteArray}(h:∀j,j<s.size->JN s j=false):Cb s=(decide (0<s.size)&&decide (s.size<=12)):=by
 unfold Cb
 by_cases h0:s.size=0
 ·simp[h0]
 ·have h1:FO (bt s 0)=true:=by
   have:=h 0 (by omega);unfold JN at this;simpa using this
  have h2:Ds s.size (M0 s)<0:=by
   rw[Dq];intro j a;have:=h j a;unfold JN at this;unfold M0;cases b:FO (bt s j)
   ·rw[b]at this
    have h3:J9 (bt s j)=true:=by
     simp at this;exact this.2
    simp[h3]
   ·rfl
  by_cases h3:12<s.size
  ·simp[h3,show ¬s.size<=12 by omega]
  ·simp[h0,h1,h2,h3,show s.size<=12 by omega,show 0<s.size by omega]
theorem Lv(w:World)(s:ByteArray)(cap:Nat)(e:TypeId)(c:Nat × Nat)(j:Nat)(b:j<s.size):(w.alloc (.cells (bytesRow s cap) e c)).cell? ⟨w.heap.size,j,none⟩=some (.int .u8 (bt s j)):=by
 have a:j<s.data.size:=b;have h:(bytesRow s cap)[j]? = some (.int .u8 (bt s j)):=by
  unfold bytesRow;rw[Array.getElem?_append_left (by simpa using a),Array.getElem?_map,BD a];rw[<-get_bt s j b];rfl
 unfold World.cell?;rw[Ap];simpa using h
theorem Dv(s:ByteArray)(w:World)(hs:BY s) :
  Calls Tryz.prog 75 #[.string s] w λe w'=>e= .returned (.bool (Cb s))/\Below w.heap.size w w':=by
 have l:∀w,(convert 9 193 (.string s)).run Tryz.prog w=_:=λw=>run_bytes_of_string w 9 193 5 s Tryz.underlying9 Tryz.underlying193 Tryz.underlying5;unfold BY maxLen at hs
 go_enter Tryz.func75,Tryz.ntmps75
 go_wp2_with fail
 generalize p:(w.alloc (Obj.cells (bytesRow s (grownCap w s.size 0 5)) 5 ((bytesRow s (grownCap w s.size 0 5)).size,(bytesRow s (grownCap w s.size 0 5)).size+1))).drew=W;have hB:Below w.heap.size w W:=by rw[<-p];exact(BW w _).drew
 have d:∀j,j<s.size->W.cell? ⟨w.heap.size,j,none⟩=some (.int .u8 (bt s j)):=by
  rw[<-p];exact λj n=>Lv w s _ _ _ j n
 clear p;have u:Hid (∀j,j<s.size->W.cell? ⟨w.heap.size,j,none⟩=some (.int .u8 (bt s j))):=d;clear d l;generalize grownCap w s.size 0 5=cap
 go_loop [9] (λi => ∃k:Nat,k<=s.size/\i= .int .i64 k/\Hid (∀j,j<k->JN s j=false)) (λi=>s.size - (intOf i).toNat)
 case atStart=>exact⟨0,Ai _,rfl,(λj n=>absurd n (Ak _))⟩
 case round =>
  obtain⟨k,hk,rfl,hb⟩:=hrel
  by_cases o:k<s.size
  ·have hc:=u.out k o
   have c0:=bt_nonneg s k;have c1:=bt_le s k;have r:(k:Int)<(s.size:Int):=by omega
   have v:(0:Int)<=(k:Int):=by omega
   have g:Hid (JN s k=false->∀j,j<k+1->JN s j=false):=λh j n=>by
    rcases Nat.lt_succ_iff_lt_or_eq.1 n with q|q
    ·exact hb j q
    ·rw[q];exact h
   have b:Hid (JN s k=(!(decide (97<=bt s k)&&decide (bt s k<=122))&&(decide (k=0) || !(decide (48<=bt s k)&&decide (bt s k<=57))))):=rfl;have a:Hid (JN s k=true->Cb s=false):=QN o;generalize bt s k=c at *
   by_cases h1:97<=c
   ·by_cases h2:c<=122
    ·have hq:Hid (∀j,j<k+1->JN s j=false):=g.out (by rw[b.out];simp[h1,h2])
     go_wp2_with fail
     go_round
     case rel=>exact⟨k+1,by omega,by go_num,hq⟩
     case measure=>simp[intOf];omega
    ·have hq:Hid (Cb s=false):=a.out (by rw[b.out];simp[h2,show ¬c<=57 by omega])
     by_cases h3:k=0
     ·have m:((k:Int)==0)=true:=by rw[beq_iff_eq];omega
      clear h3
      go_wp2_with fail
      go_ret;exact⟨by rw[hq.out];rfl,hB⟩
     ·have m:((k:Int)==0)=false:=by rw[Bc];omega
      have h4 : ¬c<48:=by omega
      have x:57<c:=by omega
      clear h3
      go_wp2_with fail
      go_ret;exact⟨by rw[hq.out];rfl,hB⟩
   ·by_cases h3:k=0
    ·have hq:Hid (Cb s=false):=a.out (by rw[b.out];simp[h1,h3])
     have m:((k:Int)==0)=true:=by rw[beq_iff_eq];omega
     clear h3
     go_wp2_with fail
     go_ret;exact⟨by rw[hq.out];rfl,hB⟩
    ·have m:((k:Int)==0)=false:=by rw[Bc];omega
     by_cases h4:c<48
     ·have hq:Hid (Cb s=false):=a.out (by rw[b.out];simp[h1,show ¬48<=c by omega])
      clear h3
      go_wp2_with fail
      go_ret;exact⟨by rw[hq.out];rfl,hB⟩
     ·by_cases x:57<c
      ·have hq:Hid (Cb s=false):=a.out (by rw[b.out];simp[h1,show ¬c<=57 by omega])
       clear h3
       go_wp2_with fail
       go_ret;exact⟨by rw[hq.out];rfl,hB⟩
      ·have hq:Hid (∀j,j<k+1->JN s j=false):=g.out (by rw[b.out];simp[h3,show 48<=c by omega,show c<=57 by omega])
       clear h3
       go_wp2_with fail
       go_round
       case rel=>exact⟨k+1,by omega,by go_num,hq⟩
       case measure=>simp[intOf];omega
  ·have hq:Hid (Cb s=(decide (0<s.size)&&decide (s.size<=12))):=O1 (λj n=>hb j (by omega))
   by_cases y:0<(s.size:Int)
   ·by_cases z:(s.size:Int)<=12
    ·go_wp2_with fail
     go_ret;exact⟨by rw[hq.out];simp[show 0<s.size by omega,show s.size<=12 by omega],hB⟩
    ·go_wp2_with fail
     go_ret;exact⟨by rw[hq.out];simp[show ¬s.size<=12 by omega],hB⟩
   ·go_wp2_with fail
    go_ret;exact⟨by rw[hq.out];simp[show s.size=0 by omega],hB⟩
def CY (nf:Nat) (F:Nat->LField) (a:Nat) (V:Nat->LVal):Int:=if a≠nf then 4 else (CA nf (λj=>CK (F j) (V j))).1
theorem Ow(b o:Nat)(fa va:Option Addr)(nf G l H:Nat)(F:Nat->LField)(V:Nat->LVal)(w:World)(hc:w.cell? ⟨b,o+1,none⟩=some (.slice fa nf G))(hF:Cl w fa nf F)(M:Ec w va l V) :
  Calls Tryz.prog 104 #[.pointer (some ⟨b,o,none⟩),.slice va l H] w λe w'=>e= .returned (.int .i64 (CY nf F l V))/\Below w.heap.size w w':=by
 have hnf:nf<=9223372036854775807:=hF.1;have hnv:l<=9223372036854775807:=M.1;have HF:Hid (Cl w fa nf F):=hF;have HV:Hid (Ec w va l V):=M;clear hF M
 by_cases h4:l=nf
 case neg =>
  have h4b:((l:Int) != (nf:Int))=true:=by rw[bne_iff_ne];omega
  have a:Hid (CY nf F l V=4):=by unfold CY Hid;rw[Af h4]
  clear h4
  go_enter Tryz.func104,Tryz.ntmps104
  go_wp2_with fail
  go_ret;exact⟨by rw[a.out];rfl,Aq _ _⟩
 have v:Hid (CY nf F l V=(CA nf (λj=>CK (F j) (V j))).1):=by unfold CY Hid;rw[Ae (by omega)]
 subst h4
 go_enter Tryz.func104,Tryz.ntmps104
 go_wp2_with fail
 go_loopw [23] (λi wr => ∃k:Nat,k<=l/\i= .int .i64 k/\Hid (∀j,j<k->CK (F j) (V j)=0)/\Below w.heap.size w wr) (λi _=>l - (intOf i).toNat)
 case atStart=>exact⟨0,Ai _,rfl,(λj y=>absurd y (Ak _)),Aq _ _⟩
 case round =>
  obtain⟨k,hk,rfl,hb,D⟩:=hrel
  by_cases z:k<l
  ·obtain⟨b1,o1,ha,R,f1,S,-⟩:=(HF.out.kept D).2 k z
   subst ha;obtain⟨b2,o2,ha,N,T,U,-,-,-,O⟩:=(HV.out.kept D).2 k z;subst ha;have X:(k:Int)<(l:Int):=by omega
   have hk0:(0:Int)<=(k:Int):=by omega
   have hb2:b2<wr.heap.size:=An N;have hnk:(V k).nk<=9223372036854775807:=O.1;generalize hy:(V k).ka=ka at *;generalize E:(wr.alloc (Obj.cells #[Value.string (F k).name,Value.int IntKind.i64 (F k).kind,Value.string (F k).type] 113)).alloc (Obj.cells #[Value.string (V k).field,Value.string (V k).text,Value.slice ka (V k).nk (V k).kcap] 120)=W;have hB:Below wr.heap.size wr W:=by rw[<-E];exact CN _ _ _
   have Y:W.cell? ⟨wr.heap.size,0,none⟩=some (.string (F k).name):=by rw[<-E,Az _ _ _ (by simp),Ac _ _ _ _ rfl];rfl
   have k1:W.cell? ⟨wr.heap.size,1,none⟩=some (.int .i64 (F k).kind):=by rw[<-E,Az _ _ _ (by simp),Ac _ _ _ _ rfl];rfl
   have Z:W.cell? ⟨wr.heap.size+1,0,none⟩=some (.string (V k).field):=by rw[<-E,Ac _ _ _ _ (by simp)];rfl
   have k3:W.cell? ⟨wr.heap.size+1,1,none⟩=some (.string (V k).text):=by rw[<-E,Ac _ _ _ _ (by simp)];rfl
   have k4:W.cell? ⟨wr.heap.size+1,2,none⟩=some (.slice ka (V k).nk (V k).kcap):=by rw[<-E,Ac _ _ _ _ (by simp)];rfl
   have c:Hid (Below w.heap.size w W):=D.trans (hB.mono D.size);have I:Hid (CF W ka (V k).nk (V k).K):=O.kept hB;have hx:Hid (CK (F k) (V k)=Gi ((V k).field.toList==(F k).name.toList) (F k).kind (V k).nk (V k).text.size (Ds (V k).nk (λi => !Cb ((V k).K i)))):=by unfold Hid CK;rw[<-CT]
   have d:Hid (∀e:Int,CK (F k) (V k)=e->e≠0->CY l F l V=e):=λe he h0=>by
    rw[v.out,Do (g:=λj=>CK (F j) (V j)) z (by show CK (F k) (V k)≠0;rw[he];exact h0) hb.out];exact he
   have A:Hid (CK (F k) (V k)=0->∀i,i<k+1->CK (F i) (V i)=0):=λh0 i hi=>by
    rcases Nat.lt_succ_iff_lt_or_eq.1 hi with h|h
    ·exact hb i h
    ·rw[h];exact h0
   clear O D hB hy
   go_wp2_with fail
   ·have a:Hid (CY l F l V=6):=d.out 6 (by rw[hx.out,T7 ‹_›]) (by decide)
    go_ret;exact⟨by rw[a.out];rfl,c.out⟩
   ·have hk:(F k).kind=1 := ‹(F k).kind=1›
    have h2:(V k).nk=0 := ‹_›;have h3:40<((V k).text.size:Int) := ‹_›;have a:Hid (CY l F l V=3):=d.out 3 (by rw[hx.out,Uk ‹_› (by omega) (by omega) (by omega)]) (by decide);go_ret;exact⟨by rw[a.out];rfl,c.out⟩
   ·have hk:(F k).kind=1 := ‹(F k).kind=1›
    have h2:(V k).nk=0 := ‹_›;have h3:((V k).text.size:Int)<=40 := ‹_›;have u:Hid (CK (F k) (V k)=if 0<=Ds (V k).nk (λi => !Cb ((V k).K i)) then 6 else 0):=by unfold Hid;rw[hx.out,LX ‹_› (by omega) (by omega) (by omega)]
    have hq:Hid (∀j,j<k+1->CK (F j) (V j)=0):=A.out (by
     rw[u.out,Ae];have:Ds (V k).nk (λi => !Cb ((V k).K i))<0:=Dq.2 λi hi=>by omega
     omega)
    refine wp_loop_rounds 1 ?_;rw[rounds_succ]
    go_wp2_with fail
    go_roundw
    case rel=>exact⟨k+1,by omega,by go_num,hq,c.out⟩
    case measure=>simp[intOf];omega
   ·have hk:(F k).kind=1 := ‹(F k).kind=1›
    have h2 : ¬(V k).nk=0 := ‹_›;have a:Hid (CY l F l V=7):=d.out 7 (by rw[hx.out,Qu ‹_› (.inl ⟨hk,by omega⟩)]) (by decide);go_ret;exact⟨by rw[a.out];rfl,c.out⟩
   ·have hk : ¬(F k).kind=1 := ‹_›
    have a:Hid (CY l F l V=7):=d.out 7 (by rw[hx.out,Qu ‹_› (.inr ⟨hk,NH ‹_›⟩)]) (by decide);go_ret;exact⟨by rw[a.out];rfl,c.out⟩
   ·have hk : ¬(F k).kind=1 := ‹_›
    have h2:=FK hk ‹_›;have J:(F k).kind=2 := ‹_›;have h3:20<((V k).nk:Int)\/1<((V k).nk:Int) := ‹_›;have a:Hid (CY l F l V=4):=d.out 4 (by rw[hx.out,Qr ‹_› (by omega) (by omega)]) (by decide);go_ret;exact⟨by rw[a.out];rfl,c.out⟩
   ·have hk : ¬(F k).kind=1 := ‹_›
    have h2:=FK hk ‹_›;have h3:40<((V k).text.size:Int) := ‹_›;omega
   ·have hk : ¬(F k).kind=1 := ‹_›
    have h2:=FK hk ‹_›;have J:(F k).kind=2 := ‹_›;have h3:((V k).nk:Int)<=20/\((V k).nk:Int)<=1 := ‹_›;have u:Hid (CK (F k) (V k)=if 0<=Ds (V k).nk (λi => !Cb ((V k).K i)) then 6 else 0):=by unfold Hid;rw[hx.out,LX ‹_› (by omega) (by omega) (by omega)]
    clear Y k1 Z k3 k4 N T U R f1 S h2
    go_loopw [78] (λi P => ∃j:Nat,j<=(V k).nk/\i= .int .i64 j/\Hid (∀i,i<j->Cb ((V k).K i)=true)/\Below W.heap.size W P) (λi _=>(V k).nk - (intOf i).toNat)
    case atStart=>exact⟨0,Ai _,rfl,(λj y=>absurd y (Ak _)),Aq _ _⟩
    case round =>
     obtain⟨j,y,rfl,x,q⟩:=hrel
     by_cases s:j<(V k).nk
     ·obtain⟨b3,o3,ha,L,hs⟩:=(I.out.kept q).2 j s
      subst ha;have B:(j:Int)<((V k).nk:Int):=by omega
      have Q:(0:Int)<=(j:Int):=by omega
      have m:=Dv ((V k).K j) wr hs;have r:Hid (Below W.heap.size W wr):=q;clear q hs;cases h1:Cb ((V k).K j)
      ·have a:Hid (CY l F l V=6):=d.out 6 (by
        rw[u.out,Af];have : ¬Ds (V k).nk (λi => !Cb ((V k).K i))<0:=by
         rw[Dq];intro hh;have:=hh j s;simp[h1]at this
        omega) (by decide)
       rw[h1]at m
       go_wp2_with fail
       refine m.mono ?_;clear m;rintro e C ⟨rfl,n⟩;have p:Hid (Below w.heap.size w C):=(c.out.trans (r.out.mono c.out.size)).trans (n.mono (c.out.trans (r.out.mono c.out.size)).size);clear n L
       go_wp2_with fail
       go_ret;exact⟨by rw[a.out];rfl,p.out⟩
      ·have hq:Hid (∀i,i<j+1->Cb ((V k).K i)=true):=λi hi=>by
        rcases Nat.lt_succ_iff_lt_or_eq.1 hi with h|h
        ·exact x i h
        ·rw[h];exact h1
       rw[h1]at m
       go_wp2_with fail
       refine m.mono ?_;clear m;rintro e C ⟨rfl,n⟩;have p:Hid (Below W.heap.size W C):=r.out.trans (n.mono r.out.size);clear n L
       go_wp2_with fail
       go_roundw
       case rel=>exact⟨j+1,by omega,by go_num,hq,p.out⟩
       case measure=>simp[intOf];omega
     ·have hq:Hid (∀j,j<k+1->CK (F j) (V j)=0):=A.out (by
       rw[u.out,Ae];have:Ds (V k).nk (λi => !Cb ((V k).K i))<0:=Dq.2 λi hi=>by rw[x.out i (by omega)];rfl
       omega)
      have p:Hid (Below w.heap.size w wr):=c.out.trans (q.mono c.out.size)
      go_wp2_with fail
      go_roundw
      case rel=>exact⟨k+1,by omega,by go_num,hq,p.out⟩
      case measure=>simp[intOf];omega
   ·have hk : ¬(F k).kind=1 := ‹¬(F k).kind=1›
    have h2:=FK hk ‹_›;have h3:40<((V k).text.size:Int) := ‹_›;omega
   ·have hk : ¬(F k).kind=1 := ‹¬(F k).kind=1›
    have h2:=FK hk ‹_›;have J : ¬(F k).kind=2 := ‹_›;have h3:((V k).nk:Int)<=20 := ‹((V k).nk:Int)<=20›;have u:Hid (CK (F k) (V k)=if 0<=Ds (V k).nk (λi => !Cb ((V k).K i)) then 6 else 0):=by unfold Hid;rw[hx.out,LX ‹_› (by omega) (by omega) (by omega)]
    clear Y k1 Z k3 k4 N T U R f1 S h2
    go_loopw [78] (λi P => ∃j:Nat,j<=(V k).nk/\i= .int .i64 j/\Hid (∀i,i<j->Cb ((V k).K i)=true)/\Below W.heap.size W P) (λi _=>(V k).nk - (intOf i).toNat)
    case atStart=>exact⟨0,Ai _,rfl,(λj y=>absurd y (Ak _)),Aq _ _⟩
    case round =>
     obtain⟨j,y,rfl,x,q⟩:=hrel
     by_cases s:j<(V k).nk
     ·obtain⟨b3,o3,ha,L,hs⟩:=(I.out.kept q).2 j s
      subst ha;have B:(j:Int)<((V k).nk:Int):=by omega
      have Q:(0:Int)<=(j:Int):=by omega
      have m:=Dv ((V k).K j) wr hs;have r:Hid (Below W.heap.size W wr):=q;clear q hs;cases h1:Cb ((V k).K j)
      ·have a:Hid (CY l F l V=6):=d.out 6 (by
        rw[u.out,Af];have : ¬Ds (V k).nk (λi => !Cb ((V k).K i))<0:=by
         rw[Dq];intro hh;have:=hh j s;simp[h1]at this
        omega) (by decide)
       rw[h1]at m
       go_wp2_with fail
       refine m.mono ?_;clear m;rintro e C ⟨rfl,n⟩;have p:Hid (Below w.heap.size w C):=(c.out.trans (r.out.mono c.out.size)).trans (n.mono (c.out.trans (r.out.mono c.out.size)).size);clear n L
       go_wp2_with fail
       go_ret;exact⟨by rw[a.out];rfl,p.out⟩
      ·have hq:Hid (∀i,i<j+1->Cb ((V k).K i)=true):=λi hi=>by
        rcases Nat.lt_succ_iff_lt_or_eq.1 hi with h|h
        ·exact x i h
        ·rw[h];exact h1
       rw[h1]at m
       go_wp2_with fail
       refine m.mono ?_;clear m;rintro e C ⟨rfl,n⟩;have p:Hid (Below W.heap.size W C):=r.out.trans (n.mono r.out.size);clear n L
       go_wp2_with fail
       go_roundw
       case rel=>exact⟨j+1,by omega,by go_num,hq,p.out⟩
       case measure=>simp[intOf];omega
     ·have hq:Hid (∀j,j<k+1->CK (F j) (V j)=0):=A.out (by
       rw[u.out,Ae];have:Ds (V k).nk (λi => !Cb ((V k).K i))<0:=Dq.2 λi hi=>by rw[x.out i (by omega)];rfl
       omega)
      have p:Hid (Below w.heap.size w wr):=c.out.trans (q.mono c.out.size)
      go_wp2_with fail
      go_roundw
      case rel=>exact⟨k+1,by omega,by go_num,hq,p.out⟩
      case measure=>simp[intOf];omega
   ·have hk : ¬(F k).kind=1 := ‹_›
    have h2:=FK hk ‹_›;have h3:20<((V k).nk:Int) := ‹_›;have a:Hid (CY l F l V=4):=d.out 4 (by rw[hx.out,Qr ‹_› (by omega) (by omega)]) (by decide);go_ret;exact⟨by rw[a.out];rfl,c.out⟩
  ·have a:Hid (CY l F l V=0):=by unfold Hid;rw[v.out,Dm λj y=>hb.out j (by omega)]
   go_wp2_with fail
   go_ret;exact⟨by rw[a.out];rfl,D⟩
end Go.Proofs.YtjjggefmmeminabGreat
