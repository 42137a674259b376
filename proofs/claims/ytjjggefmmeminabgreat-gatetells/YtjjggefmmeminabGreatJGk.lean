import Derived.Test.YtjjggefmmeminabGreatGrMem
set_option maxRecDepth 100000
set_option maxHeartbeats 4000000
namespace Go.Proofs.YtjjggefmmeminabGreat
open Go.RowKit Go.Sort Go.PlainAid
def Df (w:World) (base:Nat) (v:Value) (l:List ByteArray):Prop:=B9 w base 9 1 v l.length (B3 (CH l))
theorem Df.nil(w:World)(base:Nat):Df w base (.slice none 0 0) []:=⟨rfl,.inl ⟨rfl,rfl⟩⟩
theorem Df.kept{w w':World}{base:Nat}{v:Value}{l:List ByteArray}(h:Df w base v l)(hB:Below w.heap.size w w'):Df w' base v l:=B9.kept h hB
theorem Df.base{w:World}{base a:Nat}{v:Value}{l:List ByteArray}(h:Df w base v l)(hb:a<=base):Df w a v l :=
 ⟨h.1,h.2.imp id λ⟨g,cap,cur,e,hg,r⟩=>⟨g,cap,cur,e,Am hb hg,r⟩⟩
theorem Df.app{w:World}{base:Nat}{v:Value}{l:List ByteArray}{x:ByteArray}(h:w.ownsRow base 9 1 v (l.length+1) ((List.range (l.length*1)).map (B3 (CH l))++[.string x])):Df w base v (l++[x]):=by
 have a:(l++[x]).length=l.length+1:=by simp
 unfold Df B9;rw[a];have e:(List.range ((l.length+1)*1)).map (B3 (CH (l++[x])))=(List.range (l.length*1)).map (B3 (CH l))++[.string x]:=by
  rw[Bk,Bk,AA,AH];congr 1
  ·refine CX λj b=>?_
   unfold B3 CH;rw[AT,Bt b,<-AT]
  ·show [B3 (CH (l++[x])) l.length]=_
   unfold B3 CH;simp[List.getD_eq_getElem?_getD]
 rw[e];exact h
theorem Df.slice{w:World}{base:Nat}{v:Value}{l:List ByteArray}(h:Df w base v l):∃a cap,v= .slice a l.length cap/\l.length<=cap:=B9.slice h
theorem IN{l:List ByteArray}{j:Nat}(h:j<l.length):CH l j∈l:=by
 have:CH l j=l[j]:=by simp[CH,List.getD,h]
 rw[this];exact AW h
theorem Df.at{w:World}{base:Nat}{v:Value}{l:List ByteArray}(h:Df w base v l)(hn:l.length<=maxLen)(hs:∀x,x∈l->BY x):∃a cap,v= .slice a l.length cap/\l.length<=cap/\DX w a l :=
 B9.keysAt h hn λ_ b=>hs _ (IN b)
theorem I2{l:List ByteArray}{k:Nat}(h:k<l.length):l.take (k+1)=l.take k++[CH l k]:=by
 rw[AS h];simp[CH,List.getD,h]
theorem PB(a:Option Addr)(cap:Nat)(l:List ByteArray)(x:ByteArray)(w:World)(n:DX w a l) :
  Calls Tryz.prog 109 #[.slice a l.length cap,.string x] w λe w'=>e= .returned (.int .i64 (Ds l.length (λj=>eqs x (CH l j))))/\w'=w:=by
 have hn:l.length<=9223372036854775807:=n.1;have s:=Aa n;clear n;generalize v:l.length=m at *
 go_enter Tryz.func109,Tryz.ntmps109
 go_wp2_with fail
 go_loopw [8] (λi wr => ∃k:Nat,k<=m/\i= .int .i64 k/\Hid (∀j,j<k->eqs x (CH l j)=false)/\wr=w) (λi _=>m - (intOf i).toNat)
 case atStart=>exact⟨0,Ai _,rfl,(λj d=>absurd d (Ak _)),rfl⟩
 case round =>
  obtain⟨k,hk,rfl,hb,rfl⟩:=hrel
  by_cases p:k<m
  ·obtain⟨g,o,rfl,y,-⟩:=s.out.2 k (by omega)
   have r:(k:Int)<(m:Int):=by omega
   have u:(0:Int)<=(k:Int):=by omega
   cases c:(x.toList==(CH l k).toList) with
   |true =>
    have b:Hid (Ds m (λj=>eqs x (CH l j))=(k:Int)):=DD p (by rw[<-CT];exact c) hb
    go_wp2_with fail
    go_ret;exact⟨by rw[b.out];rfl,rfl⟩
   |false =>
    have q:Hid (∀j,j<k+1->eqs x (CH l j)=false):=λj d=>by
     rcases Nat.lt_succ_iff_lt_or_eq.1 d with h|h
     ·exact hb j h
     ·rw[h,<-CT];exact c
    go_wp2_with fail
    go_roundw
    case rel=>exact⟨k+1,by omega,by go_num,q,AM⟩
    case measure=>simp[intOf];omega
  ·have b:Hid (Ds m (λj=>eqs x (CH l j)) = -1):=Em (λj d=>hb j (by omega))
   go_wp2_with fail
   go_ret;exact⟨by rw[b.out];rfl,rfl⟩
theorem TW(l:List ByteArray)(x:ByteArray):decide (0<=Ds l.length (λj=>eqs x (CH l j)))=l.any (λy=>eqs y x):=by
 have a:∀i (h:i<l.length),CH l i=l[i]:=λi h=>by simp[CH,List.getD,h]
 rcases CE l.length (λj=>eqs x (CH l j)) with⟨h,hb⟩|⟨k,hk,h,b,-⟩
 ·rw[h]
  symm;show _=false;rw[List.any_eq_false];intro y c;obtain⟨i,hi,rfl⟩:=Bl c;have:=hb i hi;rw[a i hi]at this;intro e;rw[Ch]at e;rw[e,Ch.2 rfl]at this;cases this
 ·rw[h]
  symm;rw[show decide ((0:Int)<=(k:Int))=true by simp,BN];refine⟨l[k],AW hk,?_⟩;have h1:eqs x (CH l k)=true:=b;rw[a k hk,Ch]at h1;rw[Ch,h1]
theorem Lb(a:Option Addr)(cap:Nat)(l:List ByteArray)(x:ByteArray)(w:World)(c:DX w a l) :
  Calls Tryz.prog 79 #[.slice a l.length cap,.string x] w λe w'=>e= .returned (.bool (l.any (λy=>eqs y x)))/\w'=w:=by
 have b:=PB a cap l x w c;rw[<-TW l x];clear c;generalize Ds l.length (λj=>eqs x (CH l j))=i at *
 go_enter Tryz.func79,Tryz.ntmps79
 go_wp2_with fail
 refine b.mono ?_;clear b;rintro e d ⟨rfl,rfl⟩
 go_wp2_with fail
 go_ret;exact⟨rfl,rfl⟩
theorem Q2(w:World)(e:TypeId)(f:Nat->Value):B9 (w.alloc (.cells #[] e)) w.heap.size e 1 (.slice (some ⟨w.heap.size,0,none⟩) 0 0) 0 f :=
 ⟨rfl,.inr ⟨w.heap.size,0,#[],rfl,Aj _,Ap _ _,Aj _,Ai _,rfl,rfl⟩⟩
theorem Rw(a:Option Addr)(cap:Nat)(l:List ByteArray)(w:World)(i:DX w a l)(h0:l≠[])(hn:l.length*16<=140737488355328) :
  Calls Tryz.prog 77 #[.slice a l.length cap] w λe w'=>(∃v,e= .returned v/\Df w' w.heap.size v l)/\Below w.heap.size w w':=by
 obtain⟨u,x,p,q,r⟩:=Cd Tryz.info9;have d:0<l.length:=List.length_pos_iff.2 h0;obtain⟨b,o,rfl,-,-⟩:=i.2 0 d;have c:=BW w (Obj.cells #[] 9);have h:∀ty,∃g w',(Builtin.append_ #[65,65] ty #[.slice (some ⟨w.heap.size,0,none⟩) 0 0,.slice (some ⟨b,o,none⟩) l.length cap]).run Tryz.prog (w.alloc (Obj.cells #[] 9))= .ok g w'/\(Df w' w.heap.size g l/\Below w.heap.size w w'):=λty=>by
  obtain⟨g,w',h1,h2,h3,-⟩:=(Q2 w 9 (B3 (CH l))).far 65 ty u _ 16 Tryz.underlying65 x p q r rfl (by decide) (some ⟨b,o,none⟩) l.length cap (B3 (CH l)) (λj D=>by
   obtain⟨y,z,e,hc,-⟩:=(i.kept c).2 j (by omega);exact⟨y,z,e,hc⟩) (λe=>by cases e) (λ_ _=>rfl) (by have:=i.1;omega) (by omega) c.size
  refine⟨g,w',h1,?_,c.trans ⟨h3.os,h3.tape,h3.output,h3.size,λk hk=>h3.block k (by simp;omega) (λe=>by simp[Value.ownBlock]at e;omega)⟩⟩;unfold Df;rw[AL]at h2;exact h2.congr λj _=>by simp
 have A:l.length<=9223372036854775807:=by omega
 have s:∀(n:Nat) (w:World),Sem.run Tryz.prog (binOp BinOp.eql 65 (.slice (some ⟨b,o,none⟩) n cap) (.slice none 0 0)) w= .ok (.bool false) w:=λ_ _=>by kernel_rfl
 clear i h0 c hn d;generalize l.length=m at *
 go_enter Tryz.func77,Tryz.ntmps77
 go_wp2_with (at_builtin;refine Ew _ rfl _ _ 65 rfl _ _ rfl rfl (λg w'=>Df w' w.heap.size g l/\Below w.heap.size w w') h ?_)
 intro g w' h1 h2;have B:=Aa h1;have C:=Aa h2;clear h1 h2 h
 go_wp2_with fail
 go_ret;exact⟨⟨_,rfl,B.out⟩,C.out⟩
theorem TV{d:Nat}{p:PPart}{h:POwner}{ps:List (Cg (d+1))}{k:Nat}(hk:k<ps.length):B1 p h (ps.take (k+1))=if EC p h (BS ps k)=true then CP (B1 p h (ps.take k)) (Dd p (BT (BS ps k))).field else B1 p h (ps.take k):=by
 unfold B1;rw[AS hk,Bj,AH,CL hk]
 by_cases e:EC p h ps[k]=true
 ·rw[Af e]
  have : [ps[k]].filter (EC p h) = [ps[k]]:=by simp[e]
  rw[this];show Ep (_++[_])=_;rw[Jk]
 ·rw[Ae e]
  have : [ps[k]].filter (EC p h) = []:=by simp[e]
  rw[this,AI,Bm]
theorem MX(d base:Nat)(p:PPart)(ps:List (Cg (d+1)))(la:Option Addr)(N:Nat)(m1 m2:Option Nat)(pv:Nat->Value)(nx:Nat->LV)(h:POwner)(w:World)(hR:B9 w base 131 11 (.slice la ps.length N) ps.length (CU p ps pv nx))(O:∀i,i<ps.length->∃a n c,pv i= .slice a n c)(P:∀i,i<ps.length->BY (Dd p (BT (BS ps i))).field)(hps:ps.length<=60) :
  Calls Tryz.prog 50 #[.agg #[.slice la ps.length N,.map m1,.map m2],.agg #[.int .i64 h.svc,.string h.type,.string h.field]] w λe w'=>(∃v,e= .returned v/\Df w' w.heap.size v (B1 p h ps))/\Below w.heap.size w w':=by
 obtain⟨i0,hi0,hz0,hz1,hz2⟩:=Cd Tryz.info9;generalize L:(w.alloc (Obj.cells #[.slice la ps.length N,.map m1,.map m2] 63)).alloc (Obj.cells #[.int .i64 h.svc,.string h.type,.string h.field] 92)=W;have E:Below w.heap.size w W:=by rw[<-L];exact CN _ _ _
 have hWs:W.heap.size=w.heap.size+1+1:=by rw[<-L];simp
 have l0:W.cell? ⟨w.heap.size,0,none⟩=some (.slice la ps.length N):=by rw[<-L,Az _ _ _ (by simp),Ac _ _ _ _ rfl];rfl
 have o0:W.cell? ⟨w.heap.size+1,0,none⟩=some (.int .i64 h.svc):=by rw[<-L,Ac _ _ _ _ (by simp)];rfl
 have o1:W.cell? ⟨w.heap.size+1,1,none⟩=some (.string h.type):=by rw[<-L,Ac _ _ _ _ (by simp)];rfl
 have HR:=Aa (hR.kept E);have HPV:=Aa O;have HSM:=Aa P;have F:=Aa E;have hpl:(ps.length:Int)<=60:=by omega
 clear hR O P E
 go_enter Tryz.func50,Tryz.ntmps50
 go_wp2_with fail
 clear L;obtain⟨bo,G⟩:∃bo,bo=w.heap.size+1:=⟨_,rfl⟩;rw[<-G]at o0 o1;rw[<-G];have Q:bo<W.heap.size:=by omega
 clear G l0 hWs
 go_loopw [5,11] (λv i wr => ∃k:Nat,k<=ps.length/\i= .int .i64 k/\Below W.heap.size W wr/\Df wr W.heap.size v (B1 p h (ps.take k))) (λ_ i _=>ps.length - (intOf i).toNat)
 case atStart=>exact⟨0,Ai _,rfl,Aq _ _,Df.nil _ _⟩
 case round =>
  obtain⟨k,hk,rfl,A,M⟩:=hrel;obtain⟨S,l⟩:∃S,S=B1 p h (ps.take k):=⟨_,rfl⟩;rw[<-l]at M;obtain⟨va,vc,rfl,hvc⟩:=M.slice
  by_cases H:k<ps.length
  ·have z:=HR.out.kept A
   obtain⟨ge,cp,hea⟩:∃g cap,Value.slice la ps.length N= .slice (some ⟨g,0,none⟩) ps.length cap:=by
    rcases z.shape with⟨-,h0⟩|⟨g,cap,hv,-,-,-⟩
    ·omega
    ·exact⟨g,cap,hv⟩
   cases hea;obtain⟨c0,c1,c2,c3,c4,c5,c6,c7,c8,c9,c10⟩:=J3 z H;obtain⟨pa,pn,pc,R⟩:=HPV.out k H;rw[R]at c1;have hSl:S.length<=k:=by
    rw[l];refine Am (Hv _ _ _) ?_;rw[Bb];omega
   have I:∀x,x∈S->BY x:=λx hx=>by
    rw[l]at hx;obtain⟨q,hq,-,-,rfl⟩:=K5 hx;obtain⟨j,hj,rfl⟩:=Bl hq;rw[List.getElem_take];have T:j<ps.length:=by rw[Bb]at hj;omega
    have:=HSM.out j T;rw[CL T]at this;exact this
   have J:Hid (B1 p h (ps.take (k+1))=if EC p h (BS ps k)=true then CP S (Dd p (BT (BS ps k))).field else S):=Aa (by rw[TV H,<-l])
   unfold EC at J;have q0:=BR A o0;have q1:=BR A o1;have hlt':(k:Int)<(ps.length:Int):=by omega
   have hk0:(0:Int)<=(k:Int):=by omega
   have hbw:bo<wr.heap.size:=Ah Q A.size;generalize EQ p (BT (BS ps k))=fl at *;generalize Dd p (BT (BS ps k))=o at *;generalize B8 (BS ps k)=nm at *;generalize nx k=nk at *;obtain⟨X,C⟩:∃X,X=wr.alloc (Obj.cells #[.string nm,.slice pa pn pc,.string fl.name,.int .i64 fl.kind,.string fl.type,.int .i64 o.svc,.string o.type,.string o.field,.slice nk.a nk.n nk.c,.map nk.h,.map nk.v] 131):=⟨_,rfl⟩;have K:Below wr.heap.size wr X:=by rw[C];exact BW _ _
   have r:=Aa (M.kept K);have s:Hid (Below W.heap.size W X):=A.trans (K.mono A.size);have hNX:W.heap.size<=X.heap.size:=s.out.size;obtain⟨sa,sc,hse,hsc,U⟩:=r.out.at (by unfold maxLen;omega) I;cases hse;have b:=Lb va vc S o.field X U;have HSS:=Aa I;clear M l z K R A I U
   by_cases e1:o.svc=h.svc
   ·by_cases e2:o.type=h.type
    ·have V:(o.svc==h.svc)=true:=by rw[e1];simp
     have hs2:(o.type.toList==h.type.toList)=true:=by rw[e2];simp
     have m:Hid (B1 p h (ps.take (k+1))=CP S o.field):=Aa (by rw[J.out,e1,e2,Ch.2 rfl];simp);clear J e1 e2;rw[C]at b
     cases hb:S.any (λy=>eqs y o.field) with
     |true =>
      rw[hb]at b;have HE:Hid (CP S o.field=S):=Aa (by unfold CP;rw[Af hb]);clear hb
      go_wp2_with fail
      refine b.mono ?_;clear b;rintro e w3 ⟨rfl,rfl⟩
      go_wp2_with fail
      rw[<-C]
      go_roundw
      case rel=>exact⟨k+1,by omega,by go_num,s.out,by rw[m.out,HE.out];exact r.out⟩
      case measure=>simp[intOf];omega
     |false =>
      rw[hb]at b;have HE:Hid (CP S o.field=S++[o.field]):=Aa (by unfold CP;rw[Ae (by rw[hb];decide)]);clear hb;have B:=Aa (r.out.kept (BW X (Obj.cells #[.string o.field] 9)));have Y:Hid (Below W.heap.size W (X.alloc (Obj.cells #[.string o.field] 9))):=s.out.trans ((BW X _).mono hNX);have Z:W.heap.size<=(X.alloc (Obj.cells #[.string o.field] 9)).heap.size:=Y.out.size
      go_wp2_with fail
      refine b.mono ?_;clear b;rintro e w3 ⟨rfl,rfl⟩;rw[<-C];have f5:X.cell? ⟨wr.heap.size,7,none⟩=some (.string o.field):=by rw[C,Ac _ _ _ _ rfl];rfl
      unfold Df B9 at B;clear r s C c0 c1 c2 c3 c4 c5 c6 c7 c8 c9 c10
      go_wp2_with (at_builtin;refine Ck _ rfl _ _ 65 rfl W.heap.size 9 i0 _ 1 16 Tryz.underlying65 hi0 hz0 hz1 hz2 rfl (by decide) _ S.length _ rfl B.out (some ⟨X.heap.size,0,none⟩) 1 1 [.string o.field] rfl rfl (CI X #[.string o.field] _) (λh=>by cases h) (by intro u hu;simp at hu;subst hu;rfl) (by unfold maxLen;omega) (by omega) Z ?_)
      intro v' w4 D aa hvb;have HS4:Hid (Df w4 W.heap.size v' (B1 p h (ps.take (k+1)))):=by
       rw[m.out,HE.out];exact Df.app (by rw[Bk];exact D)
      have HW4:Hid (Below W.heap.size W w4):=Y.out.grown aa Z (λq hq=>(World.ownsRow.lt B.out q hq).1);clear D aa hvb B HE m
      go_wp2_with fail
      go_roundw
      case rel=>exact⟨k+1,by omega,by go_num,HW4.out,HS4.out⟩
      case measure=>simp[intOf];omega
    ·have V:(o.svc==h.svc)=true:=by rw[e1];simp
     have hs2:(o.type.toList==h.type.toList)=false:=by rw[CT];exact Db.2 e2
     have m:Hid (B1 p h (ps.take (k+1))=S):=Aa (by rw[J.out,Db.2 e2];simp);clear J e1 e2 b
     go_wp2_with fail
     rw[<-C]
     go_roundw
     case rel=>exact⟨k+1,by omega,by go_num,s.out,by rw[m.out];exact r.out⟩
     case measure=>simp[intOf];omega
   ·have V:(o.svc==h.svc)=false:=by rw[Bc];exact e1
    have m:Hid (B1 p h (ps.take (k+1))=S):=Aa (by rw[J.out,AY e1];simp);clear J e1 b
    go_wp2_with fail
    rw[<-C]
    go_roundw
    case rel=>exact⟨k+1,by omega,by go_num,s.out,by rw[m.out];exact r.out⟩
    case measure=>simp[intOf];omega
  ·have HF:Hid (Df wr w.heap.size (.slice va S.length vc) (B1 p h ps)):=by
    have e2:B1 p h (ps.take k)=B1 p h ps:=by rw[List.take_of_length_le (by omega)]
    rw[<-e2,<-l];exact M.base F.out.size
   have HW:Hid (Below w.heap.size w wr):=F.out.trans (A.mono F.out.size);clear M A l
   go_wp2_with fail
   go_ret;exact⟨⟨_,rfl,HF.out⟩,HW.out⟩
theorem CG.set_turned{X:Nat->Prop}{w a c:World}{b:Nat}(h:CG X w a)(d:a.mapTurned c b)(hb:X b):CG X w c:=by
 have hg:=d.grown;exact⟨hg.os.trans h.os,hg.tape.trans h.tape,hg.output.trans h.output,Am h.size hg.size,λk hk=>by
  rw[EH d (Ah hk.1 h.size) (λe=>hk.2 (by rw[e];exact hb)),h.block k hk]⟩
theorem CG.grown{X:Nat->Prop}{w b c:World}{a:Option Nat}(h:CG X w b)(hg:b.grownBy c a)(d:∀q,a=some q->w.heap.size<=q):CG X w c :=
 ⟨hg.os.trans h.os,hg.tape.trans h.tape,hg.output.trans h.output,Am h.size hg.size,λk hk=>by
  rw[hg.block k (Ah hk.1 h.size) (λe=>by have:=d k e.symm;have:=hk.1;omega),h.block k hk]⟩
theorem CG.kept{X:Nat->Prop}{w a b:World}(h:CG X w a)(hB:Below a.heap.size a b):CG X w b :=
 ⟨hB.os.trans h.os,hB.tape.trans h.tape,hB.output.trans h.output,Am h.size hB.size,λk hk=>by
  rw[hB.block k (Ah hk.1 h.size),h.block k hk]⟩
theorem Df.turned{w w':World}{base bt:Nat}{v:Value}{l:List ByteArray}(h:Df w base v l)(b:w.mapTurned w' bt):Df w' base v l:=by
 obtain⟨d,c,a,g,h1,h2⟩:=b;refine B9.at h λk hk=>EH ⟨d,c,a,g,h1,h2⟩ (B9.lt h hk).2 λe=>?_;subst e;obtain⟨i,ho⟩:=B9.obj h hk;rw[h1]at ho;cases ho
theorem DC.look_in{N:Nat}{w w':World}{b n:Nat}{v:Int->ByteArray->ByteArray->ByteArray->Option LVal}(h:DC N w b n v)(hb:w'.heap[b]? = w.heap[b]?){s:Int}{ty f key:ByteArray}(hs:(Lit.int .i64 s).wf=true)(a:BY ty)(hf:BY f)(hk:BY key) :
  ∃A nk C,∃K:Nat->ByteArray,∃c tx,(Instr.lookup 61 (.map (some b)) (.agg #[.int .i64 s,.string ty,.string f,.string key]) false).run Tryz.prog w'= .ok (.agg #[.string c,.string tx,.slice A nk C]) w'/\KZ (v s ty f key)=(List.range nk).map K/\CF w A nk K:=by
 obtain⟨g,h1,h2⟩:=h;have l2:=(h1.at hb).look hs a hf hk;have:=h2 s ty f key hs a hf hk
 cases e:v s ty f key with
 |none =>
  rw[e]at this;have this:g s ty f key=none:=this;rw[this]at l2;exact⟨none,0,0,λ_=>⟨#[]⟩,⟨#[]⟩,⟨#[]⟩,l2,rfl,Ai _,λi hi=>absurd hi (Ak _)⟩
 |some x =>
  rw[e]at this;obtain⟨u,e1,e2⟩:=this;obtain⟨A,C,rfl,j,d⟩:=e2.keys;rw[e1]at l2;exact⟨A,x.nk,C,x.K,x.field,x.text,l2,rfl,d⟩
theorem CF.keepX{w w':World}{a:Option Addr}{n bt:Nat}{K:Nat->ByteArray}(h:CF w a n K)(hk:CG (λk=>k=bt) w w')(j:∃g c,w.heap[bt]? = some (.map g c)):CF w' a n K :=
 ⟨h.1,λi hi=>by
  obtain⟨b,l,e,c,s⟩:=h.2 i hi;have d:b≠bt:=λm=>by
   obtain⟨g,cc,o⟩:=j;rw[m]at c;simp[World.cell?,o]at c
  exact⟨b,l,e,hk.cell c d,s⟩⟩
theorem PD(N:Nat)(la:Option Addr)(ln lc bv m2:Nat)(m1:Option Nat)(o:POwner)(v:Int->ByteArray->ByteArray->ByteArray->Option LVal)(ka:Option Addr)(kcap:Nat)(keys:List ByteArray)(w:World)(G:DC N w bv m2 v)(hs:(Lit.int .i64 o.svc).wf=true)(ht:BY o.type)(hf:BY o.field)(hK:DX w ka keys)(H:(keys.flatMap (λkey=>KZ (v o.svc o.type o.field key))).length<=1200) :
  Calls Tryz.prog 51 #[.agg #[.slice la ln lc,.map m1,.map (some bv)],.agg #[.int .i64 o.svc,.string o.type,.string o.field],.slice ka keys.length kcap] w λe w'=>(∃u,e= .returned u/\Df w' w.heap.size u (Ep (keys.flatMap (λkey=>KZ (v o.svc o.type o.field key)))))/\Below w.heap.size w w':=by
 obtain⟨i0,hi0,hz0,hz1,hz2⟩:=Cd Tryz.info9;have hmm:=@run_makeMap Tryz.prog;have hn:keys.length<=9223372036854775807:=hK.1;obtain⟨g,hg⟩:∃g:ByteArray->List ByteArray,g=λkey=>KZ (v o.svc o.type o.field key):=⟨_,rfl⟩;rw[<-hg]at H;rw[<-hg];have HG:Hid (∀key,g key=KZ (v o.svc o.type o.field key)):=Aa λkey=>by rw[hg]
 clear hg;have HF:Hid (∀k,k<keys.length->(keys.take (k+1)).flatMap g=(keys.take k).flatMap g++g (CH keys k)):=Aa λk hk=>by
  rw[I2 hk,Bf];simp
 have HLE:Hid (∀k,k<keys.length->((keys.take k).flatMap g++g (CH keys k)).length<=1200):=Aa λk hk=>by
  rw[<-HF.out k hk];have e:(keys.flatMap g).length=((keys.take (k+1)).flatMap g).length+((keys.drop (k+1)).flatMap g).length:=by
   rw[<-Ay,<-Bf,List.take_append_drop]
  omega
 have HA:Hid ((keys.take keys.length).flatMap g=keys.flatMap g):=Aa (by rw[Br]);clear H;generalize I:((w.alloc (Obj.cells #[.slice la ln lc,.map m1,.map (some bv)] 63)).alloc (Obj.cells #[.int .i64 o.svc,.string o.type,.string o.field] 92)).alloc (Obj.map #[] 0)=W;have B:Below w.heap.size w W:=by rw[<-I];exact FI _ _ _ _
 have hWs:W.heap.size=w.heap.size+1+1+1:=by rw[<-I];simp
 have D:Dt W (w.heap.size+1+1) 0 (λ_=>0):=by
  have h1:=Dt.made ((w.alloc (Obj.cells #[.slice la ln lc,.map m1,.map (some bv)] 63)).alloc (Obj.cells #[.int .i64 o.svc,.string o.type,.string o.field] 92));rw[I,show ((w.alloc (Obj.cells #[.slice la ln lc,.map m1,.map (some bv)] 63)).alloc (Obj.cells #[.int .i64 o.svc,.string o.type,.string o.field] 92)).heap.size=w.heap.size+1+1 by simp]at h1;exact h1
 have l2:W.cell? ⟨w.heap.size,2,none⟩=some (.map (some bv)):=by rw[<-I,Az _ _ _ (by simp;omega),Az _ _ _ (by simp),Ac _ _ _ _ rfl];rfl
 have o0:W.cell? ⟨w.heap.size+1,0,none⟩=some (.int .i64 o.svc):=by rw[<-I,Az _ _ _ (by simp),Ac _ _ _ _ (by simp)];rfl
 have o1:W.cell? ⟨w.heap.size+1,1,none⟩=some (.string o.type):=by rw[<-I,Az _ _ _ (by simp),Ac _ _ _ _ (by simp)];rfl
 have o2:W.cell? ⟨w.heap.size+1,2,none⟩=some (.string o.field):=by rw[<-I,Az _ _ _ (by simp),Ac _ _ _ _ (by simp)];rfl
 have hbv:bv<w.heap.size:=G.lt;have HM:=Aa (G.kept B);have HK:=Aa (hK.kept B);have m:=Aa B;clear G hK B
 go_enter Tryz.func51,Tryz.ntmps51
 go_wp2_with fail
 clear I;obtain⟨bt,U⟩:∃bt,bt=w.heap.size+1+1:=⟨_,rfl⟩;obtain⟨bo,V⟩:∃bo,bo=w.heap.size+1:=⟨_,rfl⟩;obtain⟨bl,X⟩:∃bl,bl=w.heap.size:=⟨_,rfl⟩;have n1:bl≠bt:=by omega
 have n2:bo≠bt:=by omega
 have n3:bv≠bt:=by omega
 have n4:w.heap.size<=bt/\bt<W.heap.size:=by omega
 have HKB:Hid (∀J,CG (λk=>k=bt) W J->Below w.heap.size w J):=Aa λJ h1=>⟨h1.os.trans m.out.os,h1.tape.trans m.out.tape,h1.output.trans m.out.output,Am m.out.size h1.size,λk hk=>by
  rw[h1.block k ⟨by have:=m.out.size;omega,λe=>by have e:k=bt:=e;omega⟩,m.out.block k hk]⟩
 rw[<-U]at D;rw[<-V]at o0 o1 o2;rw[<-X]at l2;rw[<-U,<-V,<-X];have HMT:Hid (∃es c,W.heap[bt]? = some (.map es c)):=D.obj;have HE0:=Aa D;have HN4:=Aa n4;clear U V X D hWs n4
 go_loopw [7,16] (λu i wr => ∃k:Nat,k<=keys.length/\i= .int .i64 k/\CG (λk=>k=bt) W wr/\Df wr W.heap.size u (Ep ((keys.take k).flatMap g))/\Dt wr bt ((keys.take k).flatMap g).length (Eh ((keys.take k).flatMap g))) (λ_ i _=>keys.length - (intOf i).toNat)
 case atStart=>exact⟨0,Ai _,rfl,CG.refl _ _,Df.nil _ _,HE0.out⟩
 case round =>
  obtain⟨k,hk,rfl,a,l,p⟩:=hrel
  by_cases Y:k<keys.length
  ·have hKe:DX wr ka keys:=CF.keepX HK.out a HMT.out
   obtain⟨b,o',rfl,c0,hsm⟩:=hKe.2 k Y;have hlt':(k:Int)<(keys.length:Int):=by omega
   have hk0:(0:Int)<=(k:Int):=by omega
   have m2':=a.cell l2 n1;have p0:=a.cell o0 n2;have p1:=a.cell o1 n2;have p2:=a.cell o2 n2;obtain⟨A,nk,C,K,fx,tx,E,Z,hxK⟩:=HM.out.look_in (a.block bv ⟨HM.out.lt,n3⟩) hs ht hf hsm;rw[<-HG.out (CH keys k)]at Z;have aa:=Aa (HF.out k Y);have F:=Aa (HLE.out k Y);obtain⟨S,hSd⟩:∃S,S=(keys.take k).flatMap g:=⟨_,rfl⟩;rw[<-hSd]at l p aa F;obtain⟨va,vc,rfl,hvc⟩:=l.slice;have HT:=Aa l;have L:=Aa p;have O:=Aa a;clear l p a hKe hSd;obtain⟨M,G⟩:∃M,M=(List.range nk).map K:=⟨_,rfl⟩;rw[Z,<-G]at aa F;have hMl:M.length=nk:=by rw[G];simp
   have HMT2:Hid (∀j,j<nk->M.take (j+1)=M.take j++[K j]):=Aa λj hj=>by
    rw[G,<-List.map_take,<-List.map_take,List.take_range,List.take_range,show min (j+1) nk=j+1 by omega,show min j nk=j by omega,AA,AH];rfl
   have hnk:nk<=1200:=by have:=F.out;rw[Ay]at this;omega
   have hfld:∀w,(Instr.field 120 (.agg #[.string fx,.string tx,.slice A nk C]) 2).run Tryz.prog w= .ok (.slice A nk C) w:=λ_=>by kernel_rfl
   have HXK:=Aa hxK;clear Z hxK G
   go_wp2_with fail
   obtain⟨wo,r⟩:∃wo,wo=wr:=⟨_,rfl⟩;rw[<-r]at HT L O;rw[<-r];clear r c0 m2' p0 p1 p2 E hfld
   go_loopw [7,28] (λu i wr => ∃j:Nat,j<=nk/\i= .int .i64 j/\CG (λk=>k=bt) W wr/\Df wr W.heap.size u (Ep (S++M.take j))/\Dt wr bt (S++M.take j).length (Eh (S++M.take j))) (λ_ i _=>nk - (intOf i).toNat)
   case atStart=>exact⟨0,Ai _,rfl,O.out,by show Df _ _ _ (Ep (S++[]));rw[Bm];exact HT.out,by show Dt _ _ (S++[]).length (Eh (S++[]));rw[Bm];exact L.out⟩
   case round =>
    obtain⟨j,hj,rfl,a,l,p⟩:=hrel;obtain⟨R,s⟩:∃R,R=S++M.take j:=⟨_,rfl⟩;rw[<-s]at l p;obtain⟨ua,uc,rfl,huc⟩:=l.slice
    by_cases P:j<nk
    ·obtain⟨b2,o2',rfl,d0,x⟩:=(HXK.out.keepX a HMT.out).2 j P
     have hltj':(j:Int)<(nk:Int):=by omega
     have hj0:(0:Int)<=(j:Int):=by omega
     have HN:Hid (S++M.take (j+1)=R++[K j]):=Aa (by rw[HMT2.out j P,s,AR]);have hRl:R.length+1<=1200:=by
      have h1:=F.out;have h2:(R++[K j]).length<=(S++M).length:=by
       rw[<-HN.out,Ay,Ay,Bb];omega
      simp at h2 h1;omega
     have hRo:(Ep R).length<=R.length:=Gv R;have E:=p.look x;obtain⟨tt,n⟩:∃tt,tt=Eh R (K j):=⟨_,rfl⟩;have htl:tt<=R.length:=by rw[n];exact Rr _ _
     have HTZ:Hid (tt=0↔K j∉R):=Aa (by rw[n];exact Ju);have HTB:Hid (bump (Eh R) (K j)=Eh (R++[K j])):=Aa (Oz _ _).symm;have HBU:Hid (∀J,Dt J bt R.length (Eh R)->∃w',(Instr.mapUpdate 60 (.map (some bt)) (.string (K j)) (.int .i64 ((tt:Int)+1))).run Tryz.prog J= .ok () w'/\Dt w' bt (R.length+1) (bump (Eh R) (K j))/\J.mapTurned w' bt):=Aa λJ h1=>by
      rw[n];exact h1.bump (by unfold maxLen;omega) x (by rw[<-n];omega)
     rw[<-n]at E;have HT:=Aa l;have L:=Aa p;have O:=Aa a;clear l p a s n
     by_cases h0:tt=0
     ·have hz:((tt:Int)==0)=true:=by rw[h0];rfl
      have HNE:Hid (Ep (R++[K j])=Ep R++[K j]):=Aa (SH (HTZ.out.1 h0));have y:=Aa (HT.out.kept (BW wr (Obj.cells #[.string (K j)] 9)));have hNr:W.heap.size<=wr.heap.size:=O.out.size;have hNa:W.heap.size<=(wr.alloc (Obj.cells #[.string (K j)] 9)).heap.size:=by simp;omega
      unfold Df B9 at y
      go_wp2_with (at_builtin;refine Ck _ rfl _ _ 65 rfl W.heap.size 9 i0 _ 1 16 Tryz.underlying65 hi0 hz0 hz1 hz2 rfl (by decide) _ (Ep R).length _ rfl y.out (some ⟨wr.heap.size,0,none⟩) 1 1 [.string (K j)] rfl rfl (CI wr #[.string (K j)] _) (λh=>by cases h) (by intro u hu;simp at hu;subst hu;rfl) (by unfold maxLen;omega) (by omega) hNa ?_)
      intro v' w4 Q hgr hvb;have HT4:Hid (Df w4 W.heap.size v' (Ep (S++M.take (j+1)))):=by
       rw[HN.out,HNE.out];exact Df.app (by rw[Bk];exact Q)
      have hK4:CG (λk=>k=bt) W w4:=(O.out.kept (BW wr _)).grown hgr (λq hq=>(World.ownsRow.lt y.out q hq).1);have hC4:Dt w4 bt R.length (Eh R):=by
       refine(L.out.kept (BW wr (Obj.cells #[.string (K j)] 9))).at (hgr.block bt (by have:=L.out.lt;simp;omega) λe=>?_);have:=(World.ownsRow.lt y.out bt e.symm).1;have:=HN4.out;omega
      have hlk4:=hC4.look x;have T:Eh R (K j)=tt:=by
       rw[h0];exact Ju.2 (HTZ.out.1 h0)
      rw[T]at hlk4;obtain⟨w5,hst,z,d⟩:=HBU.out w4 hC4;have HT5:=Aa (HT4.out.turned d);have HK5:=Aa (hK4.set_turned d rfl);have HC5:Hid (Dt w5 bt (S++M.take (j+1)).length (Eh (S++M.take (j+1)))):=by
       rw[HN.out,<-HTB.out,Ay];exact z
      obtain⟨ua',uc',hv',-⟩:=HT4.out.slice;subst hv';clear Q hgr hvb y hK4 hC4 z d HT L O HT4 h0 T E
      go_wp2_with fail
      go_roundw
      case rel=>exact⟨j+1,by omega,by go_num,HK5.out,HT5.out,HC5.out⟩
      case measure=>simp[intOf];omega
     ·have hz:((tt:Int)==0)=false:=by rw[Bc];omega
      have hin:K j∈R:=by
       by_cases h:K j∈R
       ·exact h
       ·exact absurd (HTZ.out.2 h) h0
      have HNE:Hid (Ep (R++[K j])=Ep R):=Aa (Sj hin);obtain⟨w5,hst,z,d⟩:=HBU.out wr L.out;have HT5:Hid (Df w5 W.heap.size (.slice ua (Ep R).length uc) (Ep (S++M.take (j+1)))):=by
       rw[HN.out,HNE.out];exact HT.out.turned d
      have HK5:=Aa (O.out.set_turned d rfl);have HC5:Hid (Dt w5 bt (S++M.take (j+1)).length (Eh (S++M.take (j+1)))):=by
       rw[HN.out,<-HTB.out,Ay];exact z
      clear z d HT L O h0 hin
      go_wp2_with fail
      go_roundw
      case rel=>exact⟨j+1,by omega,by go_num,HK5.out,HT5.out,HC5.out⟩
      case measure=>simp[intOf];omega
    ·have hjn:j=nk:=by omega
     have HR:Hid (CG (λk=>k=bt) W wr/\Df wr W.heap.size (.slice ua (Ep R).length uc) (Ep ((keys.take (k+1)).flatMap g))/\Dt wr bt ((keys.take (k+1)).flatMap g).length (Eh ((keys.take (k+1)).flatMap g))):=by
      rw[aa.out];have e:R=S++M:=by rw[s,List.take_of_length_le (by omega)]
      rw[<-e];exact⟨a,l,p⟩
     clear a l p s
     go_wp2_with fail
     go_roundw
     case rel=>exact⟨k+1,by omega,by go_num,HR.out.1,HR.out.2.1,HR.out.2.2⟩
     case measure=>simp[intOf];omega
  ·have hkn:k=keys.length:=by omega
   have HR:Hid (Df wr w.heap.size u7 (Ep (keys.flatMap g))/\Below w.heap.size w wr):=by
    rw[hkn,HA.out]at l;exact⟨l.base (by have:=HN4.out;omega),HKB.out wr a⟩
   clear a l p
   go_wp2_with fail
   go_ret;exact⟨⟨_,rfl,HR.out.1⟩,HR.out.2⟩
end Go.Proofs.YtjjggefmmeminabGreat
