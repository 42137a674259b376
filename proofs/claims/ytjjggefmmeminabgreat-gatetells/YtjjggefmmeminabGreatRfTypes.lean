import Derived.Test.YtjjggefmmeminabGreatRfSim
set_option maxRecDepth 100000
set_option maxHeartbeats 8000000
namespace Go.Proofs.YtjjggefmmeminabGreat
open Go.RowKit Go.Sort
def Da (txt:Nat->Nat->ByteArray) (i j:Nat):List Nat:=(List.range j).filter (F4 txt i)
theorem SN{txt:Nat->Nat->ByteArray}{i j:Nat}(h:(txt (2+i) j).size≠0):Da txt i (j+1)=Da txt i j++[j]:=by
 unfold Da;rw[AA,Bj];have:F4 txt i j=true:=by unfold F4;rw[AY h];rfl
 simp[this]
theorem TS{txt:Nat->Nat->ByteArray}{i j:Nat}(h:(txt (2+i) j).size=0):Da txt i (j+1)=Da txt i j:=by
 unfold Da;rw[AA,Bj];have:F4 txt i j=false:=by unfold F4;rw[Bi h];rfl
 simp[this]
theorem JX(txt:Nat->Nat->ByteArray)(i j:Nat):(Da txt i j).length<=j:=by
 unfold Da;have:=List.length_filter_le (F4 txt i) (List.range j);simpa using this
theorem Mf{l:List Nat}{x q:Nat}(h:q<l.length):(l++[x]).getD q 0=l.getD q 0:=by
 simp[List.getD,List.getElem?_append,h]
theorem LS{l:List Nat}{x:Nat}:(l++[x]).getD l.length 0=x:=by simp[List.getD]
theorem JQ(F:Nat->LField)(k:Nat):(List.range ((k+1)*3)).map (B2 F)=(List.range (k*3)).map (B2 F)++[.string (F k).name,.int .i64 (F k).kind,.string (F k).type]:=by
 rw[show (k+1)*3=k*3+1+1+1 by omega,AA,AA,AA];simp only[AH,AG,AI,AR];rw[FW,Ih,show k*3+1+1=k*3+2 by omega,F1];rfl
theorem G6{w:World}{B:Nat}{v:Value}{l:List Nat}{j:Nat}{M:Nat->LField}(h:w.ownsRow B 113 3 v (l.length+1) ((List.range (l.length*3)).map (B2 (λq=>M (l.getD q 0)))++[.string (M j).name,.int .i64 (M j).kind,.string (M j).type])):B9 w B 113 3 v (l++[j]).length (B2 (λq=>M ((l++[j]).getD q 0))):=by
 unfold B9;rw[Ay,Bw,JQ,LS];have e:(List.range (l.length*3)).map (B2 (λq=>M ((l++[j]).getD q 0)))=(List.range (l.length*3)).map (B2 (λq=>M (l.getD q 0))):=CX λq hq=>by
  have e3:(l++[j]).getD (q / 3) 0=l.getD (q / 3) 0:=Mf (by omega);unfold B2;simp only[e3]
 rw[e];exact h
theorem Ig{w:World}{B:Nat}{v:Value}{l:List Nat}{j:Nat}{M:Nat->ByteArray}(h:w.ownsRow B 9 1 v (l.length+1) ((List.range (l.length*1)).map (B3 (λq=>M (l.getD q 0)))++[.string (M j)])):B9 w B 9 1 v (l++[j]).length (B3 (λq=>M ((l++[j]).getD q 0))):=by
 unfold B9;rw[Ay,Bw,ES,LS];have e:(List.range (l.length*1)).map (B3 (λq=>M ((l++[j]).getD q 0)))=(List.range (l.length*1)).map (B3 (λq=>M (l.getD q 0))):=CX λq hq=>by
  have e3:(l++[j]).getD q 0=l.getD q 0:=Mf (by omega);unfold B3;simp only[e3]
 rw[e];exact h
def Is (n:Nat) (T:Nat->LType) (txt:Nat->Nat->ByteArray) (A:Nat->Option Addr) (a:Nat->Nat) (i:Nat):LType:=⟨txt 1 i,A i,(Cx T txt i).length,a i,λq=>Hx n T txt i ((Cx T txt i).getD q 0)⟩
theorem Q0{Y c d h:World}{a n k:Nat}{T:Nat->LType}{txt:Nat->Nat->ByteArray}{A:Nat->Option Addr}{g:Nat->Nat}{o:Nat->Value}{v y u I nm:Value}{fa:Option Addr}{fc:Nat}{X z:Obj}(p:a<=Y.heap.size)(hb:Below Y.heap.size Y c)(E:B9 Y a 96 2 v k (DL (Is n T txt A g)))(G:B9 Y a 65 1 u k o)(H:∀i,i<k->(Cx T txt i).length<=g i/\B9 Y a 113 3 (.slice (A i) (Cx T txt i).length (g i)) (Cx T txt i).length (B2 (λq=>Hx n T txt i ((Cx T txt i).getD q 0)))/\B9 Y a 9 1 (o i) (Cx T txt i).length (B3 (λq=>((T i).F ((Cx T txt i).getD q 0)).name)))(hc:(Cx T txt k).length<=fc)(hf:B9 c Y.heap.size 113 3 (.slice fa (Cx T txt k).length fc) (Cx T txt k).length (B2 (λq=>Hx n T txt k ((Cx T txt k).getD q 0))))(hn:B9 c Y.heap.size 9 1 nm (Cx T txt k).length (B3 (λq=>((T k).F ((Cx T txt k).getD q 0)).name)))(J:(c.alloc X).grownBy d v.ownBlock)(P:d.ownsRow a 96 2 y (k+1) ((List.range (k*2)).map (DL (Is n T txt A g))++[.string (txt 1 k),.slice fa (Cx T txt k).length fc]))(K:(d.alloc z).grownBy h u.ownBlock)(Q:h.ownsRow a 65 1 I (k+1) ((List.range (k*1)).map o++[nm])) :
  ∃L l r,B9 h a 96 2 y (k+1) (DL (Is n T txt L l))/\B9 h a 65 1 I (k+1) r/\∀i,i<k+1->(Cx T txt i).length<=l i/\B9 h a 113 3 (.slice (L i) (Cx T txt i).length (l i)) (Cx T txt i).length (B2 (λq=>Hx n T txt i ((Cx T txt i).getD q 0)))/\B9 h a 9 1 (r i) (Cx T txt i).length (B3 (λq=>((T i).F ((Cx T txt i).getD q 0)).name)):=by
 have M:=(E.kept hb).kept (BW c X);have N:=(G.kept hb).kept (BW c X);have s:=(N.grown J λb e=>N.ne M (by decide) e).kept (BW d z);have B:∀{e O m:Nat} {x:Value} {f : Nat->Value},e≠96->e≠65->B9 c a e O x m f->B9 h a e O x m f:=λh1 h2 R=>by
  have C:=R.kept (BW c X);have D:=(C.grown J λb e=>C.ne M h1 e).kept (BW d z);exact D.grown K λb e=>D.ne s h2 e
 have S:B9 d a 96 2 y (k+1) (DL (Is n T txt (λi=>if i=k then fa else A i) (λi=>if i=k then fc else g i))):=by
  have e:=Kp (Is n T txt (λi=>if i=k then fa else A i) (λi=>if i=k then fc else g i)) k
  have e2:D0 (Is n T txt (λi=>if i=k then fa else A i) (λi=>if i=k then fc else g i)) k=D0 (Is n T txt A g) k:=JM λi hi=>by
   unfold Is;simp[show ¬i=k by omega]
  unfold B9;show d.ownsRow a 96 2 y (k+1) (D0 _ (k+1));rw[e,e2];unfold Is;simp only[Af];exact P
 have w:=S.kept (BW d z);refine⟨_,_,λi=>if i=k then nm else o i,w.grown K (λb e=>w.ne s (by decide) e),?_,λi hi=>?_⟩
 ·unfold B9
  rw[show (k+1)*1=k*1+1 by omega,AA,AH];have e:(List.range (k*1)).map (λi=>if i=k then nm else o i)=(List.range (k*1)).map o:=CX λj V=>by rw[Ae (by omega)]
  rw[e];simp only[AG,AI];rw[Af (by omega)];exact Q
 ·by_cases e:i=k
  ·subst e
   simp only[Af];exact⟨hc,B (by decide) (by decide) (hf.base p),B (by decide) (by decide) (hn.base p)⟩
  ·simp only[e,Bd]
   obtain⟨C,D,U⟩:=H i (by omega);exact⟨C,B (by decide) (by decide) (D.kept hb),B (by decide) (by decide) (U.kept hb)⟩
theorem Mu(a:Option Addr)(n cap base bs:Nat)(fv:Value)(rows:Nat->Value)(T:Nat->LType)(txt:Nat->Nat->ByteArray)(w:World)(hT:Cs w a n T)(hS:RS w base bs n fv rows (Cj n T) txt)(hR:DB n (DK T))(h0:∀i,i<n->txt 0 i=(T i).name)(hkw:∀i,i<n->∀j,j<(T i).nf->(Lit.int .i64 ((T i).F j).kind).wf=true) :
  Calls Tryz.prog 40 #[.pointer (some ⟨bs,0,none⟩),.slice a n cap] w λe w'=>(∃a2 c2 a3 c3 A Cp NV,e= .returned (.tuple #[.slice a2 n c2,.slice a3 n c3])/\n<=c2/\Cs w' a2 n (Is n T txt A Cp)/\B9 w' w.heap.size 65 1 (.slice a3 n c3) n NV/\(∀i,i<n->B9 w' w.heap.size 9 1 (NV i) (Cx T txt i).length (B3 (λq=>((T i).F ((Cx T txt i).getD q 0)).name)))/\B9 w' w.heap.size 96 2 (.slice a2 n c2) n (DL (Is n T txt A Cp))/\∀i,i<n->B9 w' w.heap.size 113 3 (.slice (A i) (Cx T txt i).length (Cp i)) (Cx T txt i).length (B2 (λq=>Hx n T txt i ((Cx T txt i).getD q 0))))/\Below w.heap.size w w':=by
 have hn8:n<=8:=hR.few;have HT:=Aa hT;have HS:=Aa hS;have HR:=Aa hR;have H0:=Aa h0;have HKW:=Aa hkw;clear hT hS hR h0 hkw
 go_enter Tryz.func40,Tryz.ntmps40
 go_wp2_with fail
 go_loopw [6,7,17] (λv v2 i wr => ∃k:Nat,k<=n/\i= .int .i64 k/\Below w.heap.size w wr/\∃A Cp NV,B9 wr w.heap.size 96 2 v k (DL (Is n T txt A Cp))/\B9 wr w.heap.size 65 1 v2 k NV/\∀i,i<k->(Cx T txt i).length<=Cp i/\B9 wr w.heap.size 113 3 (.slice (A i) (Cx T txt i).length (Cp i)) (Cx T txt i).length (B2 (λq=>Hx n T txt i ((Cx T txt i).getD q 0)))/\B9 wr w.heap.size 9 1 (NV i) (Cx T txt i).length (B3 (λq=>((T i).F ((Cx T txt i).getD q 0)).name))) (λ_ _ i _=>n - (intOf i).toNat)
 case atStart=>exact⟨0,Ai _,rfl,Aq _ _,λ_=>none,λ_=>0,λ_=>.slice none 0 0,A4 _ _ _ _,A4 _ _ _ _,λi hi=>absurd hi (Ak _)⟩
 case round =>
  obtain⟨k,hk,rfl,hw,A,Cp,NV,hrT,hrN,Q⟩:=hrel
  by_cases hlt:k<n
  ·obtain⟨b,o,rfl,t0,t1,hfc,hsn,hF⟩:=(HT.out.kept hw).2 k hlt
   have hlt':(k:Int)<(n:Int):=by omega
   have hk0:(0:Int)<=(k:Int):=by omega
   have hnf:(T k).nf<=10:=(HR.out.fld k hlt).few;have hSr:=HS.out.kept hw;generalize hY:wr.alloc (Obj.cells #[.string (T k).name,.slice (T k).fa (T k).nf (T k).fcap] 96)=Y;have L:Below wr.heap.size wr Y:=by rw[<-hY];exact BW _ _
   have b1:Y.cell? ⟨wr.heap.size,1,none⟩=some (.slice (T k).fa (T k).nf (T k).fcap):=by rw[<-hY,Ac _ _ _ _ rfl];rfl
   have hSY:=hSr.kept L;have rk1:=hSY.texts 1 (by omega);rcases rk1.shape with⟨-,h0'⟩|⟨g1,cap1,hv1,hg1,-,-⟩
   ·exact absurd h0' (by show ¬n=0;omega)
   have s1:Y.cell? ⟨bs,1,none⟩=some (.slice (some ⟨g1,0,none⟩) n cap1):=by
    have:rows 1= .slice (some ⟨g1,0,none⟩) n cap1:=hv1;simp[World.cell?,hSY.box,this]
   have c1:Y.cell? ⟨g1,k,none⟩=some (.string (txt 1 k)):=by
    rw[hv1]at rk1;have:=rk1.cell (j:=k) (by show k<n*1;omega);rw[this];rfl
   have hbtl:wr.heap.size<Y.heap.size:=An b1;have HSY:=Aa hSY;have HFY:=Aa (hF.kept L);have HWY:Hid (Below w.heap.size w Y):=hw.trans (L.mono hw.size);have HRT:=Aa (hrT.kept L);have HRN:=Aa (hrN.kept L);have HRS:Hid (∀i,i<k->(Cx T txt i).length<=Cp i/\B9 Y w.heap.size 113 3 (.slice (A i) (Cx T txt i).length (Cp i)) (Cx T txt i).length (B2 (λq=>Hx n T txt i ((Cx T txt i).getD q 0)))/\B9 Y w.heap.size 9 1 (NV i) (Cx T txt i).length (B3 (λq=>((T i).F ((Cx T txt i).getD q 0)).name))):=λi hi=>⟨(Q i hi).1,(Q i hi).2.1.kept L,(Q i hi).2.2.kept L⟩;clear hw hrT hrN Q hSr hSY L hF rk1 hv1
   go_wp2_with fail
   clear hY t0 t1;have hBX:=BW Y (Obj.cells #[.string (txt 1 k),.slice none 0 0] 96);have C:(Y.alloc (Obj.cells #[.string (txt 1 k),.slice none 0 0] 96)).heap[Y.heap.size]? = some (.cells #[.string (txt 1 k),.slice none 0 0] 96 (0,0)):=Ap _ _;generalize Y.alloc (Obj.cells #[.string (txt 1 k),.slice none 0 0] 96)=X at *;have HBX:=Aa hBX;have HX:=Aa C;clear hBX C b1 s1 c1;have hnf':(T k).nf<=9223372036854775807:=by omega
   obtain⟨is,si,sz0,sz1,sz2⟩:=Cd Tryz.info9;obtain⟨iF,fi,fz0,fz1,fz2⟩:=Cd Tryz.info113
   go_loopw [11,33] (λv i w3 => ∃j:Nat,j<=(T k).nf/\i= .int .i64 j/\Below Y.heap.size Y w3/\B9 w3 Y.heap.size 9 1 v (Da txt k j).length (B3 (λq=>((T k).F ((Da txt k j).getD q 0)).name))/\∃fx,w3.heap[Y.heap.size]? = some (.cells #[.string (txt 1 k),fx] 96 (0,0))/\B9 w3 Y.heap.size 113 3 fx (Da txt k j).length (B2 (λq=>Hx n T txt k ((Da txt k j).getD q 0)))) (λ_ i _=>(T k).nf - (intOf i).toNat)
   case atStart=>exact⟨0,Ai _,rfl,HBX.out,A4 _ _ _ _,_,HX.out,A4 _ _ _ _⟩
   case round =>
    obtain⟨j,hj,rfl,D,z,fx,C,R⟩:=hrel
    by_cases hjl:j<(T k).nf
    ·obtain⟨b2,o2,ha2,f0,f1,f2,hs0,hs2,-⟩:=(HFY.out.kept D).2 j hjl
     rw[ha2];have hjl':(j:Int)<((T k).nf:Int):=by omega
     have hj0:(0:Int)<=(j:Int):=by omega
     obtain⟨vn,cn,hvn,-⟩:=z.slice;subst hvn;obtain⟨va,vc,hvx,-⟩:=R.slice;subst hvx;generalize hV:wr.alloc (Obj.cells #[.string ((T k).F j).name,.int .i64 ((T k).F j).kind,.string ((T k).F j).type] 113)=V;have hBV:Below wr.heap.size wr V:=by rw[<-hV];exact BW _ _
     have k0:V.cell? ⟨wr.heap.size,0,none⟩=some (.string ((T k).F j).name):=by rw[<-hV,Ac _ _ _ _ rfl];rfl
     have k1:V.cell? ⟨wr.heap.size,1,none⟩=some (.int .i64 ((T k).F j).kind):=by rw[<-hV,Ac _ _ _ _ rfl];rfl
     have k2:V.cell? ⟨wr.heap.size,2,none⟩=some (.string ((T k).F j).type):=by rw[<-hV,Ac _ _ _ _ rfl];rfl
     have hYV:Below Y.heap.size Y V:=D.trans (hBV.mono D.size);have hSV:=HSY.out.kept hYV;have hfr:=hSV.frow;rcases hfr.shape with⟨-,h0'⟩|⟨gf,capf,hvf,-,-,-⟩
     ·omega
     have s2:V.cell? ⟨bs,2,none⟩=some (.slice (some ⟨gf,0,none⟩) n capf):=by simp[World.cell?,hSV.box,hvf]
     rw[hvf]at hfr;have hlen:Cj n T (2+k)=(T k).nf:=by unfold Cj;rw[Ae (by omega),show 2+k - 2=k by omega]
     have rkk:=hSV.texts (2+k) (by omega);rw[hlen]at rkk;rcases rkk.shape with⟨-,h0'⟩|⟨gk,capk,hvk,-,-,-⟩
     ·omega
     have s3:V.cell? ⟨gf,k,none⟩=some (.slice (some ⟨gk,0,none⟩) (T k).nf capk):=by
      rw[hfr.cell (j:=k) (by omega),hvk]
     rw[hvk]at rkk;have s4:V.cell? ⟨gk,j,none⟩=some (.string (txt (2+k) j)):=by rw[rkk.cell (j:=j) (by omega)];rfl
     have S:=Aa hYV;have N:=Aa (z.kept hBV);have HFX:=Aa (R.kept hBV);have HBXr:=Aa (IB hBV C);have HSV:=Aa hSV;have hfl:wr.heap.size<V.heap.size:=An k0;have hgl1:bs<V.heap.size:=An s2;have hgl2:gf<V.heap.size:=An s3;have hgl3:gk<V.heap.size:=An s4;have HFXlt:Hid (∀b,(Value.slice va (Da txt k j).length vc).ownBlock=some b->b<wr.heap.size):=λb hb=>(R.lt hb).2;have hYr:Y.heap.size<wr.heap.size:=Ag C;clear z R C hBV hYV hSV hfr rkk D hvk hlen
     by_cases hem:(txt (2+k) j).size=0
     ·have he1:(txt (2+k) j).toList.isEmpty=true:=Ef.2 hem
      have hvz:=TS hem;clear hem
      go_wp2_with fail
      go_roundw
      case rel=>exact⟨j+1,by omega,by go_num,S.out,by rw[hvz];exact N.out,_,HBXr.out,by rw[hvz];exact HFX.out⟩
      case measure=>simp[intOf];omega
     have he1:(txt (2+k) j).toList.isEmpty=false:=by
      cases h:(txt (2+k) j).toList.isEmpty with
      |false=>rfl
      |true=>exact absurd (Ef.1 h) hem
     have HVY:=Aa (SN hem);clear hem
     go_wp2_with fail
     clear hV
     go_region
     have hBD:Below V.heap.size V (V.alloc (Obj.cells #[.string (txt (2+k) j),.int .i64 ((T k).F j).kind,.string ⟨#[]⟩] 113)).drew:=(BW V _).drew;have hgD:(V.alloc (Obj.cells #[.string (txt (2+k) j),.int .i64 ((T k).F j).kind,.string ⟨#[]⟩] 113)).drew.heap[V.heap.size]? = some (.cells #[.string (txt (2+k) j),.int .i64 ((T k).F j).kind,.string ⟨#[]⟩] 113 (0,0)):=Ap V _;generalize (V.alloc (Obj.cells #[.string (txt (2+k) j),.int .i64 ((T k).F j).kind,.string ⟨#[]⟩] 113)).drew=I at *;have d1:=BR hBD k1;have y:=Aa hBD;have HG5:=Aa hgD;clear hBD hgD
     by_cases U:((T k).F j).kind=1
     ·have hkb:(((T k).F j).kind != 1)=false:=by simpa using U
      have HTY:Hid (Hx n T txt k j=⟨txt (2+k) j,((T k).F j).kind,⟨#[]⟩⟩):=by unfold Hid Hx;rw[Af U]
      clear U;have E:=IB y.out HBXr.out;have x1:I.cell? ⟨Y.heap.size,1,none⟩=some (.slice va (Da txt k j).length vc):=by simp[World.cell?,E]
      have g0:I.cell? ⟨V.heap.size,0,none⟩=some (.string (txt (2+k) j)):=by simp[World.cell?,HG5.out]
      have g1:I.cell? ⟨V.heap.size,1,none⟩=some (.int .i64 ((T k).F j).kind):=by simp[World.cell?,HG5.out]
      have g2:I.cell? ⟨V.heap.size,2,none⟩=some (.string ⟨#[]⟩):=by simp[World.cell?,HG5.out]
      have n0:=BR y.out k0;have HO:Hid (B9 (I.alloc (Obj.cells #[.string (txt (2+k) j),.int .i64 ((T k).F j).kind,.string ⟨#[]⟩] 113)) Y.heap.size 113 3 (.slice va (Da txt k j).length vc) (Da txt k j).length (B2 (λq=>Hx n T txt k ((Da txt k j).getD q 0)))):=(HFX.out.kept y.out).kept (BW _ _);have HX5:=Aa E;have hcl:(Da txt k j).length<=10:=by have:=JX txt k j;omega
      have hzd:Y.heap.size<=I.heap.size:=Am S.out.size y.out.size;have HN5:=Aa (N.out.kept y.out);have hxl:Y.heap.size<I.heap.size:=Ag E;have hfl5:wr.heap.size<I.heap.size:=An n0;have HD5Y:Hid (Below Y.heap.size Y I):=S.out.trans (y.out.mono S.out.size);clear E
      go_wp2_with (at_builtin;refine Ck _ rfl _ _ 94 rfl Y.heap.size 113 iF _ 3 40 Tryz.underlying94 fi fz0 fz1 fz2 rfl (by decide) _ (Da txt k j).length _ rfl HO.out (some ⟨I.heap.size,0,none⟩) 1 1 [.string (txt (2+k) j),.int .i64 ((T k).F j).kind,.string ⟨#[]⟩] rfl rfl (CI I #[.string (txt (2+k) j),.int .i64 ((T k).F j).kind,.string ⟨#[]⟩] _) (λh=>by cases h) (by intro u O;simp at O;rcases O with rfl|rfl|rfl<;>rfl) (by unfold maxLen;omega) (by omega) (by simp;omega) ?_)
      intro v6 c d g _;have s:c.heap[Y.heap.size]? = some (.cells #[.string (txt 1 k),.slice va (Da txt k j).length vc] 96 (0,0)):=(g.block _ (by simp;omega) (λe=>HO.out.box_ne e.symm (((BW I _).block _ hxl).trans HX5.out) (by decide) rfl)).trans (((BW I _).block _ hxl).trans HX5.out);have y1:c.cell? ⟨Y.heap.size,1,none⟩=some (.slice va (Da txt k j).length vc):=by simp[World.cell?,s]
      have y2:c.frozen? ⟨Y.heap.size,1,none⟩=false:=by simp[World.frozen?,s]
      have G:Hid ((Da txt k j++[j]).length=(Da txt k j).length+1):=by unfold Hid;simp
      have W:B9 c Y.heap.size 113 3 v6 ((Da txt k j).length+1) (B2 (λq=>Hx n T txt k ((Da txt k j++[j]).getD q 0))):=by have h:=G6 (w:=c) (B:=Y.heap.size) (v:=v6) (l:=Da txt k j) (j:=j) (M:=Hx n T txt k) (by rw[HTY.out];exact d);rw[G.out]at h;exact h
      obtain⟨J,K,hv6,-⟩:=W.slice;subst hv6;have hn6:B9 c Y.heap.size 9 1 (.slice vn (Da txt k j).length cn) (Da txt k j).length (B3 (λq=>((T k).F ((Da txt k j).getD q 0)).name)):=(HN5.out.kept (BW _ _)).grown g (λb hb=>(HN5.out.kept (BW _ _)).ne HO.out (by decide) hb);have hxl6:=Ag s;have m0:c.cell? ⟨wr.heap.size,0,none⟩=some (.string ((T k).F j).name):=g.cell (BR (BW I _) n0) (λe=>absurd (HFXlt.out _ e.symm) (Nat.lt_irrefl _));have hneY : ¬wr.heap.size=Y.heap.size:=by omega
      have hneY2 : ¬Y.heap.size=wr.heap.size:=by omega
      have P:=Ao c Y.heap.size 1 _ 96 (.slice J ((Da txt k j).length+1) K) s;have aa:∀{B' e sz m:Nat} {u:Value} {f : Nat->Value},e≠96->B9 c B' e sz u m f->B9 (c.setCell ⟨Y.heap.size,1,none⟩ (.slice J ((Da txt k j).length+1) K)) B' e sz u m f:=λhe hr=>hr.set_other (p:=⟨Y.heap.size,1,none⟩) (λe'=>hr.box_ne e' s he rfl) _;have HR7:=Aa (aa (by decide) W);have HN7:=Aa (aa (by decide) hn6);have HX7:Hid ((c.setCell ⟨Y.heap.size,1,none⟩ (.slice J ((Da txt k j).length+1) K)).heap[Y.heap.size]? = some (.cells #[.string (txt 1 k),.slice J ((Da txt k j).length+1) K] 96 (0,0))):=by unfold Hid;rw[P];rfl
      have HB7:Hid (Below Y.heap.size Y (c.setCell ⟨Y.heap.size,1,none⟩ (.slice J ((Da txt k j).length+1) K))):=((HD5Y.out.trans ((BW I _).mono hzd)).grown g (by simp;omega) (λb hb=>(HFX.out.lt hb).1)).setCell (Aj _) _;have hz6:Y.heap.size<=c.heap.size:=by have:=HB7.out.size;simpa using this
      have H:Hid (B9 ((c.setCell ⟨Y.heap.size,1,none⟩ (.slice J ((Da txt k j).length+1) K)).alloc (Obj.cells #[.string ((T k).F j).name] 9)) Y.heap.size 9 1 (.slice vn (Da txt k j).length cn) (Da txt k j).length (B3 (λq=>((T k).F ((Da txt k j).getD q 0)).name))):=HN7.out.kept (BW _ _);clear d g W hn6 aa P s x1 g0 g1 g2 n0 HO
      go_wp2_with (at_builtin;refine Ck _ rfl _ _ 65 rfl Y.heap.size 9 is _ 1 16 Tryz.underlying65 si sz0 sz1 sz2 rfl (by decide) _ (Da txt k j).length _ rfl H.out (some ⟨c.heap.size,0,none⟩) 1 1 [.string ((T k).F j).name] rfl rfl (λad had=>CI (c.setCell ⟨Y.heap.size,1,none⟩ (.slice J ((Da txt k j).length+1) K)) #[.string ((T k).F j).name] _ ad (by simpa using had)) (λh=>by cases h) (by intro u O;simp at O;subst O;rfl) (by unfold maxLen;omega) (by omega) (by simp;omega) ?_)
      intro v8 w8 r x _;have HR8:=Aa ((HR7.out.kept (BW _ _)).grown x (λb hb=>(HR7.out.kept (BW _ _)).ne H.out (by decide) hb));have HN8:Hid (B9 w8 Y.heap.size 9 1 v8 ((Da txt k j).length+1) (B3 (λq=>((T k).F ((Da txt k j++[j]).getD q 0)).name))):=by have h:=Ig (w:=w8) (B:=Y.heap.size) (v:=v8) (l:=Da txt k j) (j:=j) (M:=λq=>((T k).F q).name) (by rw[Bk];exact r);rw[G.out]at h;exact h
      have HX8:Hid (w8.heap[Y.heap.size]? = some (.cells #[.string (txt 1 k),.slice J ((Da txt k j).length+1) K] 96 (0,0))):=(x.block _ (by simp;omega) (λe=>H.out.box_ne e.symm (((BW _ _).block _ (by simp;omega)).trans HX7.out) (by decide) rfl)).trans (((BW _ _).block _ (by simp;omega)).trans HX7.out);have HB8:Hid (Below Y.heap.size Y w8):=(HB7.out.trans ((BW _ _).mono (by simpa using hz6))).grown x (by simp;omega) (λb hb=>(N.out.lt hb).1);clear r x y1 y2 m0
      go_wp2_with fail
      go_roundw
      case rel=>exact⟨j+1,by omega,by go_num,HB8.out,by rw[HVY.out,G.out];exact HN8.out,_,HX8.out,by rw[HVY.out,G.out];exact HR8.out⟩
      case measure=>simp[intOf];omega
     ·have hkb:(((T k).F j).kind != 1)=true:=by simpa using U
      obtain⟨q1,q2⟩:=I4 HR.out H0.out hlt hjl U;obtain⟨-,-,q3⟩:=Gn q2;have HTY0:Hid (Hx n T txt k j=⟨txt (2+k) j,((T k).F j).kind,txt 1 (pl n (txt 0) ((T k).F j).type).toNat⟩):=by unfold Hid Hx;rw[Ae U]
      generalize hqq:(pl n (txt 0) ((T k).F j).type).toNat=q at *;have hq':(q:Int)<(n:Int):=by omega
      have hq0:(0:Int)<=(q:Int):=by omega
      have r0:=HSV.out.texts 0 (by omega);have r1:=HSV.out.texts 1 (by omega);have l0:Cj n T 0=n:=rfl;have l1:Cj n T 1=n:=rfl;rw[l0]at r0;rw[l1]at r1;rcases r0.shape with⟨-,h0'⟩|⟨gz,capz,hvz,-,-,-⟩
      ·omega
      rcases r1.shape with⟨-,h0'⟩|⟨gc,capc,hvc,-,-,-⟩
      ·omega
      have e0:V.cell? ⟨bs,0,none⟩=some (.slice (some ⟨gz,0,none⟩) n capz):=by simp[World.cell?,HSV.out.box,hvz]
      have e1:V.cell? ⟨bs,1,none⟩=some (.slice (some ⟨gc,0,none⟩) n capc):=by simp[World.cell?,HSV.out.box,hvc]
      have e2:V.cell? ⟨gc,q,none⟩=some (.string (txt 1 q)):=by
       rw[hvc]at r1;rw[r1.cell (j:=q) (by omega)];rfl
      obtain⟨az,cz,hkz,-,hKZ⟩:=HSV.out.keys (k:=0) (by omega);rw[l0]at hkz hKZ;rw[hvz]at hkz;cases hkz;have HPL:Hid (∀Z,Below V.heap.size V Z->Calls Tryz.prog 74 #[.slice (some ⟨gz,0,none⟩) n capz,.string ((T k).F j).type] Z λe w'=>e= .returned (.int .i64 (q:Int))/\Below Z.heap.size Z w'/\Below V.heap.size V w'):=λZ hZ=>(FT _ n capz (txt 0) _ Z (hKZ.kept hZ)).mono λe w' h=>⟨by rw[h.1,q3],h.2,hZ.trans (h.2.mono hZ.size)⟩;have hbD:Below V.heap.size V I.drew:=y.out.drew;have u0:=BR y.out e0;have u1:=BR y.out e1;have u2:=BR y.out e2;have u3:=BR y.out k2;have HGd:Hid (I.drew.heap[V.heap.size]? = some (.cells #[.string (txt (2+k) j),.int .i64 ((T k).F j).kind,.string ⟨#[]⟩] 113 (0,0))):=HG5.out;have hvl:V.heap.size<I.drew.heap.size:=Ag HGd.out;have E1:=Aa e1;have E2:=Aa e2;clear U q2 q3 hqq r0 r1 hvz hvc hKZ l0 l1 e0 e1 e2
      go_wp2_with fail
      go_region_law (go_simp;go_at_call 74;refine(HPL.out _ hbD).mono ?_;rintro e w9 ⟨rfl,hb9,hbV9⟩;have y1:=BR hbV9 E1.out;have y2:=BR hbV9 E2.out;have hg9:=(hb9.block _ hvl).trans HGd.out;have y3:w9.cell? ⟨V.heap.size,2,none⟩=some (.string ⟨#[]⟩):=(by simp[World.cell?,hg9]);have y4:w9.frozen? ⟨V.heap.size,2,none⟩=false:=(by simp[World.frozen?,hg9]);have HV9:=Aa hbV9;have HG9:=Aa hg9;clear hb9 hbV9 hg9)
      all_goals (
       have hD6:Below V.heap.size V (w9.setCell ⟨V.heap.size,2,none⟩ (.string (txt 1 q))):=HV9.out.setCell (Aj _) _;have hG6:(w9.setCell ⟨V.heap.size,2,none⟩ (.string (txt 1 q))).heap[V.heap.size]? = some (.cells #[.string (txt (2+k) j),.int .i64 ((T k).F j).kind,.string (txt 1 q)] 113 (0,0)):=by rw[Ao _ _ _ _ _ _ HG9.out];rfl
       generalize w9.setCell ⟨V.heap.size,2,none⟩ (.string (txt 1 q))=D6 at *;have HD6:=Aa hD6;have HG6:=Aa hG6;have HTY6:=HTY0;clear hD6 hG6 u0 u1 u2 u3 y1 y2 y3 y4 hbD hvl d1;have E:=IB HD6.out HBXr.out;have x1:D6.cell? ⟨Y.heap.size,1,none⟩=some (.slice va (Da txt k j).length vc):=by simp[World.cell?,E]
       have g0:D6.cell? ⟨V.heap.size,0,none⟩=some (.string (txt (2+k) j)):=by simp[World.cell?,HG6.out]
       have g1:D6.cell? ⟨V.heap.size,1,none⟩=some (.int .i64 ((T k).F j).kind):=by simp[World.cell?,HG6.out]
       have g2:D6.cell? ⟨V.heap.size,2,none⟩=some (.string (txt 1 q)):=by simp[World.cell?,HG6.out]
       have n0:=BR HD6.out k0;have HO:Hid (B9 (D6.alloc (Obj.cells #[.string (txt (2+k) j),.int .i64 ((T k).F j).kind,.string (txt 1 q)] 113)) Y.heap.size 113 3 (.slice va (Da txt k j).length vc) (Da txt k j).length (B2 (λq=>Hx n T txt k ((Da txt k j).getD q 0)))):=(HFX.out.kept HD6.out).kept (BW _ _);have HX5:=Aa E;have hcl:(Da txt k j).length<=10:=by have:=JX txt k j;omega
       have hzd:Y.heap.size<=D6.heap.size:=Am S.out.size HD6.out.size;have HN5:=Aa (N.out.kept HD6.out);have hxl:Y.heap.size<D6.heap.size:=Ag E;have hfl5:wr.heap.size<D6.heap.size:=An n0;have HD6Y:Hid (Below Y.heap.size Y D6):=S.out.trans (HD6.out.mono S.out.size);clear E
       go_wp2_with (at_builtin;refine Ck _ rfl _ _ 94 rfl Y.heap.size 113 iF _ 3 40 Tryz.underlying94 fi fz0 fz1 fz2 rfl (by decide) _ (Da txt k j).length _ rfl HO.out (some ⟨D6.heap.size,0,none⟩) 1 1 [.string (txt (2+k) j),.int .i64 ((T k).F j).kind,.string (txt 1 q)] rfl rfl (CI D6 #[.string (txt (2+k) j),.int .i64 ((T k).F j).kind,.string (txt 1 q)] _) (λh=>by cases h) (by intro u O;simp at O;rcases O with rfl|rfl|rfl<;>rfl) (by unfold maxLen;omega) (by omega) (by simp;omega) ?_)
       intro v6 c d g _;have s:c.heap[Y.heap.size]? = some (.cells #[.string (txt 1 k),.slice va (Da txt k j).length vc] 96 (0,0)):=(g.block _ (by simp;omega) (λe=>HO.out.box_ne e.symm (((BW D6 _).block _ hxl).trans HX5.out) (by decide) rfl)).trans (((BW D6 _).block _ hxl).trans HX5.out);have y1:c.cell? ⟨Y.heap.size,1,none⟩=some (.slice va (Da txt k j).length vc):=by simp[World.cell?,s]
       have y2:c.frozen? ⟨Y.heap.size,1,none⟩=false:=by simp[World.frozen?,s]
       have G:Hid ((Da txt k j++[j]).length=(Da txt k j).length+1):=by unfold Hid;simp
       have W:B9 c Y.heap.size 113 3 v6 ((Da txt k j).length+1) (B2 (λq=>Hx n T txt k ((Da txt k j++[j]).getD q 0))):=by have h:=G6 (w:=c) (B:=Y.heap.size) (v:=v6) (l:=Da txt k j) (j:=j) (M:=Hx n T txt k) (by rw[HTY6.out];exact d);rw[G.out]at h;exact h
       obtain⟨J,K,hv6,-⟩:=W.slice;subst hv6;have hn6:B9 c Y.heap.size 9 1 (.slice vn (Da txt k j).length cn) (Da txt k j).length (B3 (λq=>((T k).F ((Da txt k j).getD q 0)).name)):=(HN5.out.kept (BW _ _)).grown g (λb hb=>(HN5.out.kept (BW _ _)).ne HO.out (by decide) hb);have hxl6:=Ag s;have m0:c.cell? ⟨wr.heap.size,0,none⟩=some (.string ((T k).F j).name):=g.cell (BR (BW D6 _) n0) (λe=>absurd (HFXlt.out _ e.symm) (Nat.lt_irrefl _));have hneY : ¬wr.heap.size=Y.heap.size:=by omega
       have hneY2 : ¬Y.heap.size=wr.heap.size:=by omega
       have P:=Ao c Y.heap.size 1 _ 96 (.slice J ((Da txt k j).length+1) K) s;have aa:∀{B' e sz m:Nat} {u:Value} {f : Nat->Value},e≠96->B9 c B' e sz u m f->B9 (c.setCell ⟨Y.heap.size,1,none⟩ (.slice J ((Da txt k j).length+1) K)) B' e sz u m f:=λhe hr=>hr.set_other (p:=⟨Y.heap.size,1,none⟩) (λe'=>hr.box_ne e' s he rfl) _;have HR7:=Aa (aa (by decide) W);have HN7:=Aa (aa (by decide) hn6);have HX7:Hid ((c.setCell ⟨Y.heap.size,1,none⟩ (.slice J ((Da txt k j).length+1) K)).heap[Y.heap.size]? = some (.cells #[.string (txt 1 k),.slice J ((Da txt k j).length+1) K] 96 (0,0))):=by unfold Hid;rw[P];rfl
       have HB7:Hid (Below Y.heap.size Y (c.setCell ⟨Y.heap.size,1,none⟩ (.slice J ((Da txt k j).length+1) K))):=((HD6Y.out.trans ((BW D6 _).mono hzd)).grown g (by simp;omega) (λb hb=>(HFX.out.lt hb).1)).setCell (Aj _) _;have hz6:Y.heap.size<=c.heap.size:=by have:=HB7.out.size;simpa using this
       have H:Hid (B9 ((c.setCell ⟨Y.heap.size,1,none⟩ (.slice J ((Da txt k j).length+1) K)).alloc (Obj.cells #[.string ((T k).F j).name] 9)) Y.heap.size 9 1 (.slice vn (Da txt k j).length cn) (Da txt k j).length (B3 (λq=>((T k).F ((Da txt k j).getD q 0)).name))):=HN7.out.kept (BW _ _);clear d g W hn6 aa P s x1 g0 g1 g2 n0 HO
       go_wp2_with (at_builtin;refine Ck _ rfl _ _ 65 rfl Y.heap.size 9 is _ 1 16 Tryz.underlying65 si sz0 sz1 sz2 rfl (by decide) _ (Da txt k j).length _ rfl H.out (some ⟨c.heap.size,0,none⟩) 1 1 [.string ((T k).F j).name] rfl rfl (λad had=>CI (c.setCell ⟨Y.heap.size,1,none⟩ (.slice J ((Da txt k j).length+1) K)) #[.string ((T k).F j).name] _ ad (by simpa using had)) (λh=>by cases h) (by intro u O;simp at O;subst O;rfl) (by unfold maxLen;omega) (by omega) (by simp;omega) ?_)
       intro v8 w8 r x _;have HR8:=Aa ((HR7.out.kept (BW _ _)).grown x (λb hb=>(HR7.out.kept (BW _ _)).ne H.out (by decide) hb));have HN8:Hid (B9 w8 Y.heap.size 9 1 v8 ((Da txt k j).length+1) (B3 (λq=>((T k).F ((Da txt k j++[j]).getD q 0)).name))):=by have h:=Ig (w:=w8) (B:=Y.heap.size) (v:=v8) (l:=Da txt k j) (j:=j) (M:=λq=>((T k).F q).name) (by rw[Bk];exact r);rw[G.out]at h;exact h
       have HX8:Hid (w8.heap[Y.heap.size]? = some (.cells #[.string (txt 1 k),.slice J ((Da txt k j).length+1) K] 96 (0,0))):=(x.block _ (by simp;omega) (λe=>H.out.box_ne e.symm (((BW _ _).block _ (by simp;omega)).trans HX7.out) (by decide) rfl)).trans (((BW _ _).block _ (by simp;omega)).trans HX7.out);have HB8:Hid (Below Y.heap.size Y w8):=(HB7.out.trans ((BW _ _).mono (by simpa using hz6))).grown x (by simp;omega) (λb hb=>(N.out.lt hb).1);clear r x y1 y2 m0
       go_wp2_with fail
       go_roundw
       case rel=>exact⟨j+1,by omega,by go_num,HB8.out,by rw[HVY.out,G.out];exact HN8.out,_,HX8.out,by rw[HVY.out,G.out];exact HR8.out⟩
       case measure=>simp[intOf];omega)
    ·have hjn:j=(T k).nf:=by omega
     rw[hjn]at z R;have hrow':B9 wr Y.heap.size 9 1 _ (Cx T txt k).length (B3 (λq=>((T k).F ((Cx T txt k).getD q 0)).name)):=z;have hfx':B9 wr Y.heap.size 113 3 fx (Cx T txt k).length (B2 (λq=>Hx n T txt k ((Cx T txt k).getD q 0))):=R;obtain⟨vn,cn,hvn,-⟩:=hrow'.slice;subst hvn;obtain⟨va,vc,hvx,hvc⟩:=hfx'.slice;subst hvx;obtain⟨ao,co,hvo,-⟩:=HRT.out.slice;obtain⟨aw,cw,hvw,-⟩:=HRN.out.slice;subst hvo hvw;have x0:wr.cell? ⟨Y.heap.size,0,none⟩=some (.string (txt 1 k)):=by simp[World.cell?,C]
     have x1:wr.cell? ⟨Y.heap.size,1,none⟩=some (.slice va (Cx T txt k).length vc):=by simp[World.cell?,C]
     obtain⟨iT,ti,tz0,tz1,tz2⟩:=Cd Tryz.info96;obtain⟨iS,ui,uz0,uz1,uz2⟩:=Cd Tryz.info65;have HB3:=Aa D;have HN3:=Aa hrow';have HF3:=Aa hfx';have HO1:Hid (B9 (wr.alloc (Obj.cells #[.string (txt 1 k),.slice va (Cx T txt k).length vc] 96)) w.heap.size 96 2 (.slice ao k co) k (DL (Is n T txt A Cp))):=(HRT.out.kept D).kept (BW _ _);have HNO:=Aa (HRN.out.kept D);have hzY:w.heap.size<=Y.heap.size:=HWY.out.size;have hz3:Y.heap.size<=wr.heap.size:=D.size;have hcl:(Cx T txt k).length<=10:=by have:=JX txt k (T k).nf;have:(Cx T txt k).length<=(T k).nf:=this;omega
     clear z R hrow' hfx' D C hjn
     go_wp2_with (at_builtin;refine Ck _ rfl _ _ 77 rfl w.heap.size 96 iT _ 2 40 Tryz.underlying77 ti tz0 tz1 tz2 rfl (by decide) _ k _ rfl HO1.out (some ⟨wr.heap.size,0,none⟩) 1 1 [.string (txt 1 k),.slice va (Cx T txt k).length vc] rfl rfl (CI wr #[.string (txt 1 k),.slice va (Cx T txt k).length vc] _) (λh=>by cases h) (by intro u O;simp at O;rcases O with rfl|rfl<;>rfl) (by unfold maxLen;omega) (by omega) (by simp;omega) ?_)
     intro v6 c d g _;have H:Hid (B9 (c.alloc (Obj.cells #[.slice vn (Cx T txt k).length cn] 65)) w.heap.size 65 1 (.slice aw k cw) k NV):=((HNO.out.kept (BW _ _)).grown g (λb e=>(HNO.out.kept (BW _ _)).ne HO1.out (by decide) e)).kept (BW _ _);have hz6:wr.heap.size<=c.heap.size:=by have:=g.size;simp at this;omega
     have HG6:=Aa g;have HW6:=Aa d;have HB6:Hid (Below w.heap.size w c):=((HWY.out.trans (HB3.out.mono hzY)).trans ((BW wr _).mono (by omega))).grown g (by simp;omega) (λb hb=>(HRT.out.lt hb).1);clear d g
     go_wp2_with (at_builtin;refine Ck _ rfl _ _ 105 rfl w.heap.size 65 iS _ 1 24 Tryz.underlying105 ui uz0 uz1 uz2 rfl (by decide) _ k _ rfl H.out (some ⟨c.heap.size,0,none⟩) 1 1 [.slice vn (Cx T txt k).length cn] rfl rfl (CI c #[.slice vn (Cx T txt k).length cn] _) (λh=>by cases h) (by intro u O;simp at O;subst O;rfl) (by unfold maxLen;omega) (by omega) (by simp;omega) ?_)
     intro v8 w8 r x _;have HST:=Aa (Q0 hzY HB3.out HRT.out HRN.out HRS.out hvc HF3.out HN3.out HG6.out HW6.out x (by rw[Bk];exact r));have HB8:Hid (Below w.heap.size w w8):=(HB6.out.trans ((BW c _).mono (by omega))).grown x (by simp;omega) (λb hb=>(HRN.out.lt hb).1);clear r x x0 x1
     go_wp2_with fail
     go_roundw
     case rel=>exact⟨k+1,by omega,by go_num,HB8.out,HST.out⟩
     case measure=>simp[intOf];omega
  ·have hkn:k=n:=by omega
   subst hkn;obtain⟨a3,c3,hv3,-⟩:=hrN.slice;subst hv3;obtain⟨a2,c2,hv2,hc2,hT2⟩:=PT (T:=Is k T txt A Cp) hrT (by unfold maxLen;omega) (λi hi=>by
    obtain⟨q1,q2,-⟩:=Q i hi;have hgl:∀q,q<(Cx T txt i).length->IA (Hx k T txt i ((Cx T txt i).getD q 0)):=λq hq=>by
     obtain⟨v1,-⟩:=Ky hq;have hlen:Cj k T (2+i)=(T i).nf:=by unfold Cj;rw[Ae (by omega),show 2+i - 2=i by omega]
     refine⟨HS.out.good (2+i) (by omega) _ (by rw[hlen];exact v1),?_,HKW.out i hi _ v1⟩;unfold Hx
     by_cases hk1:((T i).F ((Cx T txt i).getD q 0)).kind=1
     ·simp only[hk1,Af];exact Ai _
     ·simp only[hk1,Bd]
      exact HS.out.good 1 (by omega) _ (I4 HR.out H0.out hi v1 hk1).1
    obtain⟨J,K,e6,-,hFA⟩:=q2.fieldsAt (by unfold maxLen;have h1:=JX txt i (T i).nf;have h2:(Cx T txt i).length<=(T i).nf:=h1;have:=(HR.out.fld i hi).few;have h3:(T i).nf<=10:=this;omega) hgl;cases e6;exact⟨q1,HS.out.good 1 (by omega) i hi,hFA⟩)
   subst hv2;have HW:=Aa hw;have HT2:=Aa hT2;have HN2:=Aa hrN;have HR2:=Aa Q;have HRTf:=Aa hrT;clear hw hT2 hrN Q hrT
   go_wp2_with fail
   exact At (v:=.tuple #[.slice a2 k c2,.slice a3 k c3]) (by simp[results,Tryz.results40,go_sem]) rfl ⟨⟨a2,c2,a3,c3,A,Cp,NV,rfl,hc2,HT2.out,HN2.out,λi hi=>(HR2.out i hi).2.2,HRTf.out,λi hi=>(HR2.out i hi).2.1⟩,HW.out⟩
end Go.Proofs.YtjjggefmmeminabGreat
