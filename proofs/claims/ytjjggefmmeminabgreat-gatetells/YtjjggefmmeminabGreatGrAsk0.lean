import Derived.Test.YtjjggefmmeminabGreatGrNewReg
import Derived.Test.YtjjggefmmeminabGreatQyCheck
import Derived.Test.YtjjggefmmeminabGreatGrAskReg
import Derived.Test.YtjjggefmmeminabGreatGrAdd
import Derived.Test.YtjjggefmmeminabGreatGrReply
import Derived.Test.YtjjggefmmeminabGreatJGt
set_option maxRecDepth 100000
set_option maxHeartbeats 4000000
namespace Go.Proofs.YtjjggefmmeminabGreat
open Go.RowKit Go.Sort Go.PlainAid
theorem Tryz.info131:(Tryz.prog.info? 131).map (λi=>(i.zero,i.size,i.bytes))=some (some (.agg #[.string ⟨#[]⟩,.slice none 0 0,.string ⟨#[]⟩,.int .i64 0,.string ⟨#[]⟩,.int .i64 0,.string ⟨#[]⟩,.string ⟨#[]⟩,.slice none 0 0,.map none,.map none]),11,160):=by kernel_rfl
def UA (w:World) (d:Nat) (ps:List (Cg (d+1))) (pv:Nat->Value):Prop := ∀i,i<ps.length->∃A C,pv i= .slice A (subs (BS ps i)).length C/\(subs (BS ps i)).length<=C/\CB w d A (subs (BS ps i))
theorem Rp{w:World}{d:Nat}{a:Option Addr}{ps:List (Cg (d+1))}(h:CB w (d+1) a ps):∃pv:Nat->Value,UA w d ps pv/\∀i,i<ps.length->∃b o A C,a=some ⟨b,o,none⟩/\pv i= .slice A (subs (BS ps i)).length C/\w.cell? ⟨b,o+i*3,none⟩=some (.string (Di (BS ps i)))/\w.cell? ⟨b,o+i*3+1,none⟩=some (.string (BT (BS ps i)))/\w.cell? ⟨b,o+i*3+2,none⟩=some (.slice A (subs (BS ps i)).length C):=by
 have g:∀i,i<ps.length->∃u:Value,(∃A C,u= .slice A (subs (BS ps i)).length C/\(subs (BS ps i)).length<=C/\CB w d A (subs (BS ps i)))/\∃b o A C,a=some ⟨b,o,none⟩/\u= .slice A (subs (BS ps i)).length C/\w.cell? ⟨b,o+i*3,none⟩=some (.string (Di (BS ps i)))/\w.cell? ⟨b,o+i*3+1,none⟩=some (.string (BT (BS ps i)))/\w.cell? ⟨b,o+i*3+2,none⟩=some (.slice A (subs (BS ps i)).length C):=λi hi=>by
  obtain⟨b,o,A,C,e,c0,c1,c2,hc,-,-,j⟩:=h.2 i hi;exact⟨.slice A (subs (BS ps i)).length C,⟨A,C,rfl,hc,j⟩,b,o,A,C,e,rfl,c0,c1,c2⟩
 obtain⟨pv,c⟩:=Go.Deep.choose_lt (α:=Value) (n:=ps.length) (p:=λi u=>(∃A C,u= .slice A (subs (BS ps i)).length C/\(subs (BS ps i)).length<=C/\CB w d A (subs (BS ps i)))/\∃b o A C,a=some ⟨b,o,none⟩/\u= .slice A (subs (BS ps i)).length C/\w.cell? ⟨b,o+i*3,none⟩=some (.string (Di (BS ps i)))/\w.cell? ⟨b,o+i*3+1,none⟩=some (.string (BT (BS ps i)))/\w.cell? ⟨b,o+i*3+2,none⟩=some (.slice A (subs (BS ps i)).length C)) g;exact⟨pv,λi hi=>(c i hi).1,λi hi=>(c i hi).2⟩
theorem Oa{d:Nat}(p:PPart)(ps:List (Cg (d+1)))(pv:Nat->Value)(nx:Nat->LV)(k:Nat):(List.range ((k+1)*11)).map (CU p ps pv nx)=(List.range (k*11)).map (CU p ps pv nx)++[.string (B8 (BS ps k)),pv k,.string (EQ p (BT (BS ps k))).name,.int .i64 (EQ p (BT (BS ps k))).kind,.string (EQ p (BT (BS ps k))).type,.int .i64 (Dd p (BT (BS ps k))).svc,.string (Dd p (BT (BS ps k))).type,.string (Dd p (BT (BS ps k))).field,.slice (nx k).a (nx k).n (nx k).c,.map (nx k).h,.map (nx k).v]:=by
 rw[Nat.add_mul,List.range_add,AH,List.map_map];congr 1;show (List.range 11).map _=_;have b:∀q,q<11->(k*11+q) / 11=k/\(k*11+q) % 11=q:=λq hq=>by omega
 have e:∀q,q<11->(CU p ps pv nx ∘ λx=>k*11+x) q=if q=0 then .string (B8 (BS ps k)) else if q=1 then pv k else if q=2 then .string (EQ p (BT (BS ps k))).name else if q=3 then .int .i64 (EQ p (BT (BS ps k))).kind else if q=4 then .string (EQ p (BT (BS ps k))).type
 else if q=5 then .int .i64 (Dd p (BT (BS ps k))).svc else if q=6 then .string (Dd p (BT (BS ps k))).type else if q=7 then .string (Dd p (BT (BS ps k))).field else if q=8 then .slice (nx k).a (nx k).n (nx k).c else if q=9 then .map (nx k).h else .map (nx k).v:=λq hq=>by
  show CU p ps pv nx (k*11+q)=_;unfold CU;rw[(b q hq).1,(b q hq).2]
 rw[show List.range 11 = [0,1,2,3,4,5,6,7,8,9,10] from by decide];simp only[AG,AI];rw[e 0 (by omega),e 1 (by omega),e 2 (by omega),e 3 (by omega),e 4 (by omega),e 5 (by omega),e 6 (by omega),e 7 (by omega),e 8 (by omega),e 9 (by omega),e 10 (by omega)];rfl
def Vg (X:World) (bl:Nat) (nm:ByteArray) (b:Array Value) (c:World->Value->World->Prop) (j:Nat) (x:Nat->Value) (a:World):Prop:=(1<=j->x 0= .string nm)/\(j<=1->Below X.heap.size X a)/\(j=2->∃Y,Below X.heap.size X Y/\a=Y.alloc (.cells b 131)/\x 1= .slice (some ⟨Y.heap.size,0,none⟩) 1 1)/\(j=3->∃Y,Below X.heap.size X Y/\c (Y.alloc (.cells b 131)) (x 2) a) /\
 (j=4->∃Y d,Below X.heap.size X Y/\c (Y.alloc (.cells b 131)) (x 2) d/\a=d.setCell ⟨bl,0,none⟩ (x 2))
theorem Nq(d N:Nat)(p:PPart)(fa oa ha:Option Addr)(fc oc hn hc:Nat)(a:Option Addr)(acap:Nat)(ps:List (Cg (d+1)))(w:World)(hFs:Cl w fa p.fs.length (De p))(hOs:F0 w oa p.os.length (D1 p))(hos:p.os.length=p.fs.length)(hf:Lw p ps)(pv:Nat->Value)(hpc:∀i,i<ps.length->∃b o A C,a=some ⟨b,o,none⟩/\pv i= .slice A (subs (BS ps i)).length C/\w.cell? ⟨b,o+i*3,none⟩=some (.string (Di (BS ps i)))/\w.cell? ⟨b,o+i*3+1,none⟩=some (.string (BT (BS ps i)))/\w.cell? ⟨b,o+i*3+2,none⟩=some (.slice A (subs (BS ps i)).length C))(hps:ps.length<=60) :
  Calls Tryz.prog 47 #[.agg #[.string p.name,.slice fa p.fs.length fc,.slice oa p.os.length oc,.slice ha hn hc],.slice a ps.length acap] w λe w' => ∃ca cc bh bv,e= .returned (.agg #[.slice ca ps.length cc,.map (some bh),.map (some bv)])/\B9 w' w.heap.size 131 11 (.slice ca ps.length cc) ps.length (CU p ps pv (λ_=>LV.zero)) /\
   Dt w' bh 0 (λ_=>0)/\DC N w' bv 0 (λ_ _ _ _=>none)/\w.heap.size<=bh/\w.heap.size<=bv/\bh≠bv/\Below w.heap.size w w':=by
 obtain⟨iC,ci,cz0,cz1,cz2⟩:=Cd Tryz.info131;have hmm:=@run_makeMap Tryz.prog;generalize hW:((((w.alloc (Obj.cells #[.string p.name,.slice fa p.fs.length fc,.slice oa p.os.length oc,.slice ha hn hc] 99)).alloc (Obj.cells #[.slice none 0 0,.map none,.map none] 63)).alloc (Obj.map #[] 0)).alloc (Obj.map #[] 0)).alloc (Obj.cells #[.slice none 0 0,.map (some (w.heap.size+1+1)),.map (some (w.heap.size+1+1+1))] 63)=W;have B:Below w.heap.size w W:=by rw[<-hW];exact(FI _ _ _ _).trans ((CN _ _ _).mono (by simp;omega))
 have hWs:W.heap.size=w.heap.size+1+1+1+1+1:=by rw[<-hW];simp
 have hbt:W.heap[w.heap.size]? = some (.cells #[.string p.name,.slice fa p.fs.length fc,.slice oa p.os.length oc,.slice ha hn hc] 99 (0,0)):=by
  rw[<-hW];exact((CN _ _ _).block _ (by simp;omega)).trans ((CN _ _ _).block _ (by simp) |>.trans (Ap _ _))
 have Q:W.heap[w.heap.size+1]? = some (.cells #[.slice none 0 0,.map none,.map none] 63 (0,0)):=by
  rw[<-hW];refine((FI _ _ _ _).block _ (by simp)).trans ?_;have h:=Ap (w.alloc (Obj.cells #[.string p.name,.slice fa p.fs.length fc,.slice oa p.os.length oc,.slice ha hn hc] 99)) (Obj.cells #[.slice none 0 0,.map none,.map none] 63);rw[show (w.alloc (Obj.cells #[.string p.name,.slice fa p.fs.length fc,.slice oa p.os.length oc,.slice ha hn hc] 99)).heap.size=w.heap.size+1 by simp]at h;exact h
 have hbl:W.heap[w.heap.size+1+1+1+1]? = some (.cells #[.slice none 0 0,.map (some (w.heap.size+1+1)),.map (some (w.heap.size+1+1+1))] 63 (0,0)):=by
  rw[<-hW];have h:=Ap ((((w.alloc (Obj.cells #[.string p.name,.slice fa p.fs.length fc,.slice oa p.os.length oc,.slice ha hn hc] 99)).alloc (Obj.cells #[.slice none 0 0,.map none,.map none] 63)).alloc (Obj.map #[] 0)).alloc (Obj.map #[] 0)) (Obj.cells #[.slice none 0 0,.map (some (w.heap.size+1+1)),.map (some (w.heap.size+1+1+1))] 63);rw[show ((((w.alloc (Obj.cells #[.string p.name,.slice fa p.fs.length fc,.slice oa p.os.length oc,.slice ha hn hc] 99)).alloc (Obj.cells #[.slice none 0 0,.map none,.map none] 63)).alloc (Obj.map #[] 0)).alloc (Obj.map #[] 0)).heap.size=w.heap.size+1+1+1+1 by simp]at h;exact h
 have hCM:Dt W (w.heap.size+1+1) 0 (λ_=>0):=by
  have h:=((Dt.made ((w.alloc (Obj.cells #[.string p.name,.slice fa p.fs.length fc,.slice oa p.os.length oc,.slice ha hn hc] 99)).alloc (Obj.cells #[.slice none 0 0,.map none,.map none] 63))).kept (CN _ (Obj.map #[] 0) (Obj.cells #[.slice none 0 0,.map (some (w.heap.size+1+1)),.map (some (w.heap.size+1+1+1))] 63)));rw[hW,show ((w.alloc (Obj.cells #[.string p.name,.slice fa p.fs.length fc,.slice oa p.os.length oc,.slice ha hn hc] 99)).alloc (Obj.cells #[.slice none 0 0,.map none,.map none] 63)).heap.size=w.heap.size+1+1 by simp]at h;exact h
 have hLM:DC N W (w.heap.size+1+1+1) 0 (λ_ _ _ _=>none):=by
  have h:=((DC.made N (((w.alloc (Obj.cells #[.string p.name,.slice fa p.fs.length fc,.slice oa p.os.length oc,.slice ha hn hc] 99)).alloc (Obj.cells #[.slice none 0 0,.map none,.map none] 63)).alloc (Obj.map #[] 0))).kept (BW _ (Obj.cells #[.slice none 0 0,.map (some (w.heap.size+1+1)),.map (some (w.heap.size+1+1+1))] 63)));rw[hW,show (((w.alloc (Obj.cells #[.string p.name,.slice fa p.fs.length fc,.slice oa p.os.length oc,.slice ha hn hc] 99)).alloc (Obj.cells #[.slice none 0 0,.map none,.map none] 63)).alloc (Obj.map #[] 0)).heap.size=w.heap.size+1+1+1 by simp]at h;exact h
 have V:=Aa hFs;have HOs:=Aa hOs;have HOS:=Aa hos;clear hos;have HPC:=Aa hpc;have aa:=Aa B;have HAF:=Aa hf;have hpl:(ps.length:Int)<=60:=by omega
 clear hFs hOs hpc B hf
 go_enter Tryz.func47,Tryz.ntmps47
 go_wp2_with fail
 clear hW;obtain⟨bl,ebl⟩:∃bl,bl=w.heap.size+1+1+1+1:=⟨_,rfl⟩;obtain⟨bv,ebv⟩:∃bv,bv=w.heap.size+1+1+1:=⟨_,rfl⟩;obtain⟨bh,ebh⟩:∃bh,bh=w.heap.size+1+1:=⟨_,rfl⟩;obtain⟨y,ebr⟩:∃y,y=w.heap.size+1:=⟨_,rfl⟩;obtain⟨bt,ebt⟩:∃bt,bt=w.heap.size:=⟨_,rfl⟩;have I:Hid (bt<bl/\y<bl/\bh<bl/\bv<bl/\bl<W.heap.size/\w.heap.size<=bh/\w.heap.size<=bv/\bh≠bv/\w.heap.size<=bl/\w.heap.size<=y):=by unfold Hid;omega
 rw[<-ebl,<-ebv,<-ebh]at hbl;rw[<-ebh]at hCM;rw[<-ebv]at hLM;rw[<-ebr]at Q;rw[<-ebt]at hbt;rw[<-ebl,<-ebr,<-ebt];have HBL:=Aa hbl;have HCM:=Aa hCM;have HLM:=Aa hLM;have ab:=Aa Q;have HBT:=Aa hbt;clear ebl ebv ebh ebr ebt hbl hCM hLM Q hbt hWs
 go_loopw [14] (λi wr => ∃k:Nat,k<=ps.length/\i= .int .i64 k/\CG (λq=>q=bl) W wr/\∃ca cc,wr.heap[bl]? = some (.cells #[.slice ca k cc,.map (some bh),.map (some bv)] 63 (0,0))/\B9 wr W.heap.size 131 11 (.slice ca k cc) k (CU p ps pv (λ_=>LV.zero))) (λi _=>ps.length - (intOf i).toNat)
 case atStart=>exact⟨0,Ai _,rfl,CG.refl _ _,none,0,HBL.out,rfl,.inl ⟨rfl,rfl⟩⟩
 case round =>
  obtain⟨k,hk,rfl,J,ca,cc,R,F⟩:=hrel
  by_cases hlt:k<ps.length
  ·have hlt':(k:Int)<(ps.length:Int):=by omega
   have hk0:(0:Int)<=(k:Int):=by omega
   obtain⟨pb,po,sa,sc,rfl,hpvk,c0,c1,c2⟩:=HPC.out k hlt;have c:∀q,q<w.heap.size->wr.heap[q]? = w.heap[q]?:=λq hq=>by
    rw[J.block q ⟨Ah hq aa.out.size,λe=>by have e:q=bl:=e;have:=I.out;omega⟩,aa.out.block q hq]
   have c0:=(Aw (c _ (An c0))).trans c0;have c1:=(Aw (c _ (An c1))).trans c1;have c2:=(Aw (c _ (An c2))).trans c2;have hfk : ¬BX p.fs.length (De p) (BT (BS ps k))<0:=HAF.out _ (by rw[CL hlt];exact AW hlt);obtain⟨i,hi⟩:∃i:Nat,BX p.fs.length (De p) (BT (BS ps k))=(i:Int):=⟨(BX p.fs.length (De p) (BT (BS ps k))).toNat,by omega⟩;have hil:i<p.fs.length:=by
    have h1:=(E4 (p:=λj=>eqs (De p j).name (BT (BS ps k))) hfk).1;have h2:Ds p.fs.length (λj=>eqs (De p j).name (BT (BS ps k)))=(i:Int):=hi;rw[h2]at h1;simpa using h1
   have ef:EQ p (BT (BS ps k))=De p i:=by unfold EQ;rw[hi,Ax]
   have eo:Dd p (BT (BS ps k))=D1 p i:=by unfold Dd;rw[hi,Ax]
   obtain⟨fb,fo,rfl,f0,f1,f2,-⟩:=V.out.2 i hil;have hio:i<p.os.length:=by rw[HOS.out];exact hil
   obtain⟨ob,oo,rfl,g0,g1,g2,-⟩:=HOs.out.2 i hio;obtain⟨t1,t2⟩:W.cell? ⟨bt,1,none⟩=some (.slice (some ⟨fb,fo,none⟩) p.fs.length fc)/\W.cell? ⟨bt,2,none⟩=some (.slice (some ⟨ob,oo,none⟩) p.os.length oc):=by simp[World.cell?,HBT.out]
   have hnb:bt≠bl:=by have:=I.out;omega
   have t1:=J.cell t1 hnb;have t2:=J.cell t2 hnb;have f0:=(Aw (c _ (An f0))).trans f0;have f1:=(Aw (c _ (An f1))).trans f1;have f2:=(Aw (c _ (An f2))).trans f2;have g0:=(Aw (c _ (An g0))).trans g0;have g1:=(Aw (c _ (An g1))).trans g1;have g2:=(Aw (c _ (An g2))).trans g2;have l0:wr.cell? ⟨bl,0,none⟩=some (.slice ca k cc):=by simp[World.cell?,R]
   obtain⟨X,hX⟩:∃X,X=wr.alloc (Obj.cells #[.string (Di (BS ps k)),.string (BT (BS ps k)),.slice sa (subs (BS ps k)).length sc] 72):=⟨_,rfl⟩;have O:Below wr.heap.size wr X:=by rw[hX];exact BW _ _
   have p0:X.cell? ⟨wr.heap.size,0,none⟩=some (.string (Di (BS ps k))):=by rw[hX,Ac _ _ _ _ rfl];rfl
   have p1:X.cell? ⟨wr.heap.size,1,none⟩=some (.string (BT (BS ps k))):=by rw[hX,Ac _ _ _ _ rfl];rfl
   have p2:X.cell? ⟨wr.heap.size,2,none⟩=some (.slice sa (subs (BS ps k)).length sc):=by rw[hX,Ac _ _ _ _ rfl];rfl
   have hFX:Cl X (some ⟨fb,fo,none⟩) p.fs.length (De p):=⟨V.out.1,λj hj=>by
    obtain⟨b9,o9,e9,d0,d1,d2,d3⟩:=V.out.2 j hj;exact⟨b9,o9,e9,BR O ((Aw (c _ (An d0))).trans d0),BR O ((Aw (c _ (An d1))).trans d1),BR O ((Aw (c _ (An d2))).trans d2),d3⟩⟩
   have ac:=E9 (some ⟨fb,fo,none⟩) p.fs.length fc (De p) (BT (BS ps k)) X hFX;rw[hi]at ac;have hi1:(i:Int)<(p.fs.length:Int):=by omega
   have hi2:(i:Int)<(p.os.length:Int):=by omega
   have hi0:(0:Int)<=(i:Int):=by omega
   have htl:bt<wr.heap.size:=An t1;have HKS:Hid (B8 (BS ps k)=FM (Di (BS ps k)) (BT (BS ps k))):=Aa rfl;have HCC:=Aa (Oa p ps pv (λ_=>LV.zero) k);rw[ef,eo,hpvk]at HCC;rw[hX]at ac;have hsw:W.heap.size<=wr.heap.size:=J.size;have HR:=Aa F;have ad:=Aa R;have HW:=Aa J;have HHO:=Aa c;clear hFX hfk F R J c hi ef eo;generalize B8 (BS ps k)=nm at *
   go_wp2_with fail
   refine ac.mono ?_;clear ac;rw[<-hX];rintro e w1 ⟨rfl,S⟩;have m:Below wr.heap.size wr w1:=O.trans (S.mono O.size);obtain⟨cs,ae⟩:∃cs:Array Value,cs = #[.string nm,.slice sa (subs (BS ps k)).length sc,.string (De p i).name,.int .i64 (De p i).kind,.string (De p i).type,.int .i64 (D1 p i).svc,.string (D1 p i).type,.string (D1 p i).field,.slice none 0 0,.map none,.map none]:=⟨_,rfl⟩;have l0:=BR m l0;have q0:=BR S p0;have q1:=BR S p1;have q2:=BR S p2;have t1:=BR m t1;have t2:=BR m t2;have f0:=BR m f0;have f1:=BR m f1;have f2:=BR m f2;have g0:=BR m g0;have g1:=BR m g1;have g2:=BR m g2;have T:=HR.out.kept m;have G:∀q,(Value.slice ca k cc).ownBlock=some q->W.heap.size<=q/\q<wr.heap.size:=λq hq=>HR.out.lt hq;have hbpl:wr.heap.size<w1.heap.size:=by
    have:=An q0;exact this
   have H:bl<w1.heap.size:=An l0;have hSt:∀n:World,(∀q,q<w1.heap.size->(Value.slice ca k cc).ownBlock≠some q->n.heap[q]? = w1.heap[q]?)->n.cell? ⟨bl,0,none⟩=some (.slice ca k cc)/\n.cell? ⟨wr.heap.size,0,none⟩=some (.string (Di (BS ps k)))/\n.cell? ⟨wr.heap.size,1,none⟩=some (.string (BT (BS ps k)))/\n.cell? ⟨wr.heap.size,2,none⟩=some (.slice sa (subs (BS ps k)).length sc)/\n.cell? ⟨bt,1,none⟩=some (.slice (some ⟨fb,fo,none⟩) p.fs.length fc)/\n.cell? ⟨bt,2,none⟩=some (.slice (some ⟨ob,oo,none⟩) p.os.length oc) /\
     n.cell? ⟨fb,fo+i*3,none⟩=some (.string (De p i).name)/\n.cell? ⟨fb,fo+i*3+1,none⟩=some (.int .i64 (De p i).kind)/\n.cell? ⟨fb,fo+i*3+2,none⟩=some (.string (De p i).type)/\n.cell? ⟨ob,oo+i*3,none⟩=some (.int .i64 (D1 p i).svc)/\n.cell? ⟨ob,oo+i*3+1,none⟩=some (.string (D1 p i).type)/\n.cell? ⟨ob,oo+i*3+2,none⟩=some (.string (D1 p i).field):=λn h9=>by
    have hfb:fb<w.heap.size:=by
     obtain⟨b9,o9,e9,d0,-⟩:=V.out.2 i hil;cases e9;exact An d0
    have hob:ob<w.heap.size:=by
     obtain⟨b9,o9,e9,d0,-⟩:=HOs.out.2 i hio;cases e9;exact An d0
    have hwW:=aa.out.size;have hne:=I.out;have k1:=h9 bl H (λe=>by have:=G bl e;omega);have k2:=h9 wr.heap.size hbpl (λe=>by have:=G _ e;omega);have k3:=h9 bt (by omega) (λe=>by have:=G bt e;omega);have k4:=h9 fb (by omega) (λe=>by have:=G fb e;omega);have k5:=h9 ob (by omega) (λe=>by have:=G ob e;omega);exact⟨(Aw k1).trans l0,(Aw k2).trans q0,(Aw k2).trans q1,(Aw k2).trans q2,(Aw k3).trans t1,(Aw k3).trans t2,(Aw k4).trans f0,(Aw k4).trans f1,(Aw k4).trans f2,(Aw k5).trans g0,(Aw k5).trans g1,(Aw k5).trans g2⟩
   go_upto_region 6 with fail
   refine TP (Vg w1 bl nm cs (λZ x w2=>w2.ownsRow W.heap.size 131 11 x (k+1) ((List.range (k*11)).map (CU p ps pv (λ_=>LV.zero))++cs.toList)/\Z.grownBy w2 (Value.slice ca k cc).ownBlock)) (bl:=bl) (bp:=wr.heap.size) (bt:=bt) (fb:=fb) (fo:=fo) (fn:=p.fs.length) (fc:=fc) (ob:=ob) (oo:=oo) (on:=p.os.length) (oc:=oc) (cn:=k) (cc:=cc) (sn:=(subs (BS ps k)).length) (sc:=sc) (i:=i) (ca:=ca) (sa:=sa) (nk:=Di (BS ps k)) (pf:=BT (BS ps k)) (nm:=nm) (fl:=De p i) (o:=D1 p i) (by kernel_rfl) rfl rfl rfl rfl hi0 hi1 hi2 ?_ ?_ ?_ ?_ ?_ ?_ ?_ ?_
   ·rintro j x n hj ⟨h1,-⟩
    exact h1 hj
   ·intro x
    exact⟨λh=>absurd h (by omega),λ_=>(Aq _ _).drew,λh=>absurd h (by omega),λh=>absurd h (by omega),λh=>absurd h (by omega)⟩
   ·rintro j x n hj ⟨-,h1,h2,h3,-⟩
    refine hSt n λq hq hqn=>?_;rcases Nat.lt_or_ge 1 j with hj1|hj1
    ·rcases Nat.lt_or_ge 2 j with hj2|hj2
     ·obtain⟨Y,z,-,E⟩:=h3 (by omega)
      rw[E.block q (by have:=z.size;simp;omega) (BG hqn),(BW Y _).block q (Ah hq z.size),z.block q hq]
     ·obtain⟨Y,z,rfl,-⟩:=h2 (by omega)
      rw[(BW Y _).block q (Ah hq z.size),z.block q hq]
    ·exact(h1 hj1).block q hq
   ·rintro x n ⟨-,h1,-⟩
    refine(G8 (Di (BS ps k)) (BT (BS ps k)) sa (subs (BS ps k)).length sc n).mono ?_;rintro e w8 ⟨rfl,hw8⟩;have h1:=h1 (by omega);exact⟨_,rfl,λx' e1 e2=>⟨λ_=>by rw[e1,<-HKS.out],λ_=>h1.trans (hw8.mono h1.size),λh=>absurd h (by omega),λh=>absurd h (by omega),λh=>absurd h (by omega)⟩⟩
   ·rintro x n ⟨h0,h1,-⟩ x' e1 e2
    rw[<-ae];exact⟨λ_=>(e2 0 (by decide)).trans (h0 (by omega)),λh=>absurd h (by omega),λ_=>⟨n,h1 (by omega),rfl,e1⟩,λh=>absurd h (by omega),λh=>absurd h (by omega)⟩
   ·rintro x n ⟨h0,-,h2,-⟩ ty
    obtain⟨Y,z,rfl,hx⟩:=h2 rfl;obtain⟨v',w8,hr,l,E,hvb⟩:=DG (P:=Tryz.prog) (Y.alloc (.cells cs 131)) W.heap.size 59 ty 131 iC _ 11 160 Tryz.underlying59 ci cz0 cz1 cz2 rfl (by decide) (.slice ca k cc) k _ ((T.kept z).kept (BW Y _)) (some ⟨Y.heap.size,0,none⟩) 1 1 cs.toList (by rw[ae];rfl) (CI Y cs _) (λh=>by cases h) (by rw[ae];intro u hu;simp at hu;rcases hu with rfl|rfl|rfl|rfl|rfl|rfl|rfl|rfl|rfl|rfl|rfl<;>rfl) (by unfold maxLen;omega) (by omega) (by have:=z.size;have:=m.size;simp;omega)
    rw[hx];exact⟨v',w8,hr,λx' e1 e2=>⟨λ_=>(e2 0 (by decide)).trans (h0 (by omega)),λh=>absurd h (by omega),λh=>absurd h (by omega),λ_=>⟨Y,z,by rw[e1];exact⟨l,E⟩⟩,λh=>absurd h (by omega)⟩⟩
   ·rintro x n ⟨h0,-,-,h3,-⟩
    obtain⟨Y,z,l,E⟩:=h3 rfl;obtain⟨va,vc,e⟩:=E7 l;have U:n.heap[bl]? = some (.cells #[.slice ca k cc,.map (some bh),.map (some bv)] 63 (0,0)):=by
     rw[E.block bl (by have:=z.size;simp;omega) (λe=>by have:=G bl e.symm;have:=I.out;omega),(BW Y _).block bl (Ah H z.size),z.block bl H,m.block bl (Ag ad.out)];exact ad.out
    exact⟨va,_,vc,.slice ca k cc,e,by simp[World.cell?,U],by simp[World.frozen?,U],λ_=>h0 (by omega),λh=>absurd h (by omega),λh=>absurd h (by omega),λh=>absurd h (by omega),λ_=>⟨Y,n,z,⟨l,E⟩,rfl⟩⟩
   intro s n hp;obtain⟨-,-,-,-,hp⟩:=hp;obtain⟨Y,w8,z,⟨l,E⟩,K⟩:=hp rfl;replace l:w8.ownsRow W.heap.size 131 11 (s 43) (k+1) ((List.range (k*11)).map (CU p ps pv (λ_=>LV.zero))++cs.toList):=l;replace K:n=w8.setCell ⟨bl,0,none⟩ (s 43):=K;obtain⟨va,vc,hv43⟩:=E7 l;have U:w8.heap[bl]? = some (.cells #[.slice ca k cc,.map (some bh),.map (some bv)] 63 (0,0)):=by
    rw[E.block bl (by have:=z.size;simp;omega) (λe=>by have:=G bl e.symm;have:=I.out;omega),(BW Y _).block bl (Ah H z.size),z.block bl H,m.block bl (Ag ad.out)];exact ad.out
   have L:Hid (CG (λq=>q=bl) W n/\∃ca cc,n.heap[bl]? = some (.cells #[.slice ca (k+1) cc,.map (some bh),.map (some bv)] 63 (0,0))/\B9 n W.heap.size 131 11 (.slice ca (k+1) cc) (k+1) (CU p ps pv (λ_=>LV.zero))):=by
    rw[hv43]at l K;have hr8:B9 w8 W.heap.size 131 11 (.slice va (k+1) vc) (k+1) (CU p ps pv (λ_=>LV.zero)):=by
     unfold B9;rw[HCC.out];rw[ae]at l;exact l
    refine⟨?_,va,vc,?_,?_⟩
    ·have h1:CG (λq=>q=bl) W w8:=((HW.out.kept m).kept (z.trans ((BW Y _).mono z.size))).grown E (λq hq=>(G q hq).1)
     rw[K];exact⟨h1.os,h1.tape,h1.output,by simpa using h1.size,λq hq=>(Al _ _ _ _ hq.2).trans (h1.block q hq)⟩
    ·rw[K]
     exact Ao _ bl 0 _ 63 _ U
    ·rw[K]
     exact hr8.set_other (p:=⟨bl,0,none⟩) (λe=>by
      have:=(hr8.lt e).1;have:=I.out;simp at *;omega) _
   clear l E z U hv43 K hSt G T m l0 q0 q1 q2 t1 t2 f0 f1 f2 g0 g1 g2 S p0 p1 p2 c0 c1 c2 hX O;simp only[Cn,Act.put,Au,AD,AE];generalize s 24=t24;generalize s 25=t25;generalize s 26=t26;generalize s 27=t27;generalize s 28=t28;generalize s 29=t29;generalize s 30=t30;generalize s 31=t31;generalize s 32=t32;generalize s 33=t33;generalize s 34=t34;generalize s 35=t35;generalize s 36=t36;generalize s 37=t37;generalize s 38=t38;generalize s 39=t39;generalize s 40=t40;generalize s 41=t41;generalize s 42=t42;generalize s 43=t43;generalize s 44=t44
   go_wp2_with fail
   go_roundw
   case rel=>exact⟨k+1,by omega,by go_num,L.out.1,L.out.2⟩
   case measure=>simp[intOf];omega
  ·have hkn:k=ps.length:=by omega
   subst hkn;obtain⟨d0,d1,d2⟩:wr.cell? ⟨bl,0,none⟩=some (.slice ca ps.length cc)/\wr.cell? ⟨bl,1,none⟩=some (.map (some bh))/\wr.cell? ⟨bl,2,none⟩=some (.map (some bv)):=by simp[World.cell?,R]
   have hne:=I.out;have hrs:=(J.block y ⟨Ag ab.out,λe=>by have e:y=bl:=e;omega⟩).trans ab.out;obtain⟨x0,x1,x2⟩:wr.cell? ⟨y,0,none⟩=some (.slice none 0 0)/\wr.cell? ⟨y,1,none⟩=some (.map none)/\wr.cell? ⟨y,2,none⟩=some (.map none):=by simp[World.cell?,hrs]
   obtain⟨y0,y1,y2⟩:wr.frozen? ⟨y,0,none⟩=false/\wr.frozen? ⟨y,1,none⟩=false/\wr.frozen? ⟨y,2,none⟩=false:=by simp[World.frozen?,hrs]
   have L:Hid (∀u0 u1 u2:Value,B9 (((wr.setCell ⟨y,0,none⟩ u0).setCell ⟨y,1,none⟩ u1).setCell ⟨y,2,none⟩ u2) w.heap.size 131 11 (.slice ca ps.length cc) ps.length (CU p ps pv (λ_=>LV.zero))/\Dt (((wr.setCell ⟨y,0,none⟩ u0).setCell ⟨y,1,none⟩ u1).setCell ⟨y,2,none⟩ u2) bh 0 (λ_=>0)/\DC N (((wr.setCell ⟨y,0,none⟩ u0).setCell ⟨y,1,none⟩ u1).setCell ⟨y,2,none⟩ u2) bv 0 (λ_ _ _ _=>none)/\Below w.heap.size w (((wr.setCell ⟨y,0,none⟩ u0).setCell ⟨y,1,none⟩ u1).setCell ⟨y,2,none⟩ u2)):=Aa λu0 u1 u2=>by
    have M:∀q,q≠y->(((wr.setCell ⟨y,0,none⟩ u0).setCell ⟨y,1,none⟩ u1).setCell ⟨y,2,none⟩ u2).heap[q]? = wr.heap[q]?:=λq hq=>by
     rw[Al _ _ _ _ (by exact hq),Al _ _ _ _ (by exact hq),Al _ _ _ _ (by exact hq)]
    have B:=aa.out;refine⟨?_,?_,?_,?_⟩
    ·have h1:B9 wr w.heap.size 131 11 (.slice ca ps.length cc) ps.length (CU p ps pv (λ_=>LV.zero)):=⟨F.1,F.2.imp id λ⟨g,cap,cur,e,hg,r⟩=>⟨g,cap,cur,e,Am B.size hg,r⟩⟩
     exact h1.at λq hq=>M q λe=>by
      have:=(F.lt hq).1;omega
    ·exact HCM.out.at ((M bh (by
      intro e;have h9:=ab.out;obtain⟨es,c9,hm⟩:=HCM.out.obj;rw[e,h9]at hm;cases hm)).trans (J.block bh ⟨HCM.out.lt,λe=>by have e:bh=bl:=e;omega⟩))
    ·obtain⟨es,c9,hm⟩:=HLM.out.obj
     refine⟨λ_ _ _ _=>none,?_,λ_ _ _ _ _ _ _ _=>rfl⟩;obtain⟨g9,hg9,hg8⟩:=HLM.out;have hz:F7 W bv 0 (λ_ _ _ _=>none):=by
      obtain⟨D,e1,e2⟩:=hg9;refine⟨D,e1,λs9 ty9 f9 k9 a1 a2 a3 a4=>?_⟩;have h8:g9 s9 ty9 f9 k9=none:=hg8 s9 ty9 f9 k9 a1 a2 a3 a4;have:=e2 s9 ty9 f9 k9 a1 a2 a3 a4;rw[h8]at this;exact this
     exact hz.at ((M bv (by
      intro e;have h9:=ab.out;rw[e,h9]at hm;cases hm)).trans (J.block bv ⟨Ag hm,λe=>by have e:bv=bl:=e;omega⟩))
    ·refine⟨J.os.trans B.os,J.tape.trans B.tape,J.output.trans B.output,?_,λq hq=>?_⟩
     ·have:=J.size
      have:=B.size;simp;omega
     ·rw[M q (by omega),J.block q ⟨by have:=B.size;omega,λe=>by have e:q=bl:=e;omega⟩,B.block q hq]
   have hnrl:y≠bl:=by omega
   clear F R hrs J
   go_wp2_with fail
   obtain⟨e1,e2,e3,e4⟩:=L.out (.slice ca ps.length cc) (.map (some bh)) (.map (some bv));exact At (v:=.agg #[.slice ca ps.length cc,.map (some bh),.map (some bv)]) (by simp[results,Tryz.results47,go_sem,x0,x1,x2]) rfl ⟨ca,cc,bh,bv,rfl,e1,e2,e3,hne.2.2.2.2.2.1,hne.2.2.2.2.2.2.1,hne.2.2.2.2.2.2.2.1,e4⟩
structure KQ (N0:Nat) (X:Nat->Prop) (w w':World):Prop where
 os:w'.os=w.os
 tape:w'.tape=w.tape
 output:w'.output=w.output
 size:w.heap.size<=w'.heap.size
 block:∀k,k<w.heap.size->¬X k->(k<N0\/¬JC w k)->w'.heap[k]? = w.heap[k]?
theorem KQ.of{N0:Nat}{X:Nat->Prop}{w w':World}(h:Below w.heap.size w w'):KQ N0 X w w':=⟨h.os,h.tape,h.output,h.size,λk hk _ _=>h.block k hk⟩
theorem KQ.refl(N0:Nat)(X:Nat->Prop)(w:World):KQ N0 X w w:=KQ.of (Aq _ _)
theorem KQ.ofQ{N0 bg:Nat}{X:Nat->Prop}{w w':World}(h:KeepQ N0 bg w w')(a:X bg):KQ N0 X w w':=⟨h.os,h.tape,h.output,h.size,λk hk hx hq=>h.block k hk (λe=>hx (by rw[e];exact a)) hq⟩
theorem KQ.trans{N0:Nat}{X:Nat->Prop}{w c d:World}(h:KQ N0 X w c)(a:KQ N0 X c d):KQ N0 X w d :=
 ⟨a.os.trans h.os,a.tape.trans h.tape,a.output.trans h.output,Am h.size a.size,λk hk b hq=>by
  have e:=h.block k hk b hq;rw[a.block k (Ah hk h.size) b (hq.imp id λhn=>by unfold JC at hn ⊢;rw[e];exact hn),e]⟩
theorem KQ.maps{N0 a b2:Nat}{X:Nat->Prop}{w w':World}(h:Er a b2 w w')(h1:X a)(h2:X b2):KQ N0 X w w':=⟨h.os,h.tape,h.output,h.size,λk hk hx _=>Keep.block h k ⟨hk,λe=>by
  rcases e with e|e
  ·rw[e]at hx;exact hx h1
  ·rw[e]at hx;exact hx h2⟩⟩
theorem KQ.cells{N0:Nat}{X:Nat->Prop}{w w':World}(h:KQ N0 X w w'){k t:Nat}{a:Array Value}{b:Nat × Nat}(ho:w.heap[k]? = some (.cells a t b))(c:t≠68)(hk : ¬X k):w'.heap[k]? = w.heap[k]? :=
 h.block k (Ag ho) hk (.inr λ⟨cs',fz',e⟩=>by rw[ho]at e;cases e;exact c rfl)
theorem KQ.map{N0:Nat}{X:Nat->Prop}{w w':World}(h:KQ N0 X w w'){k:Nat}{a:Array MapEntry}{c:Nat}(ho:w.heap[k]? = some (.map a c))(hk : ¬X k):w'.heap[k]? = w.heap[k]? :=
 h.block k (Ag ho) hk (.inr λ⟨cs',fz',e⟩=>by rw[ho]at e;cases e)
theorem KQ.row{N0:Nat}{X:Nat->Prop}{w w':World}(h:KQ N0 X w w'){base e size n:Nat}{v:Value}{f : Nat->Value}(a:B9 w base e size v n f)(he:e≠68)(hx:∀k,v.ownBlock=some k->¬X k):B9 w' base e size v n f :=
 a.at λk hk=>let ⟨_,ho⟩:=a.obj hk;h.cells ho he (hx k hk)
theorem KQ.below{N0:Nat}{X:Nat->Prop}{w w':World}(h:KQ N0 X w w')(a:∀k,X k->N0<=k)(b:N0<=w.heap.size):Below N0 w w':=⟨h.os,h.tape,h.output,h.size,λk hk=>h.block k (by omega) (λhx=>by have:=a k hx;omega) (.inl hk)⟩
theorem KQ.lmap{N0 N b n:Nat}{X:Nat->Prop}{w w':World}{v:Int->ByteArray->ByteArray->ByteArray->Option LVal}(h:KQ N0 X w w')(c:DC N w b n v)(hb : ¬X b)(d:∀k a,X k->w.heap[k]? = some (.cells a 9 (0,0))->False):DC N w' b n v :=
 c.at (let ⟨_,_,ho⟩:=c.obj;h.map ho hb) λk a _ _ ho=>h.cells ho (by decide) λhx=>d k a hx ho
theorem KQ.cmap{N0 b n:Nat}{X:Nat->Prop}{w w':World}{c:ByteArray->Nat}(h:KQ N0 X w w')(a:Dt w b n c)(hb : ¬X b):Dt w' b n c:=a.at (let ⟨_,_,ho⟩:=a.obj;h.map ho hb)
theorem GateAt.maps{N0 bg a b2:Nat}{sv pv:Value}{w w':World}{R:List PReq}(h:GateAt N0 bg sv pv w R)(b:Er a b2 w w')(h1:H9 w a)(h2:H9 w b2):GateAt N0 bg sv pv w' R :=
 h.at λ_ _ _ _ ho _=>b.block h1 h2 ho
theorem KE{x:LThing}{f : ByteArray}{j:Nat}(h:∀i,i<x.nv->(eqs (x.V i).field f=true↔i=j)):∀k,k<=x.nv->Ea x f k=if j<k then [x.V j] else []
 | 0,_=>by simp[Ea]
 | k+1,hk=>by
  have ih:=KE h k (by omega)
  by_cases e:k=j
  ·subst e
   rw[KC ((h k (by omega)).2 rfl),ih,Ae (by omega),Af (by omega)];rfl
  ·have a:eqs (x.V k).field f=false:=by
    cases b:eqs (x.V k).field f
    ·rfl
    ·exact absurd ((h k (by omega)).1 b) e
   rw[Jw a,ih]
   by_cases e2:j<k
   ·rw[Af e2,Af (by omega)]
   ·rw[Ae e2,Ae (by omega)]
theorem TN{n d:Nat}{V:Nat->LServ}{p:PPart}(e:GPart n V p){ps:List (Cg (d+1))}(hf:Lw p ps){h:POwner}{key:ByteArray}(hk:Dk (V h.svc.toNat) h.type key=true) :
  Dw (Dx (Hs (V h.svc.toNat)) h.type key) (B1 p h ps).length (CH (B1 p h ps))=IX V p ps h key:=by
 have b:Dx (Hs (V h.svc.toNat)) h.type key=CC (V h.svc.toNat) h.type key:=by
  unfold Dx CC;have:0<=Ds (V h.svc.toNat).nx (Cf (V h.svc.toNat).X h.type key):=of_decide_eq_true hk;show (if Ds (V h.svc.toNat).nx (Cf (V h.svc.toNat).X h.type key)<0 then _ else _)=_
  rw[Ae (by omega)];rfl
 rw[b];unfold IX;have a:∀f,f∈B1 p h ps->GH (CC (V h.svc.toNat) h.type key) f = [F8 (CC (V h.svc.toNat) h.type key) f]:=λf c=>by
  obtain⟨m,h1,h2,-,h4,-⟩:=Md e hf c hk;rw[h2,<-O9,KE h4 _ (Aj _),Af h1]
 generalize B1 p h ps=l at *;generalize CC (V h.svc.toNat) h.type key=x at *;clear b hk;have key:∀m,m<=l.length->Dw x m (CH l)=(l.take m).map (F8 x):=by
  intro m
  induction m with
  |zero=>intro _;rfl
  |succ m ih =>
   intro c;rw[F3,ih (by omega),I2 (by omega),AH,a _ (IN (by omega))];rfl
 rw[key l.length (Aj _),Br]
def UY (b:World) (fs:List ByteArray) (d:Value->Value->World->Prop) (e:World->Prop) (g:World->Prop) (j:Nat) (x:Nat->Value) (a:World):Prop:=(j<3->g a)/\(j=0->Below b.heap.size b a)/\(j=1->Below b.heap.size b a/\Df a b.heap.size (x 0) fs)/\(j=2->∃f1 c,x 1= .agg #[f1,c]/\d f1 c a)/\(j=3->e a)
theorem QK{Q:Exit->Act->World->Prop}{F:Act}{m:World}{N0 N bg n cap d bl bo bh bv n1 n2 cc kcap base:Nat}{la pa ca ka:Option Addr}{pn pc:Nat}{V:Nat->LServ}{p:PPart}{ps:List (Cg (d+1))}{h:POwner}{keys:List ByteArray}{R:List PReq}{pv:Nat->Value}{nx:Nat->LV}{c:ByteArray->Nat}{v:Int->ByteArray->ByteArray->ByteArray->Option LVal}(hsz : [38,39,40,41,42,43,44,45,46,47,48].all (λd=>decide (d<F.tmps.size))=true)(s0:B4 F 0= .pointer (some ⟨bg,0,none⟩))(s10:B4 F 10= .pointer (some ⟨bl,0,none⟩))(s12:B4 F 12= .pointer (some ⟨bo,0,none⟩))(s2:B4 F 2= .slice ka keys.length kcap)(hNg:N0<=bg)(hNX:N<=m.heap.size)(w:GateAt N0 bg (.slice la n cap) (.slice pa pn pc) m R)(hS:∀g,Below N0 m g->Dc g la n V)(hL:∀i,i<n->Jd (Hs (V i)))(A:GPart n V p)(K:Lw p ps)(L:ps.length<=60)(hh:h∈p.hs)(hR:B9 m base 131 11 (.slice ca ps.length cc) ps.length (CU p ps pv nx))(hpv:∀i,i<ps.length->∃a n c,pv i= .slice a n c)(M:∀i,i<ps.length->BY (Dd p (BT (BS ps i))).field)(hC:Dt m bh n1 c)(hM:DC N m bv n2 v)(hne:bh≠bv)(O:bg≠bh/\bg≠bv)(hK:Df m 0 (.slice ka keys.length kcap) keys)(hKs:∀x,x∈keys->BY x)(hKd:keys.Nodup)(hK0:keys≠[])(hKl:keys.length<=1200)(B:m.heap[bl]? = some (.cells #[.slice ca ps.length cc,.map (some bh),.map (some bv)] 63 (0,0)))(G:m.heap[bo]? = some (.cells #[.int .i64 h.svc,.string h.type,.string h.field] 92 (0,0)))(hc:∀s,c s<=10)(h1:n1<=10000)(h2:n2<=1000000)(hRl:R.length<=1000000)(hQ:∀s w',Dt w' bh (n1+keys.length) (DV (Dk (V h.svc.toNat) h.type) c keys)->DC N w' bv (n2+keys.length*60) (El (Dk (V h.svc.toNat) h.type) (IX V p ps h) h.svc h.type v keys)->GateAt N0 bg (.slice la n cap) (.slice pa pn pc) w' (R++[CW p keys ps h])->KQ N0 (λk=>k=bg\/k=bh\/k=bv) m w'->Q .normal (Cn F s [38,39,40,41,42,43,44,45,46,47,48]) w') :
  (Code.region 6 Kb.toArray true).wp Tryz.prog Q F m:=by
 have hbl0:=Ag B;have hbg0:bg<m.heap.size:=by
  obtain⟨rv,kv,fv,hb,-⟩:=w;exact Ag hb
 have P:bl≠bg:=λe=>by
  obtain⟨rv,kv,fv,hb,-⟩:=w;rw[<-e,B]at hb;cases hb
 have S:bo≠bg:=λe=>by
  obtain⟨rv,kv,fv,hb,-⟩:=w;rw[<-e,G]at hb;cases hb
 have C:ReqR n V ⟨h.svc,h.type,keys,B1 p h ps⟩:=A.req hKd hK0 K h hh;obtain⟨J,t,H,hcn,ht,hfi,-,-⟩:=C.ex;have H:h.svc=(J:Int):=H;have hwf:(Lit.int .i64 h.svc).wf=true:=by rw[H];exact Ox (by have:=A.n5;omega)
 have D:∀{g:World},Df g 0 (.slice ka keys.length kcap) keys->DX g ka keys:=λU=>by
  obtain⟨a9,c9,e9,-,ht⟩:=U.at (by unfold maxLen;omega) hKs;cases e9;exact ht
 have hty:BY h.type:=by
  obtain⟨b9,o9,-,hs9⟩:=(hS m (Aq _ _)).2 J hcn;obtain⟨b8,o8,-,W⟩:=hs9.ok.types.2 t ht;have e1:Ds (V J).nt (λi=>eqs ((V J).T i).name h.type)=(t:Int):=hfi;have e2:=(E4 (p:=λi=>eqs ((V J).T i).name h.type) (n:=(V J).nt) (by rw[e1];omega)).2;rw[e1,Ax,Ch]at e2;rw[<-e2];exact W.2.2.2.1
 have X:(B1 p h ps).length<=60:=Am (Hv _ _ _) L;have Y:∀x,x∈B1 p h ps->BY x:=λx hx=>by
  obtain⟨q,hq,-,-,rfl⟩:=K5 hx;obtain⟨j,hj,rfl⟩:=Bl hq;have:=M j hj;rw[CL hj]at this;exact this
 have E:∀g,KeepQ N0 bg m g->g.heap[bl]? = m.heap[bl]?/\g.heap[bo]? = m.heap[bo]?:=λg hk=>⟨hk.cells B (by decide) P,hk.cells G (by decide) S⟩;refine TL (UY m (B1 p h ps) (λf1 v1 g=>RepliesO g m.heap.size 0 f1 v1 keys.length (λj=>Dk (V h.svc.toNat) h.type (CH keys j)) (λj=>Dw (Dx (Hs (V h.svc.toNat)) h.type (CH keys j)) (B1 p h ps).length (CH (B1 p h ps)))/\GateAt N0 bg (.slice la n cap) (.slice pa pn pc) g (R++[CW p keys ps h])/\KeepQ N0 bg m g)
  (λw'=>Dt w' bh (n1+keys.length) (DV (Dk (V h.svc.toNat) h.type) c keys)/\DC N w' bv (n2+keys.length*60) (El (Dk (V h.svc.toNat) h.type) (IX V p ps h) h.svc h.type v keys)/\GateAt N0 bg (.slice la n cap) (.slice pa pn pc) w' (R++[CW p keys ps h])/\KQ N0 (λk=>k=bg\/k=bh\/k=bv) m w') (λg=>g.heap[bl]? = m.heap[bl]?/\g.heap[bo]? = m.heap[bo]?))
  (bg:=bg) (bl:=bl) (bo:=bo) (cn:=ps.length) (cc:=cc) (bh:=bh) (bv:=bv) (kn:=keys.length) (kc:=kcap) (ca:=ca) (ka:=ka) (h:=h) hsz s0 s10 s12 s2 ?_ ?_ ?_ ?_ ?_ ?_
 ·intro x
  exact⟨λ_=>⟨rfl,rfl⟩,λ_=>(Aq _ _).drew,λh=>absurd h (by omega),λh=>absurd h (by omega),λh=>absurd h (by omega)⟩
 ·rintro j x g hj ⟨z,-⟩
  obtain⟨e1,e2⟩:=z hj;have e1:=e1.trans B;have e2:=e2.trans G;simp[World.cell?,e1,e2]
 ·rintro x g ⟨-,z,-⟩
  have hB:=z rfl;refine(MX d base p ps ca cc (some bh) (some bv) pv nx h g (hR.kept hB) hpv M L).mono ?_;rintro e Z ⟨⟨u,rfl,U⟩,aa⟩;refine⟨u,rfl,λx' e1 e2=>⟨λ_=>E Z (KeepQ.of (hB.trans (aa.mono hB.size))),λh=>absurd h (by omega),λ_=>⟨hB.trans (aa.mono hB.size),?_⟩,λh=>absurd h (by omega),λh=>absurd h (by omega)⟩⟩;rw[e1];exact U.base hB.size
 ·rintro x g ⟨-,-,z,-⟩
  obtain⟨hB,U⟩:=z rfl;have hNw:N0<=g.heap.size:=by have:=hB.size;omega
  refine(R9 N0 bg n cap la pa pn pc V h keys (B1 p h ps) ka kcap (x 0) R g (w.kept hB) hNg hNw (λw9 z=>hS w9 ((hB.mono (by omega)).trans z)) hL A.n5 C (D (hK.kept hB)) hKl (U.base (by omega)) X Y hRl).mono ?_;rintro e Z ⟨f1,v1,rfl,r,I,hK2⟩;have o:KeepQ N0 bg m Z:=(KeepQ.of hB).trans hK2;refine⟨_,rfl,λx' e1 e2=>⟨λ_=>E Z o,λh=>absurd h (by omega),λh=>absurd h (by omega),λ_=>⟨f1,v1,e1,r.lower hB.size,I,o⟩,λh=>absurd h (by omega)⟩⟩
 ·rintro x g ⟨-,-,-,z,-⟩
  obtain⟨f1,v1,ex,r,I,o⟩:=z rfl;obtain⟨fa1,fc1,va1,vc1,rfl,rfl⟩:=r.slices;rw[ex];have ab:Dt g bh n1 c:=hC.at (let ⟨_,_,ho⟩:=hC.obj;o.map ho (BG O.1));have ac:DC N g bv n2 v:=hM.at (let ⟨_,_,ho⟩:=hM.obj;o.map ho (BG O.2)) λk cs _ _ ho=>o.cells ho (by decide) λe=>by
   obtain⟨rv,kv,fv,hb,-⟩:=w;rw[<-e,ho]at hb;cases hb
  have hK1:Df g 0 (.slice ka keys.length kcap) keys:=B9.at hK λk hk=>let ⟨_,ho⟩:=B9.obj hK hk;o.cells ho (by decide) λe=>by
   obtain⟨rv,kv,fv,hb,-⟩:=w;rw[<-e,ho]at hb;cases hb
  refine(TZ N m.heap.size 0 n1 n2 ca ps.length cc bh bv h ka kcap keys fa1 va1 fc1 vc1 (Dk (V h.svc.toNat) h.type) (IX V p ps h) (λj=>Dw (Dx (Hs (V h.svc.toNat)) h.type (CH keys j)) (B1 p h ps).length (CH (B1 p h ps))) c v g ab ac hne (D hK1) r (λj _ hq=>TN A K hq) hNX hwf hty (λl hl s=>?_) (by omega) (by omega) (λj _ _=>by unfold IX;rw[A6];exact X)).mono ?_
  ·have key:∀(l:List ByteArray) (c:ByteArray->Nat) (b:Nat),(∀s,c s<=b)->∀s,DV (Dk (V h.svc.toNat) h.type) c l s<=b+l.length:=by
    intro l
    induction l with
    |nil=>intro c b hb s;exact hb s
    |cons y l ih =>
     intro c b hb s;have z:=ih (if Dk (V h.svc.toNat) h.type y=true then bump c y else c) (b+1) (λs=>by
      split
      ·unfold bump
       split
       ·have:=hb y;omega
       ·have:=hb s;omega
      ·have:=hb s;omega) s
     have e0:DV (Dk (V h.svc.toNat) h.type) c (y :: l)=DV (Dk (V h.svc.toNat) h.type) (if Dk (V h.svc.toNat) h.type y=true then bump c y else c) l:=rfl
     rw[e0,AP];omega
   have:=key l c 10 hc s;omega
  rintro e Z ⟨rfl,hC2,hM2,ad⟩;exact⟨_,rfl,λx' e1 e2=>⟨λh=>absurd h (by omega),λh=>absurd h (by omega),λh=>absurd h (by omega),λh=>absurd h (by omega),λ_=>⟨hC2,hM2,I.maps ad ab.obj ac.obj,(KQ.ofQ o (.inl rfl)).trans (KQ.maps ad (.inr (.inl rfl)) (.inr (.inr rfl)))⟩⟩⟩
 ·rintro s w' ⟨-,-,-,-,hp⟩
  obtain⟨q1,q2,q3,q4⟩:=hp rfl;exact hQ s w' q1 q2 q3 q4
def U2 (b:World) (A1:World->LV->World->Prop) (i:World->Prop) (k:World->LV->World) (j:Nat) (x:Nat->Value) (e:World):Prop:=(j<2->i e)/\(j=0->Below b.heap.size b e)/\(j=1->∃l d,Below b.heap.size b d/\x 0= .agg #[.slice l.a l.n l.c,.map l.h,.map l.v]/\A1 d l e)/\(j=2->∃l d g,Below b.heap.size b d/\A1 d l g/\e=k g l)
def F6 (cb o:Nat) (w:World) (l:LV):World:=((w.setCell ⟨cb,o+8,none⟩ (.slice l.a l.n l.c)).setCell ⟨cb,o+9,none⟩ (.map l.h)).setCell ⟨cb,o+10,none⟩ (.map l.v)
theorem RK{Q:Exit->Act->World->Prop}{o:Act}{g:World}{N0 bg d bl bc cb cn cc kn kc sn sc k base:Nat}{ka sa:Option Addr}{ty:ByteArray}{p:PPart}{ps:List (Cg (d+1))}{pv:Nat->Value}{nx:Nat->LV}{A1:World->LV->World->Prop}{lh lv:Option Nat}{c0 c2 c3 c5 N O P C D:Value}(E : [70,71,72,73,74,75,76,77,78,79,80,81,82].all (λd=>decide (d<o.tmps.size))=true)(s0:B4 o 0= .pointer (some ⟨bg,0,none⟩))(F:B4 o 10= .pointer (some ⟨bl,0,none⟩))(G:B4 o 14= .pointer (some ⟨bc,0,none⟩))(H:B4 o 13= .int .i64 (k:Int))(I:B4 o 15= .slice ka kn kc)(hk:k<cn)(J:B9 g base 131 11 (.slice (some ⟨cb,0,none⟩) cn cc) cn (CU p ps pv nx))(r:g.heap[bl]? = some (.cells #[.slice (some ⟨cb,0,none⟩) cn cc,.map lh,.map lv] 63 (0,0)))(u:g.heap[bc]? = some (.cells #[c0,.slice sa sn sc,c2,c3,.string ty,c5,N,O,P,C,D] 131 (0,0)))(hg:∃R,g.heap[bg]? = some (.cells R 58 (0,0)))(y:∀b,Below g.heap.size g b->Calls Tryz.prog 22 #[.pointer (some ⟨bg,0,none⟩),.string ty,.slice ka kn kc,.slice sa sn sc] b λe w' => ∃l:LV,e= .returned (.agg #[.slice l.a l.n l.c,.map l.h,.map l.v])/\A1 b l w')(z:∀b l i,A1 b l i->KeepQ N0 bg b i)(S:∀s l b i,Below g.heap.size g b->A1 b l i->Q .normal (Cn o s [70,71,72,73,74,75,76,77,78,79,80,81,82]) (F6 cb (k*11) i l)) :
  (Code.region 14 KG.toArray true).wp Tryz.prog Q o g:=by
 obtain⟨T,hg⟩:=hg;have n1:bl≠bg:=λe=>by rw[<-e,r]at hg;cases hg
 have n2:bc≠bg:=λe=>by rw[<-e,u]at hg;cases hg
 have Z:cb≠bg:=λe=>by
  obtain⟨C,ho⟩:=J.obj (k:=cb) rfl;rw[e,hg]at ho;cases ho
 have A:∀b,KeepQ N0 bg g b->b.heap[bl]? = g.heap[bl]?/\b.heap[bc]? = g.heap[bc]?:=λb hk=>⟨hk.cells r (by decide) n1,hk.cells u (by decide) n2⟩;refine T2 (U2 g A1 (λb=>b.heap[bl]? = g.heap[bl]?/\b.heap[bc]? = g.heap[bc]?) (F6 cb (k*11))) (bg:=bg) (bl:=bl) (bc:=bc) (cb:=cb) (cn:=cn) (cc:=cc) (kn:=kn) (kc:=kc) (sn:=sn) (sc:=sc) (k:=k) (ka:=ka) (sa:=sa) (ty:=ty) E s0 F G H I (by omega) (by omega) ?_ ?_ ?_ ?_ ?_
 ·intro x
  exact⟨λ_=>⟨rfl,rfl⟩,λ_=>(Aq _ _).drew,λh=>absurd h (by omega),λh=>absurd h (by omega)⟩
 ·rintro j x b U ⟨B,-⟩
  obtain⟨e1,e2⟩:=B U;have e1:=e1.trans r;have e2:=e2.trans u;simp[World.cell?,e1,e2]
 ·rintro x b ⟨-,B,-⟩
  have hB:=B rfl;refine(y b hB).mono ?_;rintro e i ⟨l,rfl,w⟩;exact⟨_,rfl,λx' e1 e2=>⟨λ_=>A i ((KeepQ.of hB).trans (z _ _ _ w)),λh=>absurd h (by omega),λ_=>⟨l,b,hB,e1,w⟩,λh=>absurd h (by omega)⟩⟩
 ·rintro x b ⟨-,-,B,-⟩
  obtain⟨l,K,hB,V,w⟩:=B rfl;have L:KeepQ N0 bg g b:=(KeepQ.of hB).trans (z _ _ _ w);have m:B9 b base 131 11 (.slice (some ⟨cb,0,none⟩) cn cc) cn (CU p ps pv nx):=J.at λq hq=>by
   obtain⟨C,ho⟩:=J.obj hq;refine L.cells ho (by decide) λe=>?_;rw[e,hg]at ho;cases ho
  obtain⟨-,-,-,-,-,-,-,-,W,X,M⟩:=J3 m hk;exact⟨l,_,_,_,V,W,X,M,m.free _,m.free _,m.free _,λh=>absurd h (by omega),λh=>absurd h (by omega),λh=>absurd h (by omega),λ_=>⟨l,K,b,hB,w,rfl⟩⟩
 ·rintro s w' ⟨-,-,-,Y⟩
  obtain⟨l,K,i,hB,w,rfl⟩:=Y rfl;exact S s l K i hB w
end Go.Proofs.YtjjggefmmeminabGreat
