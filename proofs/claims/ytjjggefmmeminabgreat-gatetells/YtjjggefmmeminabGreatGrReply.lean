import Derived.Test.YtjjggefmmeminabGreatGrRepReg
import Derived.Test.YtjjggefmmeminabGreatJGk
import Derived.Test.YtjjggefmmeminabGreatGvAnswer
set_option maxRecDepth 100000
set_option maxHeartbeats 4000000
namespace Go.Proofs.YtjjggefmmeminabGreat
open Go.RowKit Go.Sort Go.PlainAid
theorem Tryz.info68:(Tryz.prog.info? 68).map (λi=>(i.zero,i.size,i.bytes))=some (some (.agg #[.int .i64 0,.string ⟨#[]⟩,.slice none 0 0,.slice none 0 0]),4,72):=by kernel_rfl
theorem RepliesO.lower{w:World}{B B' base:Nat}{fv b:Value}{N:Nat}{a:Nat->Bool}{c:Nat->List LVal}(h:RepliesO w B base fv b N a c)(hb:B'<=B):RepliesO w B' base fv b N a c:=⟨h.found.lower hb,h.vals.lower hb,h.few⟩
theorem RepliesO.kept{w w':World}{B:Nat}{fv b:Value}{N:Nat}{a:Nat->Bool}{c:Nat->List LVal}(h:RepliesO w B 0 fv b N a c)(hB:Below w.heap.size w w'):RepliesO w' B 0 fv b N a c:=⟨h.found.kept hB,h.vals.kept hB (Ai _),h.few⟩
theorem RepliesO.set{w:World}{B b o:Nat}{fv c u:Value}{N:Nat}{a:Nat->Bool}{d:Nat->List LVal}{e:Array Value}{g:Nat × Nat}(h:RepliesO w B 0 fv c N a d)(hb:w.heap[b]? = some (.cells e 127 g)):RepliesO (w.setCell ⟨b,o,none⟩ u) B 0 fv c N a d :=
 ⟨h.found.steady (E0 (ts:=Vb) (base:=0) hb (by decide) (Ai _) u) (by decide),h.vals.steady (E0 (ts:=T8) (base:=0) hb (by decide) (Ai _) u),h.few⟩
theorem RepliesO.slices{w:World}{B base:Nat}{fv b:Value}{N:Nat}{a:Nat->Bool}{c:Nat->List LVal}(h:RepliesO w B base fv b N a c):∃fa fc va vc,fv= .slice fa N fc/\b= .slice va N vc:=by
 obtain⟨fa,fc,e1,-⟩:=h.found.slice;obtain⟨sv,d,-⟩:=h.vals;obtain⟨va,vc,e2,-⟩:=d.slice;exact⟨fa,fc,va,vc,e1,e2⟩
theorem KeepQ.set_new{N0 bg b o:Nat}{w w':World}{u:Value}(h:KeepQ N0 bg w w')(hb:w.heap.size<=b):KeepQ N0 bg w (w'.setCell ⟨b,o,none⟩ u) :=
 ⟨h.os,h.tape,h.output,by simpa using h.size,λk hk a hq=>(Al _ _ _ _ (by show k≠b;omega)).trans (h.block k hk a hq)⟩
theorem GateAt.set{N0 bg b o t:Nat}{sv pv u:Value}{w:World}{R:List PReq}{a:Array Value}{c:Nat × Nat}(h:GateAt N0 bg sv pv w R)(hb:w.heap[b]? = some (.cells a t c))(h1:t≠58)(h2:t≠68)(h3:t≠9):GateAt N0 bg sv pv (w.setCell ⟨b,o,none⟩ u) R :=
 h.at λk cs' g _ ho d=>Al _ _ _ _ λe=>by
  have e:k=b:=e;subst e;rw[hb]at ho;cases ho;rcases d with e|e|e
  ·exact h1 e
  ·exact h2 e
  ·exact h3 e
def UK (W:World) (keys:List ByteArray) (sv:Int) (ty:ByteArray) (fv:Value) (j:Nat) (x:Nat->Value) (o:Option Nat) (a:World):Prop:=Below W.heap.size W a/\(1<=j->(∃A C,x 0= .slice A keys.length C)/\Df a W.heap.size (x 0) keys)/\(2<=j->x 1= .agg #[.int .i64 sv,.string ty,x 0,fv])/\(3<=j->o≠none) /\
 ∀b,o=some b->W.heap.size<=b/\a.heap[b]? = some (.cells (if 3<=j then #[.int .i64 sv,.string ty,x 0,fv] else #[.int .i64 0,.string ⟨#[]⟩,.slice none 0 0,.slice none 0 0]) 68 (0,0))
def U6 (b:World) (bg:Nat) (e:World->Prop) (g:Array Value) (c:Value->World->Prop) (j:Nat) (x:Nat->Value) (a:World):Prop:=(j<3->e a)/\(j=0->a=b.drew)/\(j=1->a=b.drew.alloc (.cells g 68)/\x 0= .slice (some ⟨b.heap.size,0,none⟩) 1 1)/\(j=2->c (x 1) a)/\(j=3->∃d,c (x 1) d/\a=d.setCell ⟨bg,2,none⟩ (x 1))
def UN (c:World) (d:Value->Value->World->Prop) (j:Nat) (x:Nat->Value) (o:Option Nat) (a:World):Prop:=Below c.heap.size c a/\(1<=j->∃fa fn fc va vn vc,d (.slice fa fn fc) (.slice va vn vc) a/\x 0= .tuple #[.agg #[.slice fa fn fc,.slice va vn vc],.int .i64 0]/\(2<=j->x 1=x 0)/\(3<=j->x 2= .agg #[.slice fa fn fc,.slice va vn vc])/\(4<=j->∀b,o=some b->a.heap[b]? = some (.cells #[.slice fa fn fc,.slice va vn vc] 127 (0,0))))/\(4<=j->o≠none) /\
 ∀b,o=some b->c.heap.size<=b/\(j<4->a.heap[b]? = some (.cells #[.slice none 0 0,.slice none 0 0] 127 (0,0)))
theorem R9(N0 bg n cap:Nat)(la:Option Addr)(pa:Option Addr)(pn pc:Nat)(V:Nat->LServ)(h:POwner)(keys a:List ByteArray)(ka:Option Addr)(kcap:Nat)(fv:Value)(R:List PReq)(w:World)(hG:GateAt N0 bg (.slice la n cap) (.slice pa pn pc) w R)(hN:N0<=bg)(hNw:N0<=w.heap.size)(hS:∀c,Below N0 w c->Dc c la n V)(hL:∀i,i<n->Jd (Hs (V i)))(hn5:n<=5)(hq:ReqR n V ⟨h.svc,h.type,keys,a⟩)(hK:DX w ka keys)(hlen:keys.length<=1200)(hF:Df w N0 fv a)(hfl:a.length<=60)(hfs:∀x,x∈a->BY x)(hR:R.length<=1000000) :
  Calls Tryz.prog 49 #[.pointer (some ⟨bg,0,none⟩),.agg #[.int .i64 h.svc,.string h.type,.string h.field],.slice ka keys.length kcap,fv] w λe w' => ∃f1 v1,e= .returned (.agg #[f1,v1])/\RepliesO w' w.heap.size 0 f1 v1 keys.length (λj=>Dk (V h.svc.toNat) h.type (CH keys j)) (λj=>Dw (Dx (Hs (V h.svc.toNat)) h.type (CH keys j)) a.length (CH a)) /\
   GateAt N0 bg (.slice la n cap) (.slice pa pn pc) w' (R++[⟨h.svc,h.type,keys,a⟩])/\KeepQ N0 bg w w':=by
 obtain⟨iR,ri,rz0,rz1,rz2⟩:=Cd Tryz.info68;obtain⟨fa,fc,rfl,hfc⟩:=hF.slice;have hksm:∀x,x∈keys->BY x:=λx hx=>by
  obtain⟨i,hi,rfl⟩:=Bl hx;obtain⟨_,_,_,_,s⟩:=hK.2 i hi;have:CH keys i=keys[i]:=by simp[CH,List.getD,hi]
  rw[this]at s;exact s
 generalize hW:(w.alloc (Obj.cells #[.int .i64 h.svc,.string h.type,.string h.field] 92)).alloc (Obj.cells #[.slice none 0 0,.slice none 0 0] 127)=W;have ad:Below w.heap.size w W:=by rw[<-hW];exact CN _ _ _
 have hWs:W.heap.size=w.heap.size+1+1:=by rw[<-hW];simp
 have o0:W.cell? ⟨w.heap.size,0,none⟩=some (.int .i64 h.svc):=by rw[<-hW,Az _ _ _ (by simp),Ac _ _ _ _ rfl];rfl
 have o1:W.cell? ⟨w.heap.size,1,none⟩=some (.string h.type):=by rw[<-hW,Az _ _ _ (by simp),Ac _ _ _ _ rfl];rfl
 have hres:W.heap[w.heap.size+1]? = some (.cells #[.slice none 0 0,.slice none 0 0] 127 (0,0)):=by
  rw[<-hW];have h1:=Ap (w.alloc (Obj.cells #[.int .i64 h.svc,.string h.type,.string h.field] 92)) (Obj.cells #[.slice none 0 0,.slice none 0 0] 127);rw[show (w.alloc (Obj.cells #[.int .i64 h.svc,.string h.type,.string h.field] 92)).heap.size=w.heap.size+1 by simp]at h1;exact h1
 have HK:=Aa (hK.kept ad);have HF:=Aa (hF.kept ad);have HGt:=Aa (hG.kept ad);have HSv:=Aa hS;have ae:=Aa ad;have J:=Aa hres;have HQ:=Aa hq;have HL:=Aa hL;have HFS:=Aa hfs;have HKSM:=Aa hksm;have hk0:keys≠[]:=hq.some;clear hK hF hG hS ad hres hq hL hfs hksm
 go_enter Tryz.func49,Tryz.ntmps49
 go_upto_region 1 with fail
 clear hW;refine Uw (UK W keys h.svc h.type (.slice fa a.length fc)) (bo:=w.heap.size) (kn:=keys.length) (kc:=kcap) (fn:=a.length) (fc:=fc) (ka:=ka) (fa:=fa) (sv:=h.svc) (ty:=h.type) (by kernel_rfl) rfl rfl rfl ?_ ?_ ?_ ?_ ?_ ?_ ?_ ?_ ?_
 ·rintro x o c ⟨-,h1,-⟩
  obtain⟨⟨A,C,e⟩,-⟩:=h1 (by omega);exact⟨A,_,C,e⟩
 ·rintro x o c ⟨-,h1,h2,-⟩
  obtain⟨⟨A,C,e⟩,-⟩:=h1 (by omega);exact⟨A,_,C,e,h2 (by omega)⟩
 ·intro x
  exact⟨(Aq _ _).drew,λh=>absurd h (by omega),λh=>absurd h (by omega),λh=>absurd h (by omega),λb hb=>by cases hb⟩
 ·rintro j x o c - ⟨hB,-⟩
  exact⟨BR hB o0,BR hB o1⟩
 ·rintro x o c ⟨hB,-,-,-,hb⟩
  refine(Rw ka kcap keys c (HK.out.kept hB) hk0 (by omega)).mono ?_;rintro e w2 ⟨⟨v,rfl,hT⟩,af⟩;refine⟨v,rfl,λx' e1 e2=>⟨hB.trans (af.mono hB.size),λ_=>?_,λh=>absurd h (by omega),λh=>absurd h (by omega),λb g=>?_⟩⟩
  ·rw[e1]
   obtain⟨A,C,e,-⟩:=hT.slice;exact⟨⟨A,C,e⟩,hT.base hB.size⟩
  ·obtain⟨q1,O⟩:=hb b g
   exact⟨q1,(af.block _ (Ag O)).trans O⟩
 ·rintro x o c ⟨hB,h1,-,-,hb⟩ x' e1 e2
  have e0:x' 0=x 0:=e2 0 (by decide);refine⟨hB,λ_=>by rw[e0];exact h1 (by omega),λ_=>by rw[e1,e0],λh=>absurd h (by omega),λb g=>?_⟩;exact hb b g
 ·rintro x b c ⟨hB,h1,h2,-,hb⟩
  obtain⟨q1,O⟩:=hb b rfl;rw[Ae (by omega)]at O;refine⟨O,hB.trans ⟨rfl,rfl,rfl,by simp,λk hk=>?_⟩,λ_=>?_,λ_=>h2 (by omega),(λ_ h=>by cases h),λb' g=>?_⟩
  ·rw[Al _ _ _ _ (by show k≠b;omega),Al _ _ _ _ (by show k≠b;omega),Al _ _ _ _ (by show k≠b;omega),Al _ _ _ _ (by show k≠b;omega)]
  ·obtain⟨ex,hT⟩:=h1 (by omega)
   refine⟨ex,B9.at hT λk hk=>?_⟩;have Z:k≠b:=λe=>by
    subst e;obtain⟨U,ho⟩:=B9.obj hT hk;rw[O]at ho;cases ho
   rw[Al _ _ _ _ Z,Al _ _ _ _ Z,Al _ _ _ _ Z,Al _ _ _ _ Z]
  ·cases g
   refine⟨q1,?_⟩;have g0:=Ao _ b 0 _ 68 (.int .i64 h.svc) O;have g1:=Ao _ b 1 _ 68 (.string h.type) g0;have g2:=Ao _ b 2 _ 68 (x 0) g1;have g3:=Ao _ b 3 _ 68 (.slice fa a.length fc) g2;rw[g3,Af (by omega)];rfl
 ·rintro j x c ⟨hB,h1,h2,h3,-⟩
  refine⟨hB.trans ((BW c _).mono hB.size),λB=>⟨(h1 B).1,(h1 B).2.kept (BW c _)⟩,h2,λB=>absurd rfl (h3 B),λb hb=>?_⟩;cases hb;rw[Ae (λB=>absurd rfl (h3 B))];exact⟨hB.size,Ap _ _⟩
 intro s bq m hs9 hp;obtain⟨p,ag,-,-,hp4⟩:=hp;obtain⟨⟨A,C,hx0⟩,Q⟩:=ag (by omega);obtain⟨hbq,K⟩:=hp4 bq rfl;rw[Af (by omega)]at K;replace hx0:s 17= .slice A keys.length C:=hx0;replace Q:Df m W.heap.size (s 17) keys:=Q;replace K:m.heap[bq]? = some (.cells #[.int .i64 h.svc,.string h.type,s 17,.slice fa a.length fc] 68 (0,0)):=K;rw[hx0]at Q K;simp only[Cn,Act.put,Au,AD,AE,hs9];clear hs9 ag hp4;generalize s 12=t12;generalize s 13=t13;generalize s 14=t14;generalize s 15=t15;generalize s 16=t16;generalize s 17=t17 at *;generalize s 18=t18;generalize s 19=t19;clear hx0 o0 o1;obtain⟨rv,kv,fv',hgW,aa⟩:=HGt.out;have hrb:∀k,rv.ownBlock=some k->k<W.heap.size:=λk hk=>(aa.row.lt hk).2;have hbgW:bg<W.heap.size:=Ag hgW;have S:=(p.block _ hbgW).trans hgW;have ab:=aa.kept p;obtain⟨ra,rc,rfl,hrc⟩:=ab.slice;have hF3:=HF.out.kept p;have hNW:N0<=W.heap.size:=by omega
 obtain⟨U,hcs⟩:∃U:Array Value,U = #[.int .i64 h.svc,.string h.type,.slice A keys.length C,.slice fa a.length fc]:=⟨_,rfl⟩;have ah:U.toList=N7 ⟨h.svc,h.type,keys,a⟩ (.slice A keys.length C) (.slice fa a.length fc):=by rw[hcs];rfl
 have d:Below m.heap.size m (m.drew.alloc (.cells U 68)):=(Aq m.heap.size m).drew.trans (BW m.drew _);have happ:=λty=>DG (P:=Tryz.prog) (m.drew.alloc (.cells U 68)) N0 32 ty 68 iR _ 4 72 Tryz.underlying32 ri rz0 rz1 rz2 rfl (by decide) (.slice ra R.length rc) R.length _ (ab.kept d).row (some ⟨m.heap.size,0,none⟩) 1 1 U.toList (by rw[hcs];rfl) (CI m.drew U _) (λh=>by cases h) (by rw[ah];intro u hu;simp[N7]at hu;rcases hu with rfl|rfl|rfl|rfl<;>rfl) (by unfold maxLen;omega) (by omega) (by have:=d.size;have:=p.size;omega)
 have ai:(Value.slice ra R.length rc).ownBlock≠some bg:=λe=>by
  obtain⟨c9,ho⟩:=ab.row.obj e;rw[S]at ho;cases ho
 have aj:(Value.slice ra R.length rc).ownBlock≠some bq:=λe=>by
  have:=hrb bq e;omega
 obtain⟨qc0,qc1,qc2,qc3⟩:m.cell? ⟨bq,0,none⟩=some (.int .i64 h.svc)/\m.cell? ⟨bq,1,none⟩=some (.string h.type)/\m.cell? ⟨bq,2,none⟩=some (.slice A keys.length C)/\m.cell? ⟨bq,3,none⟩=some (.slice fa a.length fc):=by simp[World.cell?,K]
 have hgc:m.cell? ⟨bg,2,none⟩=some (.slice ra R.length rc):=by simp[World.cell?,S]
 have hStA:∀c:World,c.heap[bg]? = m.heap[bg]?->c.heap[bq]? = m.heap[bq]?->c.cell? ⟨bg,2,none⟩=some (.slice ra R.length rc)/\c.cell? ⟨bq,0,none⟩=some (.int .i64 h.svc)/\c.cell? ⟨bq,1,none⟩=some (.string h.type)/\c.cell? ⟨bq,2,none⟩=some (.slice A keys.length C)/\c.cell? ⟨bq,3,none⟩=some (.slice fa a.length fc):=λc e1 e2 =>
  ⟨(Aw e1).trans hgc,(Aw e2).trans qc0,(Aw e2).trans qc1,(Aw e2).trans qc2,(Aw e2).trans qc3⟩
 have X:bq<m.heap.size:=Ag K;have L:bg<m.heap.size:=Ag S
 go_upto_region 2 with fail
 refine Ux (U6 m bg (λc=>c.heap[bg]? = m.heap[bg]?/\c.heap[bq]? = m.heap[bq]?) U (λx w2=>w2.ownsRow N0 68 4 x (R.length+1) ((List.range (R.length*4)).map (Dl R kv fv')++U.toList)/\(m.drew.alloc (.cells U 68)).grownBy w2 (Value.slice ra R.length rc).ownBlock)) (bg:=bg) (bq:=bq) (kn:=keys.length) (kc:=C) (fn:=a.length) (fc:=fc) (rn:=R.length) (rc:=rc) (ka:=A) (fa:=fa) (ra:=ra) (sv:=h.svc) (ty:=h.type) (by kernel_rfl) rfl rfl ?_ ?_ ?_ ?_ ?_ ?_
 ·intro x
  exact⟨λ_=>⟨rfl,rfl⟩,λ_=>rfl,λh=>absurd h (by omega),λh=>absurd h (by omega),λh=>absurd h (by omega)⟩
 ·rintro j x c B ⟨h1,-⟩
  exact hStA c (h1 B).1 (h1 B).2
 ·rintro x c ⟨h1,h2,-⟩ x' e1 e2
  have hw1:=h2 rfl;subst hw1;rw[<-hcs];exact⟨λ_=>⟨d.block _ L,d.block _ X⟩,λh=>absurd h (by omega),λ_=>⟨rfl,e1⟩,λh=>absurd h (by omega),λh=>absurd h (by omega)⟩
 ·rintro x c ⟨h1,-,h3,-⟩ ty
  obtain⟨hw1,hx⟩:=h3 rfl;subst hw1;obtain⟨v',w2,hr,l,q,hvb⟩:=happ ty;rw[hx];refine⟨v',w2,hr,λx' e1 e2=>⟨λ_=>⟨?_,?_⟩,λh=>absurd h (by omega),λh=>absurd h (by omega),λ_=>?_,λh=>absurd h (by omega)⟩⟩
  ·rw[q.block bg (Ah L d.size) (BG ai),d.block _ L]
  ·rw[q.block bq (Ah X d.size) (BG aj),d.block _ X]
  ·rw[e1];exact⟨l,q⟩
 ·rintro x c ⟨h1,-,-,h4,-⟩
  obtain⟨l,q⟩:=h4 rfl;obtain⟨va,vc,e⟩:=E7 l;have hgb:c.heap[bg]? = some (.cells #[.slice la n cap,.slice pa pn pc,.slice ra R.length rc] 58 (0,0)):=(h1 (by omega)).1.trans S;refine⟨va,_,vc,.slice ra R.length rc,e,by simp[World.cell?,hgb],by simp[World.frozen?,hgb],λh=>absurd h (by omega),λh=>absurd h (by omega),λh=>absurd h (by omega),λh=>absurd h (by omega),λ_=>⟨c,⟨l,q⟩,rfl⟩⟩
 intro s z hp;obtain⟨-,-,-,-,hp⟩:=hp;obtain⟨w2,⟨l,q⟩,D⟩:=hp rfl;have l:w2.ownsRow N0 68 4 (s 27) (R.length+1) ((List.range (R.length*4)).map (Dl R kv fv')++U.toList):=l;have D:z=w2.setCell ⟨bg,2,none⟩ (s 27):=D;obtain⟨va,vc,hv27⟩:=E7 l;rw[ah]at l;have M:w2.heap[bg]? = some (.cells #[.slice la n cap,.slice pa pn pc,.slice ra R.length rc] 58 (0,0)):=by
  rw[q.block bg (Ah L d.size) (BG ai),d.block _ L];exact S
 have ak:=(ab.kept d).app (r:=⟨h.svc,h.type,keys,a⟩) (k1:=.slice A keys.length C) (f1:=.slice fa a.length fc) ⟨by unfold maxLen;show keys.length<=_;omega,(Q.kept d).base hNW,λj B=>HKSM.out _ (IN B)⟩ ⟨by unfold maxLen;show a.length<=_;omega,hF3.kept d,λj B=>HFS.out _ (IN B)⟩ l q;have Y:∀k,k≠bg->z.heap[k]? = w2.heap[k]?:=λk hk=>by rw[D];exact Al _ _ _ _ hk
 have N:∀k,k<m.heap.size->k≠bg->(Value.slice ra R.length rc).ownBlock≠some k->z.heap[k]? = m.heap[k]?:=λk hk h1 h2=>by
  rw[Y k h1,q.block k (Ah hk d.size) (BG h2),d.block k hk]
 have hG4:GateAt N0 bg (.slice la n cap) (.slice pa pn pc) z (R++[⟨h.svc,h.type,keys,a⟩]):=by
  refine⟨s 27,_,_,?_,ak.at (λk hk=>Y k λe=>?_) λk cs' _ hk ho=>Y k λe=>?_⟩
  ·rw[D]
   exact Ao _ bg 2 _ 58 (s 27) M
  ·subst e
   obtain⟨c9,ho⟩:=ak.row.obj hk;rw[M]at ho;cases ho
  ·subst e
   rw[M]at ho;cases ho
 have hsz4:m.heap.size<=z.heap.size:=by
  rw[D];have:=q.size;have:=d.size;simp;omega
 have hKQ:KeepQ N0 bg w z:=by
  refine⟨?_,?_,?_,?_,λk hk Z hq=>?_⟩
  ·rw[D];exact q.os.trans (d.os.trans (p.os.trans ae.out.os))
  ·rw[D];exact q.tape.trans (d.tape.trans (p.tape.trans ae.out.tape))
  ·rw[D];exact q.output.trans (d.output.trans (p.output.trans ae.out.output))
  ·have:=p.size;omega
  ·have hkW:k<W.heap.size:=by omega
   rw[N k (Ah hkW p.size) Z (λe=>?_),p.block k hkW,ae.out.block k hk];rcases hq with hq|hq
   ·have:=(aa.row.lt e).1;omega
   ·obtain⟨c9,ho⟩:=aa.row.obj e
    exact hq ⟨c9,(0,0),by rw[<-ae.out.block k hk];exact ho⟩
 have hq4:z.heap[bq]? = some (.cells #[.int .i64 h.svc,.string h.type,.slice A keys.length C,.slice fa a.length fc] 68 (0,0)):=(N bq X (by omega) aj).trans K;have T:z.heap[w.heap.size+1]? = some (.cells #[.slice none 0 0,.slice none 0 0] 127 (0,0)):=by
  have hlt:=Ag J.out;rw[N (w.heap.size+1) (Ah hlt p.size) (λe=>?_) (λe=>?_),p.block _ hlt]
  ·exact J.out
  ·rw[e]at J
   have:=J.out;rw[hgW]at this;cases this
  ·obtain⟨c9,ho⟩:=aa.row.obj e
   have:=J.out;rw[this]at ho;cases ho
 have al:∀(k:Nat) (U:Array Value),m.heap[k]? = some (.cells U 9 (0,0))->z.heap[k]? = m.heap[k]?:=λk cs' ho=>N k (Ag ho) (λe=>by subst e;rw[S]at ho;cases ho) (λe=>by
  obtain⟨c9,ho'⟩:=ab.row.obj e;rw[ho]at ho';cases ho')
 have hT4:Df z W.heap.size (.slice A keys.length C) keys:=B9.at Q λk hk=>let ⟨_,ho⟩:=B9.obj Q hk;al k _ ho;have hF4:Df z N0 (.slice fa a.length fc) a:=B9.at hF3 λk hk=>let ⟨_,ho⟩:=B9.obj hF3 hk;al k _ ho;obtain⟨a9,c9,e9,hAC,htk⟩:=hT4.at (by unfold maxLen;omega) HKSM.out;cases e9;obtain⟨a9,c9,e9,hfaC,htf⟩:=hF4.at (by unfold maxLen;omega) HFS.out;cases e9;have hS4:=λc (hB:Below z.heap.size z c)=>HSv.out c ((hKQ.below hN hNw).trans (hB.mono (by have:=p.size;omega)));have hQ4:=HQ.out.ok (hS4 z (Aq _ _)) hn5 htk htf hAC hfaC;have hwz:=Rx HQ.out A C fa fc;have hgs:z.cell? ⟨bg,0,none⟩=some (.slice la n cap):=by
  have:z.heap[bg]? = some (.cells #[.slice la n cap,.slice pa pn pc,s 27] 58 (0,0)):=by
   rw[D];exact Ao _ bg 2 _ 58 (s 27) M
  simp[World.cell?,this]
 obtain⟨qc0,qc1,qc2,qc3⟩:z.cell? ⟨bq,0,none⟩=some (.int .i64 h.svc)/\z.cell? ⟨bq,1,none⟩=some (.string h.type)/\z.cell? ⟨bq,2,none⟩=some (.slice A keys.length C)/\z.cell? ⟨bq,3,none⟩=some (.slice fa a.length fc):=by simp[World.cell?,hq4]
 have HG4:=Aa hG4;have HKQ:=Aa hKQ;have HR4:=Aa T;have HS4:=Aa hS4;have HQ4:=Aa hQ4;have hw4s:w.heap.size+1<z.heap.size:=Ag T;have HWZ:=Aa hwz;clear hG4 hKQ T hS4 hQ4 al N Y ak M hT4 hF4 Q hF3 K hq4 S ab hgW aa hrb happ q l hStA htk htf hgc ai aj p d ah hwz;simp only[Cn,Act.put,Au,AD,AE];generalize s 20=t20;generalize s 21=t21;generalize s 22=t22;generalize s 23=t23;generalize s 24=t24;generalize s 25=t25;generalize s 26=t26;generalize s 27=t27 at *;generalize s 28=t28;generalize s 29=t29;clear D hv27
 go_upto_region 3 with fail
 refine Uv (UN z (λf v c=>RepliesO c z.heap.size 0 f v keys.length (λj=>Dk (V h.svc.toNat) h.type (CH keys j)) (λj=>Dw (Dx (Hs (V h.svc.toNat)) h.type (CH keys j)) a.length (CH a)))) (bg:=bg) (bq:=bq) (kn:=keys.length) (kc:=C) (fn:=a.length) (fc:=fc) (n:=n) (cap:=cap) (ka:=A) (fa:=fa) (la:=la) (sv:=h.svc) (ty:=h.type) (by kernel_rfl) rfl rfl ?_ ?_ ?_ ?_ ?_ ?_ ?_ ?_ ?_ ?_
 ·rintro j x o c B ⟨-,h1,-⟩
  obtain⟨f1,E,F,G,H,I,-,e1,e2,-⟩:=h1 (by omega);exact⟨_,(e2 B).trans e1⟩
 ·rintro x o c ⟨-,h1,-⟩
  obtain⟨f1,E,F,G,H,I,-,-,-,e3,-⟩:=h1 (by omega);exact⟨_,_,_,_,_,_,e3 (by omega)⟩
 ·intro x
  exact⟨(Aq _ _).drew,λh=>absurd h (by omega),λh=>absurd h (by omega),λb hb=>by cases hb⟩
 ·rintro j x o c - ⟨hB,-⟩
  exact⟨BR hB hgs,BR hB qc0,BR hB qc1,BR hB qc2,BR hB qc3⟩
 ·rintro x o c ⟨hB,-,-,hb⟩
  refine(Od la n cap (λi=>Hs (V i)) (RT ⟨h.svc,h.type,keys,a⟩ A C fa fc) c (HS4.out c hB).sv HL.out (HQ4.out.kept hB) (by show keys.length*16<=_;omega) 0 (Ai _)).mono ?_;rintro e w2' ⟨f1,v1,rfl,y,af⟩;rw[HWZ.out]at y ⊢;replace y:RepliesO w2' c.heap.size 0 f1 v1 keys.length (λj=>Dk (V h.svc.toNat) h.type (CH keys j)) (λj=>Dw (Dx (Hs (V h.svc.toNat)) h.type (CH keys j)) a.length (CH a)):=y;obtain⟨a1,c1,a2,c2,rfl,rfl⟩:=y.slices;refine⟨_,rfl,λx' e1 e2=>⟨hB.trans (af.mono hB.size),λ_=>⟨a1,_,c1,a2,_,c2,y.lower hB.size,e1,λh=>absurd h (by omega),λh=>absurd h (by omega),λh=>absurd h (by omega)⟩,λh=>absurd h (by omega),λb g=>?_⟩⟩;obtain⟨q1,O⟩:=hb b g;exact⟨q1,λ_=>(af.block _ (Ag (O (by omega)))).trans (O (by omega))⟩
 ·rintro x o c ⟨hB,h1,-,hb⟩ x' e1 e2
  obtain⟨f1,E,F,G,H,I,r1,r2,-⟩:=h1 (by omega);have e0:x' 0=x 0:=e2 0 (by decide);exact⟨hB,λ_=>⟨f1,E,F,G,H,I,r1,e0.trans r2,λ_=>e1.trans e0.symm,λh=>absurd h (by omega),λh=>absurd h (by omega)⟩,λh=>absurd h (by omega),λb g=>⟨(hb b g).1,λ_=>(hb b g).2 (by omega)⟩⟩
 ·rintro x o c ⟨hB,h1,-,hb⟩
  obtain⟨f1,E,F,G,H,I,r1,r2,r3,-⟩:=h1 (by omega);refine⟨f1,E,F,G,H,I,(r3 (by omega)).trans r2,λx' e1 e2=>?_⟩;have e0:x' 0=x 0:=e2 0 (by decide);have e9:x' 1=x 1:=e2 1 (by decide);exact⟨hB,λ_=>⟨f1,E,F,G,H,I,r1,e0.trans r2,λ_=>by rw[e9,e0];exact r3 (by omega),λ_=>e1,λh=>absurd h (by omega)⟩,λh=>absurd h (by omega),λb g=>⟨(hb b g).1,λ_=>(hb b g).2 (by omega)⟩⟩
 ·rintro x b c ⟨hB,h1,-,hb⟩
  obtain⟨f1,E,F,G,H,I,r1,r2,r3,r4,-⟩:=h1 (by omega);obtain⟨q1,O⟩:=hb b rfl;have O:=O (by omega);have e2:=r4 (by omega);rw[e2];have g0:=Ao _ b 0 _ 127 (.slice f1 E F) O;have g1:=Ao _ b 1 _ 127 (.slice G H I) g0;refine⟨O,hB.trans ⟨rfl,rfl,rfl,by simp,λk hk=>?_⟩,λ_=>⟨f1,E,F,G,H,I,(r1.set O).set g0,r2,λ_=>r3 (by omega),λ_=>e2,λ_ b' g=>?_⟩,(λ_ h=>by cases h),λb' g=>⟨?_,λh=>absurd h (by omega)⟩⟩
  ·show ((c.setCell _ _).setCell _ _).heap[k]? = _
   rw[Al _ _ _ _ (by show k≠b;omega),Al _ _ _ _ (by show k≠b;omega)]
  ·cases g
   exact g1
  ·cases g;exact q1
 ·rintro j x c ⟨hB,h1,h2,hb⟩
  have hb1:=BW c (Obj.cells #[.slice none 0 0,.slice none 0 0] 127);refine⟨hB.trans (hb1.mono hB.size),λB=>?_,λB=>absurd rfl (h2 B),λb g=>?_⟩
  ·obtain⟨f1,E,F,G,H,I,r1,r2,r3,r4,-⟩:=h1 B
   exact⟨f1,E,F,G,H,I,r1.kept hb1,r2,r3,r4,λB=>absurd rfl (h2 B)⟩
  ·cases g
   exact⟨hB.size,λ_=>Ap _ _⟩
 intro s b w5 hs10 hp;obtain⟨hB5,ag,-,hp3⟩:=hp;obtain⟨f1,E,F,G,H,I,y,-,-,-,hbx⟩:=ag (by omega);have hbx:=hbx (by omega) b rfl;have hb4:=(hp3 b rfl).1;have ac:=(hB5.block _ (Ag HR4.out)).trans HR4.out;have g0:=Ao _ (w.heap.size+1) 0 _ 127 (.slice f1 E F) ac;have g1:=Ao _ (w.heap.size+1) 1 _ 127 (.slice G H I) g0;have HEND:Hid (RepliesO ((w5.setCell ⟨w.heap.size+1,0,none⟩ (.slice f1 E F)).setCell ⟨w.heap.size+1,1,none⟩ (.slice G H I)) w.heap.size 0 (.slice f1 E F) (.slice G H I) keys.length (λj=>Dk (V h.svc.toNat) h.type (CH keys j)) (λj=>Dw (Dx (Hs (V h.svc.toNat)) h.type (CH keys j)) a.length (CH a))/\GateAt N0 bg (.slice la n cap) (.slice pa pn pc) ((w5.setCell ⟨w.heap.size+1,0,none⟩ (.slice f1 E F)).setCell ⟨w.heap.size+1,1,none⟩ (.slice G H I)) (R++[⟨h.svc,h.type,keys,a⟩])/\KeepQ N0 bg w ((w5.setCell ⟨w.heap.size+1,0,none⟩ (.slice f1 E F)).setCell ⟨w.heap.size+1,1,none⟩ (.slice G H I))):=by
  exact⟨((y.set ac).set g0).lower (by omega),((HG4.out.kept hB5).set ac (by decide) (by decide) (by decide)).set g0 (by decide) (by decide) (by decide),((HKQ.out.trans (KeepQ.of hB5)).set_new (by omega)).set_new (by omega)⟩
 obtain⟨d0,d1⟩:w5.cell? ⟨b,0,none⟩=some (.slice f1 E F)/\w5.cell? ⟨b,1,none⟩=some (.slice G H I):=by simp[World.cell?,hbx]
 obtain⟨x0,x1⟩:w5.cell? ⟨w.heap.size+1,0,none⟩=some (.slice none 0 0)/\w5.cell? ⟨w.heap.size+1,1,none⟩=some (.slice none 0 0):=by simp[World.cell?,ac]
 obtain⟨y0,y1⟩:w5.frozen? ⟨w.heap.size+1,0,none⟩=false/\w5.frozen? ⟨w.heap.size+1,1,none⟩=false:=by simp[World.frozen?,ac]
 clear y hbx ac g0 g1 hB5 ag hp3 HG4 HKQ HR4 HS4 HQ4 qc0 qc1 qc2 qc3 hgs;simp only[Cn,Act.put,Au,AD,AE,hs10];generalize s 31=t31;generalize s 32=t32;generalize s 33=t33;generalize s 34=t34;generalize s 35=t35;generalize s 36=t36;generalize s 30=t30;generalize s 37=t37;generalize s 38=t38;generalize s 11=t11;clear hs10
 go_wp2_with fail
 exact At (v:=.agg #[.slice f1 E F,.slice G H I]) (by simp[results,Tryz.results49,go_sem,x0,x1]) rfl ⟨_,_,rfl,HEND.out⟩
end Go.Proofs.YtjjggefmmeminabGreat
