import Derived.Test.YtjjggefmmeminabGreatRfSee
namespace Go.Proofs.YtjjggefmmeminabGreat
open Go.RowKit Go.Sort
def F4 (txt:Nat->Nat->ByteArray) (i j:Nat):Bool := !decide ((txt (2+i) j).size=0)
def Cx (T:Nat->LType) (txt:Nat->Nat->ByteArray) (i:Nat):List Nat:=(List.range (T i).nf).filter (F4 txt i)
def Hx (n:Nat) (T:Nat->LType) (txt:Nat->Nat->ByteArray) (i j:Nat):LField:=⟨txt (2+i) j,((T i).F j).kind,if ((T i).F j).kind=1 then ⟨#[]⟩ else txt 1 (pl n (txt 0) ((T i).F j).type).toNat⟩
structure Rel (n:Nat) (T:Nat->LType) (S:Nat->PSeen) (txt:Nat->Nat->ByteArray):Prop where
 own0:∀i,i<n->txt 0 i=(T i).name
 name:∀i,i<n->(S i).name=txt 1 i
 own:∀i,i<n->(S i).own=(T i).name
 nf:∀i,i<n->(S i).nf=(Cx T txt i).length
 F:∀i,i<n->∀k,k<(S i).nf->(S i).F k=Hx n T txt i ((Cx T txt i).getD k 0)
 O:∀i,i<n->∀k,k<(S i).nf->(S i).O k=((T i).F ((Cx T txt i).getD k 0)).name
theorem M2{T:Nat->LType}{txt:Nat->Nat->ByteArray}{i j:Nat}:j∈Cx T txt i↔j<(T i).nf/\(txt (2+i) j).size≠0:=by
 unfold Cx F4;rw[BL];simp
theorem L9(T:Nat->LType)(txt:Nat->Nat->ByteArray)(i:Nat):(Cx T txt i).Nodup:=List.Pairwise.filter _ List.nodup_range
theorem Iy{T:Nat->LType}{txt:Nat->Nat->ByteArray}{i k:Nat}(h:k<(Cx T txt i).length):(Cx T txt i).getD k 0=(Cx T txt i)[k]:=by simp[List.getD,h]
theorem Ky{T:Nat->LType}{txt:Nat->Nat->ByteArray}{i k:Nat}(h:k<(Cx T txt i).length):(Cx T txt i).getD k 0<(T i).nf/\(txt (2+i) ((Cx T txt i).getD k 0)).size≠0:=by
 rw[Iy h];exact M2.1 (AW h)
theorem Qn{T:Nat->LType}{txt:Nat->Nat->ByteArray}{i k a:Nat}(h:k<(Cx T txt i).length)(b:a<(Cx T txt i).length)(e:(Cx T txt i).getD k 0=(Cx T txt i).getD a 0):k=a:=by
 rw[Iy h,Iy b]at e;have c:=List.pairwise_iff_getElem.1 (L9 T txt i);rcases Nat.lt_trichotomy k a with h1|h1|h1
 ·exact absurd e (c k a h b h1)
 ·exact h1
 ·exact absurd e.symm (c a k b h h1)
theorem Nx{T:Nat->LType}{txt:Nat->Nat->ByteArray}{i j:Nat}(h:j∈Cx T txt i):∃k,k<(Cx T txt i).length/\(Cx T txt i).getD k 0=j:=by
 obtain⟨k,hk,e⟩:=Bl h;exact⟨k,hk,by rw[Iy hk];exact e⟩
theorem Rel.pfind{n:Nat}{T:Nat->LType}{S:Nat->PSeen}{txt:Nat->Nat->ByteArray}(h:Rel n T S txt)(s:ByteArray):pl n (txt 1) s=pfind n S s:=Fv λi hi=>by rw[h.name i hi]
theorem Rel.fname{n:Nat}{T:Nat->LType}{S:Nat->PSeen}{txt:Nat->Nat->ByteArray}(h:Rel n T S txt){i k:Nat}(hi:i<n)(hk:k<(S i).nf):((S i).F k).name=txt (2+i) ((Cx T txt i).getD k 0):=by rw[h.F i hi k hk];rfl
theorem Rel.field{n:Nat}{T:Nat->LType}{S:Nat->PSeen}{txt:Nat->Nat->ByteArray}(h:Rel n T S txt)(hS:DB n S){t : Nat}(b:t<n){s:ByteArray}(hs:s.size≠0) :
  (pl (T t).nf (txt (2+t)) s<0↔BX (S t).nf (S t).F s<0)/\(¬BX (S t).nf (S t).F s<0->(Cx T txt t).getD (BX (S t).nf (S t).F s).toNat 0=(pl (T t).nf (txt (2+t)) s).toNat):=by
 have key : ¬BX (S t).nf (S t).F s<0->¬pl (T t).nf (txt (2+t)) s<0/\(Cx T txt t).getD (BX (S t).nf (S t).F s).toNat 0=(pl (T t).nf (txt (2+t)) s).toNat:=λhf=>by
  obtain⟨f1,o,-⟩:=Gy hf;generalize (BX (S t).nf (S t).F s).toNat=k at *;rw[h.fname b f1]at o;have p:k<(Cx T txt t).length:=by rw[<-h.nf t b];exact f1
  obtain⟨r,u⟩:=Ky p;have d : ¬pl (T t).nf (txt (2+t)) s<0:=λg=>Db.1 (Dq.1 g _ r) o;refine⟨d,?_⟩;obtain⟨q,j,-⟩:=Gn d;obtain⟨e,c,m⟩:=Nx (T:=T) (txt:=txt) (i:=t) (M2.2 ⟨q,by rw[j];exact hs⟩);have a:e<(S t).nf:=by rw[h.nf t b];exact c
  by_cases l:k=e
  ·rw[l];exact m
  ·exfalso
   have:=(hS.fld t b).ne f1 a l;refine this ?_;show ((S t).F k).name=((S t).F e).name;rw[h.fname b f1,h.fname b a,o,m,j]
 refine⟨⟨λd=>?_,λhf=>?_⟩,λhf=>(key hf).2⟩
 ·exact Classical.byContradiction λhf=>(key hf).1 d
 ·refine Classical.byContradiction λd=>?_
  obtain⟨q,j,-⟩:=Gn d;obtain⟨e,c,m⟩:=Nx (T:=T) (txt:=txt) (i:=t) (M2.2 ⟨q,by rw[j];exact hs⟩);have a:e<(S t).nf:=by rw[h.nf t b];exact c
  have:=Db.1 (Dq.1 hf e a);exact this (by rw[h.fname b a,m,j])
theorem NP{s:ByteArray}(h:s.size=0):s=⟨#[]⟩:=by
 cases s with|mk d=>exact congrArg ByteArray.mk (Array.eq_empty_of_size_eq_zero h)
theorem In{T:Nat->LType}{txt a:Nat->Nat->ByteArray}{i:Nat}(h:∀j,j<(T i).nf->((a (2+i) j).size=0↔(txt (2+i) j).size=0)):Cx T a i=Cx T txt i:=by
 unfold Cx;refine List.filter_congr λj b=>?_;unfold F4;have:=h j (by simpa using b);rw[decide_eq_decide.2 this]
theorem I4{n:Nat}{T:Nat->LType}{txt:Nat->Nat->ByteArray}(c:DB n (DK T))(h0:∀i,i<n->txt 0 i=(T i).name){i j:Nat}(hi:i<n)(d:j<(T i).nf)(hk:((T i).F j).kind≠1):(pl n (txt 0) ((T i).F j).type).toNat<n/\¬pl n (txt 0) ((T i).F j).type<0:=by
 rcases (c.fld i hi).fit j d with⟨h1,-⟩|⟨-,q,hq,e⟩
 ·exact absurd h1 hk
 ·have a : ¬pl n (txt 0) ((T i).F j).type<0:=λb=>Db.1 (Dq.1 b q hq) (by rw[h0 q hq];exact e)
  exact⟨(Gn a).1,a⟩
theorem Rv{n t:Nat}{T:Nat->LType}{S:Nat->PSeen}{txt:Nat->Nat->ByteArray}{to:ByteArray}(h:Rel n T S txt)(hS:DB n S)(o:DB n (DK T))(c:t<n):Rel n T (L6 S t to) (DP txt 1 t to):=by
 have e2:∀i j,DP txt 1 t to (2+i) j=txt (2+i) j:=λi j=>by unfold DP;rw[Ae (by omega)]
 have l:∀j,DP txt 1 t to 0 j=txt 0 j:=λj=>by unfold DP;rw[Ae (by omega)]
 have e1:∀j,DP txt 1 t to 1 j=if j=t then to else txt 1 j:=λj=>by unfold DP;by_cases e:j=t<;>simp[e]
 have d:∀i,Cx T (DP txt 1 t to) i=Cx T txt i:=λi=>In λj _=>by rw[e2]
 have p:∀s,pl n (DP txt 1 t to 0) s=pl n (txt 0) s:=λs=>Fv λj _=>by rw[l]
 refine⟨λi hi=>by rw[l];exact h.own0 i hi,λi hi=>?_,h.own,λi hi=>by rw[d];exact h.nf i hi,λi hi k hk=>?_,λi hi k hk=>by rw[d];exact h.O i hi k hk⟩
 ·show (if i=t then to else (S i).name)=_
  rw[e1,h.name i hi]
 ·rw[d]
  show Ed (S t).name to ((S i).F k)=_;rw[h.F i hi k hk];have g:k<(Cx T txt i).length:=by rw[<-h.nf i hi];exact hk
  obtain⟨r,u⟩:=Ky g;generalize (Cx T txt i).getD k 0=j at *;unfold Hx Ed;rw[e2,p]
  by_cases a:((T i).F j).kind=1
  ·simp only[a,Af]
   have:eqs (⟨#[]⟩:ByteArray) (S t).name=false:=Db.2 λe=>FP (hS.nam t c) (by rw[<-e];rfl);rw[this];rfl
  ·obtain⟨m,-⟩:=I4 o h.own0 hi r a
   simp only[a,Bd];generalize (pl n (txt 0) ((T i).F j).type).toNat=q at *;rw[e1]
   by_cases b:q=t
   ·rw[b,Af rfl,h.name t c]
    have:eqs (txt 1 t) (txt 1 t)=true:=Ch.2 rfl;rw[Af this]
   ·rw[Ae b]
    have:eqs (txt 1 q) (S t).name=false:=Db.2 λe=>by
     rw[<-h.name q m]at e;exact hS.ne m c b e
    rw[this];rfl
theorem QL{n t f g:Nat}{T:Nat->LType}{S:Nat->PSeen}{txt:Nat->Nat->ByteArray}{to:ByteArray}(h:Rel n T S txt)(v:t<n)(hf:f<(S t).nf)(hg:(Cx T txt t).getD f 0=g)(l:to.size≠0):Rel n T (LW S t f to) (DP txt (2+t) g to):=by
 have d:f<(Cx T txt t).length:=by rw[<-h.nf t v];exact hf
 have m:(txt (2+t) g).size≠0:=by rw[<-hg];exact(Ky d).2
 have u:∀j,DP txt (2+t) g to 0 j=txt 0 j:=λj=>by unfold DP;rw[Ae (by omega)]
 have e1:∀j,DP txt (2+t) g to 1 j=txt 1 j:=λj=>by unfold DP;rw[Ae (by omega)]
 have e2:∀i j,DP txt (2+t) g to (2+i) j=if i=t/\j=g then to else txt (2+i) j:=λi j=>by
  unfold DP
  by_cases e:i=t
  ·simp[e]
  ·rw[Ae (by omega),Ae (λa=>e a.1)]
 have o:∀i,Cx T (DP txt (2+t) g to) i=Cx T txt i:=λi=>In λj _=>by
  rw[e2]
  by_cases e:i=t/\j=g
  ·rw[Af e,e.1,e.2];exact⟨λa=>absurd a l,λa=>absurd a m⟩
  ·rw[Ae e]
 have p:∀s,pl n (DP txt (2+t) g to 0) s=pl n (txt 0) s:=λs=>Fv λj _=>by rw[u]
 refine⟨λi hi=>by rw[u];exact h.own0 i hi,λi hi=>by rw[e1];exact h.name i hi,h.own,λi hi=>by rw[o];exact h.nf i hi,λi hi k hk=>?_,λi hi k hk=>by rw[o];exact h.O i hi k hk⟩;rw[o];show (if i=t then (λj=>if j=f then { (S t).F j with name:=to } else (S t).F j) else (S i).F) k=_
 have b:k<(S i).nf:=hk
 by_cases Fx:i=t
 ·subst Fx
  rw[Af rfl]
  by_cases c:k=f
  ·subst c
   simp only[Af];rw[h.F i hi k b,hg];have e3:DP txt (2+i) g to (2+i) g=to:=by rw[e2,Af ⟨rfl,rfl⟩]
   unfold Hx;rw[e3,p];simp only[e1]
  ·simp only[c,Bd]
   rw[h.F i hi k b];have q:k<(Cx T txt i).length:=by rw[<-h.nf i hi];exact b
   have r:(Cx T txt i).getD k 0≠g:=λe=>c (Qn q d (e.trans hg.symm));have e3:DP txt (2+i) g to (2+i) ((Cx T txt i).getD k 0)=txt (2+i) ((Cx T txt i).getD k 0):=by rw[e2,Ae (λa=>r a.2)]
   unfold Hx;rw[e3,p];simp only[e1]
 ·rw[Ae Fx,h.F i hi k b]
  have e3:DP txt (2+t) g to (2+i) ((Cx T txt i).getD k 0)=txt (2+i) ((Cx T txt i).getD k 0):=by rw[e2,Ae (λa=>Fx a.1)]
  unfold Hx;rw[e3,p];simp only[e1]
theorem MR{l:List Nat}(hn:l.Nodup){k:Nat}(hk:k<l.length):l.filter (λj => !decide (j=l[k]))=l.eraseIdx k:=by
 induction l generalizing k with
 |nil=>simp at hk
 |cons x c ih =>
  obtain⟨h1,h2⟩:=List.nodup_cons.1 hn
  cases k with
  |zero =>
   simp only[List.getElem_cons_zero,List.eraseIdx_cons_zero];rw[Bo (by simp)];rw[List.filter_eq_self];intro a ha;have:a≠x:=λe=>h1 (by rw[<-e];exact ha);simp[this]
  |succ k =>
   have b:k<c.length:=by simpa using hk
   simp only[List.getElem_cons_succ,List.eraseIdx_cons_succ];have hx:x≠c[k]:=λe=>h1 (by rw[e];exact AW b);rw[Bp (by simp[hx]),ih h2 b]
theorem SL{n t f g:Nat}{T:Nat->LType}{S:Nat->PSeen}{txt:Nat->Nat->ByteArray}(h:Rel n T S txt)(u:t<n)(hf:f<(S t).nf)(hg:(Cx T txt t).getD f 0=g):Rel n T (DO S t f) (DP txt (2+t) g ⟨#[]⟩):=by
 have d:f<(Cx T txt t).length:=by rw[<-h.nf t u];exact hf
 have x:∀j,DP txt (2+t) g ⟨#[]⟩ 0 j=txt 0 j:=λj=>by unfold DP;rw[Ae (by omega)]
 have e1:∀j,DP txt (2+t) g ⟨#[]⟩ 1 j=txt 1 j:=λj=>by unfold DP;rw[Ae (by omega)]
 have e2:∀i j,DP txt (2+t) g ⟨#[]⟩ (2+i) j=if i=t/\j=g then ⟨#[]⟩ else txt (2+i) j:=λi j=>by
  unfold DP
  by_cases e:i=t
  ·simp[e]
  ·rw[Ae (by omega),Ae (λp=>e p.1)]
 have z:∀s,pl n (DP txt (2+t) g ⟨#[]⟩ 0) s=pl n (txt 0) s:=λs=>Fv λj _=>by rw[x]
 have v:∀i,i≠t->Cx T (DP txt (2+t) g ⟨#[]⟩) i=Cx T txt i:=λi Fx=>In λj _=>by rw[e2,Ae (λp=>Fx p.1)]
 have et:Cx T (DP txt (2+t) g ⟨#[]⟩) t=(Cx T txt t).eraseIdx f:=by
  rw[<-MR (L9 T txt t) d,<-Iy d,hg];unfold Cx;rw[List.filter_filter];refine List.filter_congr λj _=>?_;unfold F4;rw[e2]
  by_cases e:j=g
  ·rw[Af ⟨rfl,e⟩];simp[e];rfl
  ·rw[Ae (λp=>e p.2)];simp[e]
 have y:∀k,k<(S t).nf - 1->((Cx T txt t).eraseIdx f).getD k 0=(Cx T txt t).getD (skip f k) 0:=λk hk=>by
  unfold skip;simp only[List.getD,List.getElem?_eraseIdx]
  by_cases l:k<f
  ·rw[Af l,Af l]
  ·rw[Ae l,Ae l]
 have m:∀k,k<(S t).nf - 1->skip f k<(S t).nf/\skip f k≠f:=λk hk=>by unfold skip;split<;>omega
 have q:((Cx T txt t).eraseIdx f).length=(S t).nf - 1:=by rw[List.length_eraseIdx,Af d,<-h.nf t u]
 have w:∀i k,i<n->k<(S i).nf->(i=t->k≠f)->DP txt (2+t) g ⟨#[]⟩ (2+i) ((Cx T txt i).getD k 0)=txt (2+i) ((Cx T txt i).getD k 0):=λi k hi hk o=>by
  rw[e2,Ae];rintro⟨rfl,e⟩;exact o rfl (Qn (by rw[<-h.nf i hi];exact hk) d (e.trans hg.symm))
 have r:∀i k,i<n->k<(S i).nf->(i=t->k≠f)->Hx n T (DP txt (2+t) g ⟨#[]⟩) i ((Cx T txt i).getD k 0)=Hx n T txt i ((Cx T txt i).getD k 0):=λi k hi hk o=>by
  have e3:=w i k hi hk o;unfold Hx;rw[e3,z];simp only[e1]
 have b:DO S t f t = { S t with nf:=(S t).nf - 1,F:=λj=>(S t).F (skip f j),O:=λj=>(S t).O (skip f j) }:=by unfold DO;rw[Af rfl]
 have c:∀i,i≠t->DO S t f i=S i:=λi hi=>by unfold DO;rw[Ae hi]
 refine⟨λi hi=>by rw[x];exact h.own0 i hi,λi hi=>?_,λi hi=>?_,λi hi=>?_,λi hi k hk=>?_,λi hi k hk=>?_⟩
 ·rw[e1,<-h.name i hi]
  by_cases e:i=t
  ·rw[e,b]
  ·rw[c i e]
 ·by_cases e:i=t
  ·rw[e,b];exact h.own t u
  ·rw[c i e];exact h.own i hi
 ·by_cases e:i=t
  ·rw[e,b,et,q]
  ·rw[c i e,v i e];exact h.nf i hi
 ·by_cases e:i=t
  ·subst e
   rw[b]at hk ⊢;have a:k<(S i).nf - 1:=hk;rw[et,y k a,r i (skip f k) hi (m k a).1 (λ_=>(m k a).2)];exact h.F i hi _ (m k a).1
  ·rw[c i e]at hk ⊢
   rw[v i e,r i k hi hk (λA=>absurd A e)];exact h.F i hi k hk
 ·by_cases e:i=t
  ·subst e
   rw[b]at hk ⊢;have a:k<(S i).nf - 1:=hk;rw[et,y k a];exact h.O i hi _ (m k a).1
  ·rw[c i e]at hk ⊢
   rw[v i e];exact h.O i hi k hk
theorem Om{n:Nat}{T:Nat->LType}{S:Nat->PSeen}{txt:Nat->Nat->ByteArray}(h:Rel n T S txt)(hS:DB n S)(s:DB n (DK T))(c:PChange) :
  (GW n (Cj n T) txt c).1=(EF n S c).1/\Rel n T (EF n S c).2 (GW n (Cj n T) txt c).2:=by
 unfold GW EF;rw[h.pfind]
 by_cases h0:c.kind≠1/\c.kind≠2/\c.kind≠3
 ·rw[Af h0,Af h0];exact⟨rfl,h⟩
 rw[Ae h0,Ae h0]
 by_cases h1:Go.Proofs.YtjjggefmmeminabGreat.pfind n S c.type<0
 ·rw[Af h1,Af h1];exact⟨rfl,h⟩
 rw[Ae h1,Ae h1];obtain⟨b,-,-⟩:=GC h1;generalize (Go.Proofs.YtjjggefmmeminabGreat.pfind n S c.type).toNat=t at *
 by_cases h2:c.kind=1
 ·rw[Af h2,Af h2]
  unfold EE;rw[h.pfind]
  by_cases h3:(!Cb c.to||decide (0<=Go.Proofs.YtjjggefmmeminabGreat.pfind n S c.to))=true
  ·rw[Af h3,Af h3];exact⟨rfl,h⟩
  ·rw[Ae h3,Ae h3];exact⟨rfl,Rv h hS s b⟩
 ·rw[Ae h2,Ae h2]
  have d:Cj n T (2+t)=(T t).nf:=by
   unfold Cj;rw[Ae (by omega),show 2+t - 2=t by omega]
  unfold Qh FH;rw[d]
  by_cases a:c.field.size=0
  ·have j:BX (S t).nf (S t).F c.field<0:=Q8 λi hi e=>FP ((hS.fld t b).nam i hi) (by show ((S t).F i).name.size=0;rw[e];exact a)
   rw[Af (.inr a),Af j];exact⟨rfl,h⟩
  obtain⟨k,o⟩:=h.field hS b a
  by_cases h3:BX (S t).nf (S t).F c.field<0
  ·rw[Af (.inl (k.2 h3)),Af h3];exact⟨rfl,h⟩
  rw[Ae (λu=>u.elim (λp=>h3 (k.1 p)) a),Ae h3];obtain⟨hf,-,-⟩:=Gy h3;have hg:=o h3;generalize (BX (S t).nf (S t).F c.field).toNat=f at *;generalize (pl (T t).nf (txt (2+t)) c.field).toNat=g at *
  by_cases h4:c.kind=2
  ·rw[Ae (by omega),Af h4]
   unfold Et
   cases l:Cb c.to with
   |false=>simp only[Bool.not_false,Bool.true_or,Af];exact⟨AM,h⟩
   |true =>
    obtain⟨m,-⟩:=h.field hS b (FP l)
    by_cases v:0<=BX (S t).nf (S t).F c.to
    ·have q:0<=pl (T t).nf (txt (2+t)) c.to:=by
      by_cases r:pl (T t).nf (txt (2+t)) c.to<0
      ·have:=m.1 r;omega
      ·omega
     rw[Af (show (!true||decide (0<=pl (T t).nf (txt (2+t)) c.to))=true by simp[q]),Af (show (!true||decide (0<=BX (S t).nf (S t).F c.to))=true by simp[v])];exact⟨rfl,h⟩
    ·have q : ¬0<=pl (T t).nf (txt (2+t)) c.to:=λr=>by
      have:=m.2 (by omega);omega
     rw[Ae (show ¬(!true||decide (0<=pl (T t).nf (txt (2+t)) c.to))=true by simp;omega),Ae (show ¬(!true||decide (0<=BX (S t).nf (S t).F c.to))=true by simp;omega)];exact⟨rfl,QL h b hf hg (FP l)⟩
  ·rw[Af (by omega),Ae h4]
   exact⟨rfl,SL h b hf hg⟩
theorem SD{n:Nat}{T:Nat->LType}(c:DB n (DK T)):Rel n T (DK T) (Co T):=by
 have e2:∀i j,Co T (2+i) j=((T i).F j).name:=λi j=>by unfold Co;rw[Ae (by omega),show 2+i - 2=i by omega]
 have e1:∀j,Co T 1 j=(T j).name:=λj=>by unfold Co;rw[Af (by decide)]
 have d:∀j,Co T 0 j=(T j).name:=λj=>by unfold Co;rw[Af (by decide)]
 have g:∀i,i<n->Cx T (Co T) i=List.range (T i).nf:=λi hi=>by
  unfold Cx;rw[List.filter_eq_self];intro j m;unfold F4;rw[e2];have:=FP ((c.fld i hi).nam j (show j<(T i).nf by simpa using m));have o:((T i).F j).name.size≠0:=this;rw[AY o];rfl
 have h:∀i,i<n->∀k,k<(T i).nf->(Cx T (Co T) i).getD k 0=k:=λi hi k hk=>by rw[g i hi];simp[List.getD,hk]
 refine⟨λi _=>d i,λi _=>(e1 i).symm,λi _=>rfl,λi hi=>by rw[g i hi];simp[DK],λi hi k hk=>?_,λi hi k hk=>?_⟩
 ·have a:k<(T i).nf:=hk
  rw[h i hi k a];show (T i).F k=Hx n T (Co T) i k;unfold Hx;rw[e2];have b:=(c.fld i hi).fit k a
  by_cases h1:((T i).F k).kind=1
  ·rw[Af h1]
   rcases b with⟨-,h2⟩|⟨h2,-⟩
   ·have:=NP h2
    have h3:((T i).F k).type=⟨#[]⟩:=this;rw[<-h3]
   ·have h3:((T i).F k).kind=2\/((T i).F k).kind=3:=h2
    omega
  ·rw[Ae h1,e1]
   have e:=(I4 c (λi _=>d i) hi a h1).2;obtain⟨-,l,-⟩:=Gn e;rw[d]at l;rw[l]
 ·have a:k<(T i).nf:=hk
  rw[h i hi k a];rfl
theorem J0{n:Nat}{T:Nat->LType}{C:Nat->PChange}(a:DB n (DK T)):∀k,Rel n T (Hu n (DK T) C k) (II n (Cj n T) (Co T) C k)
 | 0=>SD a
 | k+1=>(Om (J0 a k) (D2 a k) a (C k)).2
theorem NO{n m:Nat}{T:Nat->LType}{C:Nat->PChange}:JK n T m C=EZ n T m C:=by
 unfold JK EZ
 by_cases h:(CD n T).1≠0
 ·rw[Af h,Af h]
 ·rw[Ae h,Ae h]
  by_cases h2:12<m
  ·rw[Af h2,Af h2]
  ·rw[Ae h2,Ae h2]
   have a:DB n (DK T):=Hj.1 (Decidable.not_not.1 h);exact N9 λj _=>(Om (J0 a j) (D2 a j) a (C j)).1
end Go.Proofs.YtjjggefmmeminabGreat
