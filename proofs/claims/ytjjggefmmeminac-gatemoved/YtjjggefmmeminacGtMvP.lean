import Derived.Test.YtjjggefmmeminacGtMov
import Derived.Test.YtjjggefmmeminacMgServRow
namespace Go.Proofs.Ytjjggefmmeminac
open Go.RowKit Go.Sort Go.PlainAid
def tailA (a:Option Addr) (c k:Nat):Option Addr:=if c=k then a else Option.map (fun x=>x.add (k * 3)) a
def xTy (t:LType) (k:Nat):LType:=⟨t.name,t.fa,k,t.fcap,t.F⟩
def yTy (t:LType) (k:Nat):LType:=⟨t.name,tailA t.fa t.fcap k,t.nf - k,t.fcap - k,fun q=>t.F (k + q)⟩
def xTh (x:LThing) (k:Nat):LThing:=⟨x.type,x.key,x.va,k,x.vcap,x.V⟩
def yTh (x:LThing) (k:Nat):LThing:=⟨x.type,x.key,tailA x.va x.vcap k,x.nv - k,x.vcap - k,fun q=>x.V (k + q)⟩
def halfS (ta:Option Addr) (tc:Nat) (xa:Option Addr) (xc:Nat) (s:LServ) (T:Nat→LType) (X:Nat→LThing):LServ:=⟨ta,s.nt,tc,T,none,0,0,fun _=>⟨0,⟨#[]⟩,⟨#[]⟩,⟨#[]⟩⟩,xa,s.nx,xc,X⟩
def mvV (V:Nat→LServ) (n c0:Nat) (sx sy:LServ) (i:Nat):LServ:=if i=c0 then sx else if i=n then sy else V i
theorem split_of {n c0:Nat} {V:Nat→LServ} {kt:Nat→Nat} {c:ByteArray→Nat} {ta tb xa xb:Option Addr} {tc td xc xd:Nat} (hc0:c0 < n) (h0:(allF n V).1=0) (hnc:(V c0).nc=0) (hkt:∀ j,j < (V c0).nt→kt j≤((V c0).T j).nf) (hc:∀ j,j < (V c0).nt→c ((V c0).T j).name=kt j) :
  Split n c0 V (mvV V n c0 (halfS ta tc xa xc (V c0) (fun j=>xTy ((V c0).T j) (kt j)) (fun i=>xTh ((V c0).X i) (c ((V c0).X i).type))) (halfS tb td xb xd (V c0) (fun j=>yTy ((V c0).T j) (kt j)) (fun i=>yTh ((V c0).X i) (c ((V c0).X i).type)))) kt:=by
 have ex:∀ sx sy,mvV V n c0 sx sy c0=sx:=fun sx sy=>if_pos rfl
 have ey:∀ sx sy,mvV V n c0 sx sy n=sy:=fun sx sy=>by unfold mvV; rw [if_neg (by omega),if_pos rfl]
 have hth:=((wrongF_ok (allF_wrong h0)).2 c0 hc0).2
 have find_c:∀ i,∀ t:Nat,find (V c0).nt (V c0).T ((V c0).X i).type=(t:Int)→t < (V c0).nt∧c ((V c0).X i).type=kt t:=fun i t ht=>by
  have h1:=idx_in (p:=fun k=>eqs ((V c0).T k).name ((V c0).X i).type) (n:=(V c0).nt) (by have h':idx (V c0).nt (fun k=>eqs ((V c0).T k).name ((V c0).X i).type)=(t:Int):=ht; omega)
  have h':idx (V c0).nt (fun k=>eqs ((V c0).T k).name ((V c0).X i).type)=(t:Int):=ht
  rw [h',Int.toNat_natCast] at h1
  refine ⟨h1.1,?_⟩
  rw [← eqs_iff.1 h1.2]
  exact hc t h1.1
 have hnv:∀ i,i < (V c0).nx→∀ t:Nat,find (V c0).nt (V c0).T ((V c0).X i).type=(t:Int)→((V c0).X i).nv=((V c0).T t).nf:=fun i hi t ht=>by
  obtain ⟨-,⟨t',ht'⟩,-⟩:=thing_right hth hi
  have h1:=ht'.find
  rw [ht] at h1
  have e:t=t':=by omega
  rw [e]; exact ht'.nv
 refine ⟨hc0,fun q hq hne=>?_,hnc,by rw [ex]; rfl,by rw [ey]; rfl,by rw [ex]; rfl,by rw [ey]; rfl,hkt,fun j hj=>?_,fun j hj=>?_,by rw [ex]; rfl,by rw [ey]; rfl,fun i hi=>?_,fun i hi=>?_⟩
 ·unfold mvV; rw [if_neg hne,if_neg (by omega)]
 ·rw [ex]
  exact ⟨rfl,rfl,fun q _=>by rw [Nat.zero_add]; rfl⟩
 ·rw [ey]
  exact ⟨rfl,rfl,fun q _=>rfl⟩
 ·rw [ex]
  refine ⟨rfl,rfl,fun t ht=>⟨?_,fun q _=>by rw [Nat.zero_add]; rfl⟩⟩
  exact (find_c i t ht).2
 ·rw [ey]
  refine ⟨rfl,rfl,fun t ht=>?_⟩
  obtain ⟨-,e2⟩:=find_c i t ht
  have e3:=hnv i hi t ht
  refine ⟨?_,fun q _=>?_⟩
  ·show ((V c0).X i).nv - c ((V c0).X i).type=_
   rw [e2,e3]
  ·show ((V c0).X i).V (c ((V c0).X i).type + q)=_
   rw [e2]
theorem add3 (b o k:Nat):(⟨b,o,none⟩:Addr).add k=⟨b,o + k,none⟩:=WideShapes.add_plain ..
theorem FieldsAt.head {w:World} {a:Option Addr} {n k:Nat} {F:Nat→LField} (h:FieldsAt w a n F) (hk:k≤n):FieldsAt w a k F:=⟨Nat.le_trans hk h.1,fun i hi=>h.2 i (by omega)⟩
theorem FieldsAt.tail {w:World} {a:Option Addr} {n c k:Nat} {F:Nat→LField} (h:FieldsAt w a n F) (hk:k≤n) (hc:n≤c):FieldsAt w (tailA a c k) (n - k) (fun q=>F (k + q)):=⟨Nat.le_trans (Nat.sub_le _ _) h.1,fun i hi=>by
 obtain ⟨b,o,e,hf⟩:=h.2 (k + i) (by omega)
 refine ⟨b,o + k * 3,?_,?_⟩
 ·unfold tailA; rw [if_neg (by omega),e]; exact congrArg some (add3 b o (k * 3))
 ·rw [show o + k * 3 + i * 3=o + (k + i) * 3 by omega]; exact hf⟩
theorem ValsAt.head {w:World} {a:Option Addr} {n k:Nat} {F:Nat→LVal} (h:ValsAt w a n F) (hk:k≤n):ValsAt w a k F:=⟨Nat.le_trans hk h.1,fun i hi=>h.2 i (by omega)⟩
theorem ValsAt.tail {w:World} {a:Option Addr} {n c k:Nat} {F:Nat→LVal} (h:ValsAt w a n F) (hk:k≤n) (hc:n≤c):ValsAt w (tailA a c k) (n - k) (fun q=>F (k + q)):=⟨Nat.le_trans (Nat.sub_le _ _) h.1,fun i hi=>by
 obtain ⟨b,o,e,hf⟩:=h.2 (k + i) (by omega)
 refine ⟨b,o + k * 3,?_,?_⟩
 ·unfold tailA; rw [if_neg (by omega),e]; exact congrArg some (add3 b o (k * 3))
 ·rw [show o + k * 3 + i * 3=o + (k + i) * 3 by omega]; exact hf⟩
def thCell (X:Nat→LThing) (j:Nat):Value:=if j % 3=0 then .string (X (j / 3)).type else if j % 3=1 then .string (X (j / 3)).key else .slice (X (j / 3)).va (X (j / 3)).nv (X (j / 3)).vcap
theorem thCells_snoc (X:Nat→LThing) (k:Nat):(List.range ((k + 1) * 3)).map (thCell X)=(List.range (k * 3)).map (thCell X) ++ [.string (X k).type,.string (X k).key,.slice (X k).va (X k).nv (X k).vcap]:=by
 rw [show (k + 1) * 3=k * 3 + 1 + 1 + 1 by omega,List.range_succ,List.range_succ,List.range_succ]
 simp only [List.map_append,List.map_cons,List.map_nil,List.append_assoc]
 unfold thCell
 rw [if_pos (show k * 3 % 3=0 by omega),if_neg (show ¬ (k * 3 + 1) % 3=0 by omega),if_pos (show (k * 3 + 1) % 3=1 by omega),if_neg (show ¬ (k * 3 + 1 + 1) % 3=0 by omega),if_neg (show ¬ (k * 3 + 1 + 1) % 3=1 by omega),show k * 3 / 3=k by omega,show (k * 3 + 1) / 3=k by omega,show (k * 3 + 1 + 1) / 3=k by omega]
 rfl
theorem tyCells_snoc (T:Nat→LType) (k:Nat):(List.range ((k + 1) * 2)).map (typeCell T)=(List.range (k * 2)).map (typeCell T) ++ [.string (T k).name,.slice (T k).fa (T k).nf (T k).fcap]:=typeCells_succ T k
theorem row_things {w:World} {B n:Nat} {v:Value} {X:Nat→LThing} (h:Row w B 59 3 v n (thCell X)) (hn:n≤maxLen) (hg:∀ i,i < n→(X i).nv≤(X i).vcap∧Small (X i).type∧Small (X i).key∧ValsAt w (X i).va (X i).nv (X i).V):∃ a cap,v = .slice a n cap∧n≤cap∧ThingsAt w a n X:=by
 rcases h.shape with ⟨rfl,rfl⟩ | ⟨g,cap,rfl,-,hc,-⟩
 ·exact ⟨none,0,rfl,Nat.le_refl _,Nat.zero_le _,fun i hi=>absurd hi (Nat.not_lt_zero _)⟩
 ·refine ⟨_,cap,rfl,hc,hn,fun i hi=>⟨g,0,rfl,?_,?_,?_,hg i hi⟩⟩
  ·rw [h.cell (by omega),Nat.zero_add]; unfold thCell; rw [if_pos (by omega),show i * 3 / 3=i by omega]
  ·rw [h.cell (by omega),Nat.zero_add]; unfold thCell; rw [if_neg (by omega),if_pos (by omega),show (i * 3 + 1) / 3=i by omega]
  ·rw [h.cell (by omega),Nat.zero_add]; unfold thCell; rw [if_neg (by omega),if_neg (by omega),show (i * 3 + 2) / 3=i by omega]
theorem row_types {w:World} {B n:Nat} {v:Value} {T:Nat→LType} (h:Row w B 50 2 v n (typeCell T)) (hn:n≤maxLen) (hg:∀ i,i < n→(T i).nf≤(T i).fcap∧Small (T i).name∧FieldsAt w (T i).fa (T i).nf (T i).F):∃ a cap,v = .slice a n cap∧n≤cap∧TypesAt w a n T:=owns_types h hn hg
end Go.Proofs.Ytjjggefmmeminac
