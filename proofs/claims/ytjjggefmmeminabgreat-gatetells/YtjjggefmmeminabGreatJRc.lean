import Derived.Test.YtjjggefmmeminabGreatJBase
namespace Go.Proofs.YtjjggefmmeminabGreat
open Go.RowKit
def DR (E:List Nat) (L:Nat->Bool):Nat:=(E.filter L).length
theorem IG{E:List Nat}{L:Nat->Bool}{i:Nat}(h:E.contains i=false):DR E (DJ L i)=DR E L:=by
 unfold DR;rw[List.filter_congr λx hx=>Dr (L:=L) (i:=i) (k:=x) λe=>?_];subst e;rw[Bz,Bh]at h;exact h hx
theorem Na{e:Nat}{L:Nat->Bool}(c:L e=false):∀{E:List Nat},E.Nodup->e∈E->DR E (DJ L e)=DR E L+1
 | [],_,h=>by cases h
 | x :: E,hn,h=>by
  have hx:=List.nodup_cons.1 hn
  by_cases b:x=e
  ·subst b
   have h1:DR E (DJ L x)=DR E L:=IG (by rw[Bz,Bh];exact hx.1);unfold DR at h1 ⊢;rw[Bp (by exact IT),Bo (by rw[c];decide),AP,h1]
  ·have d:e∈E:=by
    rcases List.mem_cons.1 h with h|h
    ·exact absurd h.symm b
    ·exact h
   have h1:=Na c hx.2 d;unfold DR at h1 ⊢
   cases a:L x with
   |true=>rw[Bp (by rw[Dr b];exact a),Bp a,AP,AP,h1]
   |false=>rw[Bo (by rw[Dr b,a];decide),Bo (by rw[a];decide),h1]
theorem CS{E:List Nat}{L:Nat->Bool}{e:Nat}(he:e∈E)(h:L e=false):DR E L<E.length:=by
 unfold DR;exact List.length_filter_lt_length_iff_exists.2 ⟨e,he,by rw[h];decide⟩
theorem EW{E:List Nat}{L:Nat->Bool}(h:∀e,e∈E->L e=true):DR E L=E.length:=by
 unfold DR;rw[List.filter_eq_self.2 h]
theorem Nm(E:List Nat):DR E (λ_=>false)=0:=by
 unfold DR;rw[List.filter_eq_nil_iff.2 (λ_ _=>by decide)];rfl
def DS (E a:List Nat) (P:Nat->(Nat->Value)->World->Prop) (L:Nat->Bool) (s:Nat->Value) (w:World):Prop:=P (DR E L) (λi=>s (a.getD i 0)) w
theorem DS.start{E a:List Nat}{P:Nat->(Nat->Value)->World->Prop}{s:Nat->Value}{w:World}(h:P 0 (λi=>s (a.getD i 0)) w):DS E a P (λ_=>false) s w:=by
 unfold DS;rw[Nm];exact h
theorem DS.read{E a:List Nat}{P:Nat->(Nat->Value)->World->Prop}{L:Nat->Bool}{s:Nat->Value}{w:World}(h:DS E a P L s w){i d:Nat}(hi:E.contains i=false)(b:(0 :: a).contains d=false)(v:Value):DS E a P (DJ L i) (ED s (some d) v) w:=by
 unfold DS at *;rw[IG hi];have e:(λi=>ED s (some d) v (a.getD i 0))=λi=>s (a.getD i 0):=by
  funext j;refine Cw λe=>?_;rw[Bz,Bh]at b;refine b ?_;rw[<-e,AT]
  cases c:a[j]? with
  |none=>simp
  |some y=>exact List.mem_cons_of_mem _ (BP c)
 rw[e];exact h
theorem zr{P:Program}{o:Oper}{s:Nat->Value}{w:World}{E b:List Nat}{R:Nat->(Nat->Value)->World->Prop}{L:Nat->Bool}{i d:Nat}{l:List Oper}{a:List Nat}{V:List Value}{c:Nat->Nat}(v:Value)(g:o.dst=some d)(hi:E.contains i=false)(hx:(0::b).contains d=false)(hv:It a V (DJ L i) i (D7 l (ED s o.dst v) i) w)(j:DS E b R L s w)(m:(execOp (BV s) o).run P w= .ok (.value v) w):Eb P o s w (λe w'=>DS E b R (DJ L i) e w'/\It a V (DJ L i) i (D7 l e i) w'/\∀k,k≠i->L k=true->Fc c (DJ L i) k->It a V L k (D7 l s k) w->It a V (DJ L i) k (D7 l s k) w'):=
 BU m ⟨by rw[g];exact j.read hi hx _,hv,λ_ _ _ _ h=>h⟩
theorem DS.eff{E a:List Nat}{P:Nat->(Nat->Value)->World->Prop}{L:Nat->Bool}{b:Nat->Value}{w':World}{e j:Nat}(c:E.Nodup)(he:e∈E)(d:L e=false)(g:DR E L=j)(h:P (j+1) (λi=>b (a.getD i 0)) w'):DS E a P (DJ L e) b w':=by
 unfold DS;rw[Na d c he,g];exact h
def Mh (b sa:Nat) (L:Nat->Bool) (s:Nat->Value):Option Nat:=if L b=true then (match s sa with
 | .pointer (some a)=>some a.block
 | _=>none) else none
def NZ (E c:List Nat) (a sa:Nat) (P:Nat->(Nat->Value)->Option Nat->World->Prop) (L:Nat->Bool) (s:Nat->Value) (w:World):Prop :=
 (L a=true->∃b,s sa= .pointer (some ⟨b,0,none⟩))/\P (DR E L) (λi=>s (c.getD i 0)) (Mh a sa L s) w
theorem NZ.start{E a:List Nat}{b sa:Nat}{P:Nat->(Nat->Value)->Option Nat->World->Prop}{s:Nat->Value}{w:World}(h:P 0 (λi=>s (a.getD i 0)) none w):NZ E a b sa P (λ_=>false) s w:=by
 refine⟨(λh=>by cases h),?_⟩;rw[Nm];exact h
theorem Qo{a:List Nat}{d:Nat}(b:(0 :: a).contains d=false)(j:Nat):a.getD j 0≠d:=λe=>by
 rw[Bz,Bh]at b;refine b ?_;rw[<-e,AT]
 cases c:a[j]? with
 |none=>simp
 |some y=>exact List.mem_cons_of_mem _ (BP c)
theorem Oj{a sa i:Nat}{L:Nat->Bool}{s b:Nat->Value}(hi:a≠i)(hs:b sa=s sa):Mh a sa (DJ L i) b=Mh a sa L s:=by
 unfold Mh;rw[Dr hi,hs]
theorem NZ.read{E a:List Nat}{g sa:Nat}{P:Nat->(Nat->Value)->Option Nat->World->Prop}{L:Nat->Bool}{s:Nat->Value}{w:World}(h:NZ E a g sa P L s w){i d:Nat}(hi:(g :: E).contains i=false)(k:(0 :: sa :: a).contains d=false)(v:Value):NZ E a g sa P (DJ L i) (ED s (some d) v) w:=by
 obtain⟨h1,h2⟩:=h;rw[Bz,Bh]at hi k;have b:g≠i:=λe=>hi (by rw[e];simp);have c:sa≠d:=λe=>k (by rw[e];simp);have m:E.contains i=false:=by rw[Bz,Bh];exact λh=>hi (by simp[h])
 have hx:(0 :: a).contains d=false:=by
  rw[Bz,Bh];intro h;rcases List.mem_cons.1 h with h|h
  ·exact k (by simp[h])
  ·exact k (by simp[h])
 refine⟨λl=>?_,?_⟩
 ·rw[Dr b]at l
  rw[Cw c];exact h1 l
 ·rw[IG m,Oj b (Cw c)]
  have e:(λi=>ED s (some d) v (a.getD i 0))=λi=>s (a.getD i 0):=funext λj=>Cw (Qo hx j);rw[e];exact h2
theorem NZ.alloc{E b:List Nat}{a sa:Nat}{P:Nat->(Nat->Value)->Option Nat->World->Prop}{L:Nat->Bool}{s:Nat->Value}{w:World}(h:NZ E b a sa P L s w)(c:L a=false)(hi:E.contains a=false)(d:(0 :: b).contains sa=false){o:Obj}(g:∀j x,P j x none w->P j x (some w.heap.size) (w.alloc o)):NZ E b a sa P (DJ L a) (ED s (some sa) (.pointer (some ⟨w.heap.size,0,none⟩))) (w.alloc o):=by
 obtain⟨-,h2⟩:=h;refine⟨λ_=>⟨w.heap.size,CJ⟩,?_⟩;have k:Mh a sa L s=none:=by unfold Mh;rw[c];rfl
 have e1:Mh a sa (DJ L a) (ED s (some sa) (.pointer (some ⟨w.heap.size,0,none⟩)))=some w.heap.size:=by unfold Mh;rw[IT,Af rfl,CJ]
 have e:(λi=>ED s (some sa) (.pointer (some ⟨w.heap.size,0,none⟩)) (b.getD i 0))=λi=>s (b.getD i 0):=funext λj=>Cw (Qo d j);rw[k]at h2;rw[e1,IG hi,e];exact g _ _ h2
theorem NZ.eff{E b:List Nat}{a sa:Nat}{P:Nat->(Nat->Value)->Option Nat->World->Prop}{L:Nat->Bool}{s c:Nat->Value}{w w':World}{e j:Nat}(h:NZ E b a sa P L s w)(g:E.Nodup)(he:e∈E)(k:L e=false)(l:DR E L=j)(hi:a≠e)(hs:c sa=s sa)(m:P (j+1) (λi=>c (b.getD i 0)) (Mh a sa L s) w'):NZ E b a sa P (DJ L e) c w':=by
 refine⟨λd=>?_,?_⟩
 ·rw[Dr hi]at d
  rw[hs];exact h.1 d
 ·rw[Na k g he,l,Oj hi hs];exact m
theorem FN{a sa b:Nat}{L:Nat->Bool}{s:Nat->Value}(c:L a=true)(hs:s sa= .pointer (some ⟨b,0,none⟩)):Mh a sa L s=some b:=by unfold Mh;rw[Af c,hs]
end Go.Proofs.YtjjggefmmeminabGreat
