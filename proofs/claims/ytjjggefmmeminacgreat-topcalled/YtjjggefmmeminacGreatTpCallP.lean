import Derived.Test.YtjjggefmmeminacGreatJMn
import Derived.Lib.Join
import Derived.Test.YtjjggefmmeminacGreatQpPlain
import Derived.Test.YtjjggefmmeminacGreatJGp
import Derived.KernelRfl
namespace Go.Proofs.YtjjggefmmeminacGreat
open Go.RowKit Go.Sort Go.PlainAid
theorem data_app (a b:ByteArray):(a ++ b).data.toList=a.data.toList ++ b.data.toList:=by rw [ByteArray.data_append,Array.toList_append]
theorem bytes_inj {a b:ByteArray} (h:a.data.toList=b.data.toList):a=b:=by
 cases a with | mk a=>cases b with | mk b=>exact congrArg ByteArray.mk (Array.toList_inj.1 h)
theorem size_list (s:ByteArray):s.size=s.data.toList.length:=by rw [Array.length_toList]; rfl
end Go.Proofs.YtjjggefmmeminacGreat
namespace Go.Proofs.YtjjggefmmeminacGreat
open Go.RowKit Go.Sort Go.PlainAid
def At (s:ByteArray) (i:Nat) (l:List UInt8):Prop := ∃ r,s.data.toList.drop i=l ++ r
theorem At.app {s:ByteArray} {i:Nat} {l m:List UInt8} (h:At s i (l ++ m)):At s i l∧At s (i + l.length) m:=by
 obtain ⟨r,hr⟩:=h
 refine ⟨⟨m ++ r,by rw [hr,List.append_assoc]⟩,⟨r,?_⟩⟩
 rw [← List.drop_drop,hr,List.append_assoc,List.drop_left]
theorem At.head {s:ByteArray} {i:Nat} {x:UInt8} {l:List UInt8} (h:At s i (x :: l)):i < s.size∧bt s i=(x.toNat:Int):=by
 obtain ⟨r,hr⟩:=h
 have h0:s.data.toList[i]? = some x:=by
  have:(s.data.toList.drop i)[0]? = some x:=by rw [hr]; rfl
  rwa [List.getElem?_drop,Nat.add_zero] at this
 obtain ⟨hi,he⟩:=List.getElem?_eq_some_iff.1 h0
 have hs:i < s.size:=by rw [size_list]; exact hi
 refine ⟨hs,?_⟩
 unfold bt
 rw [dif_pos hs]
 have e:s[i]'hs=x:=by rw [← he]; simp [ByteArray.getElem_eq_getElem_data]
 rw [e]
theorem At.tail {s:ByteArray} {i:Nat} {x:UInt8} {l:List UInt8} (h:At s i (x :: l)):At s (i + 1) l:=(At.app (l:=[x]) (m:=l) h).2
theorem span_all {s:ByteArray} {f : Int→Bool} : ∀ (l:List UInt8) (i:Nat),(∀ x ∈ l,f (x.toNat:Int)=true)→At s i l→span s f i=span s f (i + l.length)
 | [],i,_,_=>rfl
 | x :: l,i,hf,h=>by
  obtain ⟨h1,h2⟩:=h.head
  rw [span_step h1 (by rw [h2]; exact hf x (by simp)),span_all l (i + 1) (fun y hy=>hf y (by simp [hy])) h.tail,List.length_cons,show i + 1 + l.length=i + (l.length + 1) by omega]
theorem bt_list {x:ByteArray} {j:Nat} (hj:j < x.size):bt x j=((x.data.toList[j]'(by rw [← size_list]; exact hj)).toNat:Int):=by
 unfold bt; rw [dif_pos hj]; simp [ByteArray.getElem_eq_getElem_data]
theorem named_iff {x:ByteArray} : named x=true ↔ 0 < x.size∧x.size≤12∧letterB (bt x 0)=true∧∀ j,j < x.size→wordB (bt x j)=true:=by
 unfold named
 rw [Bool.and_eq_true,decide_eq_true_eq,idx_neg]
 simp only [Bool.not_eq_true',Bool.or_eq_false_iff,decide_eq_false_iff_not,Bool.not_eq_false']
 constructor
 ·rintro ⟨⟨⟨h1,h2⟩,h3⟩,h4⟩
  refine ⟨by omega,by omega,h3,fun j hj=>?_⟩
  have:=h4 j hj
  unfold oddB at this
  unfold wordB
  cases h5:letterB (bt x j) <;> cases h6:digitB (bt x j) <;> simp [h5,h6] at this ⊢
 ·rintro ⟨h1,h2,h3,h4⟩
  refine ⟨⟨⟨by omega,by omega⟩,h3⟩,fun j hj=>?_⟩
  have:=h4 j hj
  unfold wordB at this
  unfold oddB
  cases h5:letterB (bt x j) <;> cases h6:digitB (bt x j) <;> simp [h5,h6] at this ⊢
theorem named_all {x:ByteArray} (h:named x=true):∀ y ∈ x.data.toList,wordB (y.toNat:Int)=true:=by
 intro y hy
 obtain ⟨j,hj,rfl⟩:=List.mem_iff_getElem.1 hy
 have hj':j < x.size:=by rw [size_list]; exact hj
 rw [← bt_list hj']; exact (named_iff.1 h).2.2.2 j hj'
theorem named_cons {x:ByteArray} (h:named x=true):∃ y l,x.data.toList=y :: l∧letterB (y.toNat:Int)=true:=by
 obtain ⟨h1,-,h3,-⟩:=named_iff.1 h
 have h0:=bt_list h1
 have hl:0 < x.data.toList.length:=by rw [← size_list]; exact h1
 cases hx:x.data.toList with
 | nil=>rw [hx] at hl; exact absurd hl (Nat.lt_irrefl _)
 | cons y l =>
  refine ⟨y,l,rfl,?_⟩
  have e:(x.data.toList[0]'hl)=y:=by simp [hx]
  rw [h0,e] at h3; exact h3
theorem letter_not {c:Int} (h:letterB c=true):blankB c=false∧(c == 58)=false∧(c == 123)=false∧(c == 125)=false:=by
 unfold letterB at h
 simp only [Bool.and_eq_true,decide_eq_true_eq] at h
 unfold blankB
 refine ⟨?_,?_,?_,?_⟩
 ·rw [Bool.or_eq_false_iff,beq_eq_false_iff_ne,beq_eq_false_iff_ne]; omega
 all_goals rw [beq_eq_false_iff_ne]; omega
theorem extract_at {s x:ByteArray} {i:Nat} (h:At s i x.data.toList):s.extract i (i + x.size)=x:=by
 obtain ⟨r,hr⟩:=h
 apply bytes_inj
 rw [ByteArray.data_extract,Array.toList_extract]
 simp only [List.extract_eq_take_drop]
 rw [hr,show i + x.size - i=x.data.toList.length by rw [size_list]; omega,List.take_left]
theorem pName_read {s x:ByteArray} {i:Nat} {c:UInt8} (hx:named x=true) (hc:wordB (c.toNat:Int)=false) (h:At s i (x.data.toList ++ [c])):pName s i = .ok (x,i + x.size):=by
 obtain ⟨h1,h2⟩:=h.app
 rw [← size_list] at h2
 obtain ⟨y,l,hy,hyl⟩:=named_cons hx
 have h3:=h1
 rw [hy] at h3
 obtain ⟨b1,b2⟩:=h3.head
 obtain ⟨c1,c2⟩:=h2.head
 have hs:skipB s i=i:=span_stop (by rw [b2]; exact (letter_not hyl).1)
 have hw:wend s i=i + x.size:=by
  have:=span_all (f:=wordB) x.data.toList i (named_all hx) h1
  unfold wend
  rw [this,← size_list]
  exact span_stop (by rw [c2]; exact hc)
 unfold pName
 rw [hs,hw,decide_eq_true b1,b2,hyl,if_neg (by decide),if_neg (by have:=(named_iff.1 hx).2.1; omega),extract_at h1]
end Go.Proofs.YtjjggefmmeminacGreat
namespace Go.Proofs.YtjjggefmmeminacGreat
open Go.RowKit Go.Sort Go.PlainAid
def bAa:ByteArray:=⟨#[97]⟩
def bKk:ByteArray:=⟨#[107]⟩
def callY (fa:Option Addr) (field:ByteArray):LType:=⟨bAa,fa,1,1,fun _=>⟨field,1,⟨#[]⟩⟩⟩
def callC (field nu:ByteArray):PChange:=⟨2,bAa,field,nu⟩
def callW (field text:ByteArray):LVal:=⟨field,text,none,0,0,fun _=>⟨#[]⟩⟩
def callH (va:Option Addr) (field text:ByteArray):LThing:=⟨bAa,bKk,va,1,1,fun _=>callW field text⟩
def callS (ta fa ca xa va:Option Addr) (field nu text:ByteArray):LServ:=⟨ta,1,1,fun _=>callY fa field,ca,1,1,fun _=>callC field nu,xa,1,1,fun _=>callH va field text⟩
def callV (ta fa ca xa va:Option Addr) (field nu text:ByteArray) (_:Nat):LServ:=callS ta fa ca xa va field nu text
def callX (x:ByteArray):ByteArray:=⟨#[97,40,107,41,123]⟩ ++ x ++ ⟨#[125]⟩
def callK (x:ByteArray):List (Pick 8):=[mkPick ⟨#[]⟩ x []]
theorem call_isAt {s:ByteArray} {i:Nat} {c:UInt8} {l:List UInt8} (h:At s i (c :: l)) (x:Int):isAt s i x=((c.toNat:Int) == x):=by
 obtain ⟨h1,h2⟩:=h.head
 unfold isAt; rw [h2,decide_eq_true h1,Bool.true_and]
theorem call_skip {s:ByteArray} {i:Nat} {c:UInt8} {l:List UInt8} (hc:blankB (c.toNat:Int)=false) (h:At s i (c :: l)):skipB s i=i:=by
 obtain ⟨h1,h2⟩:=h.head
 exact span_stop (by rw [h2]; exact hc)
theorem call_sign {s:ByteArray} {i:Nat} {c:UInt8} {l:List UInt8} (hc:blankB (c.toNat:Int)=false) (h:At s i (c :: l)):pSign s (c.toNat:Int) i = .ok (i + 1):=by
 unfold pSign
 rw [call_skip hc h,call_isAt h,if_pos (beq_self_eq_true _)]
theorem call_parse {x:ByteArray} (hx:named x=true):parse (callX x) = .ok (bAa,bKk,callK x):=by
 obtain ⟨s,hs⟩:∃ s,s=callX x:=⟨_,rfl⟩
 rw [← hs]
 have hd:s.data.toList = [97,40,107,41,123] ++ (x.data.toList ++ [125]):=by
  rw [hs]; unfold callX; rw [data_app,data_app,List.append_assoc]
 have hx12:=(named_iff.1 hx).2.1
 have hz:s.size=5 + x.size + 1:=by
  rw [size_list,hd,List.length_append,List.length_append,← size_list]
  show 5 + (x.size + 1)=5 + x.size + 1
  omega
 have a0:At s 0 (97 :: 40 :: 107 :: 41 :: 123 :: (x.data.toList ++ [125])):=⟨[],by rw [List.append_nil]; exact hd⟩
 have a1:At s 1 (40 :: 107 :: 41 :: 123 :: (x.data.toList ++ [125])):=a0.tail
 have a2:At s 2 (107 :: 41 :: 123 :: (x.data.toList ++ [125])):=a1.tail
 have a3:At s 3 (41 :: 123 :: (x.data.toList ++ [125])):=a2.tail
 have a4:At s 4 (123 :: (x.data.toList ++ [125])):=a3.tail
 have a5:At s 5 (x.data.toList ++ [125]):=a4.tail
 have a6:At s (5 + x.size) [125]:=by rw [size_list]; exact a5.app.2
 have n0:pName s 0 = .ok (bAa,1):=pName_read (x:=bAa) (c:=40) (by kernel_rfl) (by kernel_rfl) (At.app (l:=[97,40]) (m:=107 :: 41 :: 123 :: (x.data.toList ++ [125])) a0).1
 have n1:pSign s 40 1 = .ok 2:=call_sign (c:=40) (by kernel_rfl) a1
 have n2:pName s 2 = .ok (bKk,3):=pName_read (x:=bKk) (c:=41) (by kernel_rfl) (by kernel_rfl) (At.app (l:=[107,41]) (m:=123 :: (x.data.toList ++ [125])) a2).1
 have n3:pSign s 41 3 = .ok 4:=call_sign (c:=41) (by kernel_rfl) a3
 have n4:pSign s 123 4 = .ok 5:=call_sign (c:=123) (by kernel_rfl) a4
 have n5:pName s 5 = .ok (x,5 + x.size):=pName_read (c:=125) hx (by kernel_rfl) a5
 have k6:skipB s (5 + x.size)=5 + x.size:=call_skip (c:=125) (by kernel_rfl) a6
 have i1:isAt s (5 + x.size) 58=false:=(call_isAt a6 58).trans (by kernel_rfl)
 have i2:isAt s (5 + x.size) 123=false:=(call_isAt a6 123).trans (by kernel_rfl)
 have i3:isAt s (5 + x.size) 125=true:=(call_isAt a6 125).trans (by kernel_rfl)
 have q1:pPick s (pList s 7) 5 0 = .ok (mkPick ⟨#[]⟩ x [],5 + x.size,1):=by
  unfold pPick
  rw [n5]
  dsimp only
  rw [if_neg (by decide),k6,if_neg (by rw [i1]; decide)]
  unfold pTail
  rw [k6,if_neg (by rw [i2]; decide)]
 have q2:pPicks s (pList s 7) (s.size + 1) [] 5 0 = .ok (callK x,5 + x.size + 1,1):=by
  rw [pPicks,if_neg (by simp)]
  have e:(if ([]:List (Pick 8)).isEmpty=true then 5 else skipB s 5)=5:=if_pos rfl
  rw [e,q1]
  dsimp only
  rw [hz,pPicks,k6,i3,if_pos (by simp)]
  rfl
 have q3:pList s 8 4 0 = .ok (callK x,5 + x.size + 1,1):=by
  show (match pSign s 123 4 with | Except.error e=>(Except.error e:Except (Int × Nat) (List (Pick 8) × Nat × Nat)) | Except.ok j=>pPicks s (pList s 7) (s.size + 1) [] j 0)=_
  rw [n4]
  exact q2
 unfold parse
 rw [if_neg (by omega)]
 unfold pAsk
 rw [n0]
 dsimp only
 rw [n1]
 dsimp only
 rw [n2]
 dsimp only
 rw [n3]
 dsimp only
 rw [q3]
 dsimp only
 have k7:skipB s (5 + x.size + 1)=5 + x.size + 1:=span_end (by omega)
 rw [k7,if_neg (by omega)]
theorem call_app {fa:Option Addr} {field nu:ByteArray} (h2:named nu=true) (h3:field≠nu):appS 1 (initS fun _=>callY fa field) (callC field nu)=(0,callF (initS fun _=>callY fa field) 0 0 nu):=by
 have hp:pfind 1 (initS fun _=>callY fa field) (callC field nu).type=0:=by kernel_rfl
 have hk:(callC field nu).kind=2:=rfl
 have hf:fieldIdx (initS (fun _=>callY fa field) 0).nf (initS (fun _=>callY fa field) 0).F (callC field nu).field=0:=idx_hit (k:=0) Nat.zero_lt_one (eqs_iff.2 rfl) (fun j hj=>absurd hj (Nat.not_lt_zero _))
 have hg:fieldIdx (initS (fun _=>callY fa field) 0).nf (initS (fun _=>callY fa field) 0).F nu = -1:=idx_none fun j hj=>eqs_false.2 h3
 unfold appS
 rw [hp,hk,if_neg (by decide),if_neg (by decide),if_neg (by decide)]
 show fieldS (initS fun _=>callY fa field) 0 (callC field nu)=_
 unfold fieldS
 rw [hf,hk,if_neg (by decide),if_pos rfl]
 show callFS (initS fun _=>callY fa field) 0 0 nu=_
 unfold callFS
 rw [hg,h2,if_neg (by decide)]
theorem call_seen {ta fa ca xa va:Option Addr} {field nu text:ByteArray} (h2:named nu=true) (h3:field≠nu):seenS (callS ta fa ca xa va field nu text)=callF (initS fun _=>callY fa field) 0 0 nu:=by
 show (appS 1 (initS fun _=>callY fa field) (callC field nu)).2=_
 rw [call_app h2 h3]
theorem call_seen0 {ta fa ca xa va:Option Addr} {field nu text:ByteArray} (h2:named nu=true) (h3:field≠nu):(seenS (callS ta fa ca xa va field nu text) 0).name=bAa∧(seenS (callS ta fa ca xa va field nu text) 0).nf=1∧(seenS (callS ta fa ca xa va field nu text) 0).F 0=⟨nu,1,⟨#[]⟩⟩∧(seenS (callS ta fa ca xa va field nu text) 0).own=bAa∧(seenS (callS ta fa ca xa va field nu text) 0).O 0=field:=by
 rw [call_seen h2 h3]
 exact ⟨rfl,rfl,rfl,rfl,rfl⟩
theorem call_serv {ta fa ca xa va:Option Addr} {field nu text:ByteArray} (h1:named field=true) (h2:named nu=true) (h3:field≠nu) (h4:text.size≤40):wrongServ (callS ta fa ca xa va field nu text)=0:=by
 have hR:(wrongS 1 (fun _=>callY fa field)).1=0:=right_iff.2 ⟨by decide,fun _ _=>by kernel_rfl,fun i j h hj=>by omega,fun i hi=>⟨by show 1≤10; decide,fun _ _=>h1,fun i j h hj=>by have:j < 1:=hj; omega,fun _ _=>.inl ⟨rfl,rfl⟩⟩⟩
 have hE:(seeE (callS ta fa ca xa va field nu text)).1=0:=by
  show (seeF 1 (fun _=>callY fa field) 1 (fun _=>callC field nu)).1=0
  unfold seeF
  rw [if_neg (fun h=>h hR),if_neg (by decide),fault_none]
  intro j hj
  obtain rfl:j=0:=by omega
  show (appS 1 (initS fun _=>callY fa field) (callC field nu)).1=0
  rw [call_app h2 h3]
 have hT:(wrongThings 1 (fun _=>callY fa field) 1 (fun _=>callH va field text)).1=0:=by
  unfold wrongThings
  rw [if_neg (by decide),fault_zero]
  intro j hj
  obtain rfl:j=0:=by omega
  have hf:find 1 (fun _=>callY fa field) (callH va field text).type=0:=by kernel_rfl
  have hn:named (callH va field text).key=true:=by kernel_rfl
  have hh:hasThing 0 (fun _=>callH va field text) (callH va field text).type (callH va field text).key=false:=by kernel_rfl
  unfold wrongThing
  rw [hf,if_neg (by decide),hn,hh,if_neg (by decide)]
  have e1 : ¬ (callH va field text).nv≠((fun _=>callY fa field) (Int.toNat 0)).nf:=fun h=>h rfl
  rw [if_neg e1,fault_zero]
  intro q hq
  show wrongVal ⟨field,1,⟨#[]⟩⟩ (callW field text)=0
  unfold wrongVal valOf
  have e2:eqs (callW field text).field (⟨field,1,⟨#[]⟩⟩:LField).name=true:=eqs_iff.2 rfl
  have e3:idx (callW field text).nk (fun i => !named ((callW field text).K i)) = -1:=rfl
  have e4:(callW field text).nk=0:=rfl
  have e5:(callW field text).text.size=text.size:=rfl
  rw [e2,e3,e4,e5,if_neg (by decide),if_neg (by simp),if_neg (by simp),if_neg (by omega),if_neg (by decide)]
 unfold wrongServ
 rw [if_neg (fun h=>h hE)]
 exact hT
theorem call_all {ta fa ca xa va:Option Addr} {field nu text:ByteArray} (h1:named field=true) (h2:named nu=true) (h3:field≠nu) (h4:text.size≤40):(allF 1 (callV ta fa ca xa va field nu text)).1=0:=by
 refine all_iff.2 ⟨by decide,fun j _=>call_serv h1 h2 h3 h4,fun nm=>?_⟩
 obtain ⟨e1,e2,e3,-⟩:=call_seen0 (ta:=ta) (fa:=fa) (ca:=ca) (xa:=xa) (va:=va) (text:=text) h2 h3
 show ((PL nm [(((0:Nat):Int),seenS (callS ta fa ca xa va field nu text) 0)]).map (fun x=>x.1.name)).Nodup
 unfold PL sel
 generalize seenS (callS ta fa ca xa va field nu text) 0=S at *
 cases h:eqs S.name nm with
 | false=>simp [List.filter,h]
 | true=>simp [List.filter,h,pairsOf,e2]
def callP (nu field:ByteArray):PPart:=⟨bAa,[⟨nu,1,⟨#[]⟩⟩],[⟨0,bAa,field⟩],[⟨0,bAa,⟨#[]⟩⟩]⟩
theorem call_parts {ta fa ca xa va:Option Addr} {field nu text:ByteArray} (h2:named nu=true) (h3:field≠nu):allP (ntS (callV ta fa ca xa va field nu text)) (seenA (callV ta fa ca xa va field nu text)) 1 = [callP nu field]:=by
 show stepT ((0:Nat):Int) [] (seenS (callS ta fa ca xa va field nu text) 0)=_
 rw [call_seen h2 h3]
 rfl
theorem call_wA {x:ByteArray} (h:named x=true):wA 8 bAa bKk (callK x)=0:=by
 have hb:badName (mkPick ⟨#[]⟩ x ([]:List (Pick 7)))=false:=by
  show (!named x || (!emp ⟨#[]⟩ && !named ⟨#[]⟩))=false
  rw [h]; rfl
 have hp:wP 7 1 0 (mkPick ⟨#[]⟩ x ([]:List (Pick 7)))=(0,1):=by
  unfold wP
  rw [if_neg (by decide),hb,if_neg (by decide),if_pos (show (subs (mkPick ⟨#[]⟩ x ([]:List (Pick 7)))).isEmpty=true from rfl)]
 have hn:(!named bAa || !named bKk)=false:=by kernel_rfl
 unfold wA
 rw [hn,if_neg (by decide)]
 show (wR 8 1 0 [mkPick ⟨#[]⟩ x ([]:List (Pick 7))]).1=0
 rw [wR_cons,hp,if_neg (by decide),wR_nil]
theorem call_cA {nu field x:ByteArray} (h:named x=true):cA [callP nu field].length (lpOf [callP nu field]) 8 bAa bKk (callK x)=if eqs nu x=true then 0 else 5:=by
 have hp:partIdx 1 (lpOf [callP nu field]) bAa=0:=by kernel_rfl
 unfold cA
 rw [call_wA h,if_neg (fun h=>h rfl)]
 show cL 1 (lpOf [callP nu field]) 8 bAa (callK x)=_
 unfold cL
 rw [hp,if_neg (by decide)]
 show cR 1 (lpOf [callP nu field]) 8 1 (fsN (callP nu field)) [] [mkPick ⟨#[]⟩ x ([]:List (Pick 7))]=_
 rw [cR_cons,cR_nil]
 have e:cP 1 (lpOf [callP nu field]) 7 1 (fsN (callP nu field)) [] (mkPick ⟨#[]⟩ x ([]:List (Pick 7)))=if eqs nu x=true then 0 else 5:=by
  unfold cP
  cases hx:eqs nu x with
  | true =>
   have hf:fieldIdx 1 (fsN (callP nu field)) (pfield (mkPick ⟨#[]⟩ x ([]:List (Pick 7))))=0:=idx_hit (k:=0) Nat.zero_lt_one hx (fun j hj=>absurd hj (Nat.not_lt_zero _))
   rw [hf,if_neg (by decide),if_pos rfl,if_neg (by simp)]
   rfl
  | false =>
   have hf:fieldIdx 1 (fsN (callP nu field)) (pfield (mkPick ⟨#[]⟩ x ([]:List (Pick 7)))) = -1:=idx_none fun j hj=>by
    obtain rfl:j=0:=by omega
    exact hx
   rw [hf,if_pos (by decide),if_neg (by decide)]
 rw [e]
 split <;> simp
theorem call_there {ta fa ca xa va:Option Addr} {field nu text:ByteArray} : thereP (callV ta fa ca xa va field nu text) (pOf [callP nu field] bAa) bKk=true:=by kernel_rfl
theorem call_pOf {field nu:ByteArray} : pOf [callP nu field] bAa=callP nu field:=by kernel_rfl
theorem call_meanE {ta fa ca xa va:Option Addr} {field nu text x:ByteArray} (h1:named field=true) (h2:named nu=true) (h3:field≠nu) (h4:text.size≤40) (hx:named x=true):meanE 1 (callV ta fa ca xa va field nu text) 8 bAa bKk (callK x)=if eqs nu x=true then 0 else 5:=by
 unfold meanE
 rw [if_neg (fun h=>h (call_all h1 h2 h3 h4))]
 unfold askE
 rw [call_parts h2 h3,call_cA hx,call_there]
 split <;> simp
theorem call_idx {nu field:ByteArray} : fieldIdx (callP nu field).fs.length (fsN (callP nu field)) nu=0:=idx_hit (k:=0) Nat.zero_lt_one (eqs_iff.2 rfl) (fun _ hj=>absurd hj (Nat.not_lt_zero _))
theorem call_fOf {nu field:ByteArray} : fOf (callP nu field) nu=⟨nu,1,⟨#[]⟩⟩∧oOf (callP nu field) nu=⟨0,bAa,field⟩:=by
 unfold fOf oOf
 rw [call_idx]
 exact ⟨rfl,rfl⟩
theorem call_meanG {ta fa ca xa va:Option Addr} {field nu text:ByteArray} (h1:named field=true) (h2:named nu=true) (h3:field≠nu) (h4:text.size≤40):meanG 1 (callV ta fa ca xa va field nu text) 8 bAa bKk (callK nu) = [mkGot nu 1 false text [] []]:=by
 unfold meanG
 rw [call_meanE h1 h2 h3 h4 h2,if_pos (eqs_iff.2 rfl),if_pos rfl,call_parts h2 h3,call_pOf,gots_succ]
 show [gotK (callV ta fa ca xa va field nu text) [callP nu field] (gots (callV ta fa ca xa va field nu text) [callP nu field] 7) (callP nu field) bKk (mkPick ⟨#[]⟩ nu [])]=_
 congr 1
 show gotO (callV ta fa ca xa va field nu text) [callP nu field] (gots (callV ta fa ca xa va field nu text) [callP nu field] 7) bKk nu (fOf (callP nu field) nu) (oOf (callP nu field) nu) []=_
 rw [call_fOf.1,call_fOf.2]
 have hh:hasT (callV ta fa ca xa va field nu text (⟨0,bAa,field⟩:POwner).svc.toNat) (⟨0,bAa,field⟩:POwner).type bKk=true:=by kernel_rfl
 have hv:valT (thingT (callV ta fa ca xa va field nu text (⟨0,bAa,field⟩:POwner).svc.toNat) (⟨0,bAa,field⟩:POwner).type bKk) (⟨0,bAa,field⟩:POwner).field=callW field text:=by
  show valT (callH va field text) field=_
  unfold valT
  have hi:idx (callH va field text).nv (fun j=>eqs ((callH va field text).V j).field field)=0:=idx_hit (k:=0) Nat.zero_lt_one (eqs_iff.2 rfl) (fun j hj=>absurd hj (Nat.not_lt_zero _))
  rw [hi,if_neg (by decide)]
  rfl
 unfold gotO
 rw [if_pos hh,hv]
 rfl
theorem call_reqs {ta fa ca xa va:Option Addr} {field nu text:ByteArray} (h1:named field=true) (h2:named nu=true) (h3:field≠nu) (h4:text.size≤40):reqs 1 (callV ta fa ca xa va field nu text) 8 bAa bKk (callK nu) = [⟨0,bAa,[bKk],[field]⟩]:=by
 unfold reqs
 rw [call_meanE h1 h2 h3 h4 h2,if_pos (eqs_iff.2 rfl),if_pos rfl,call_parts h2 h3,call_pOf,asks_succ]
 have ho:ofHome (callP nu field) ⟨0,bAa,⟨#[]⟩⟩ (mkPick ⟨#[]⟩ nu ([]:List (Pick 7)))=true:=by
  unfold ofHome
  show (decide ((oOf (callP nu field) nu).svc=0) && eqs (oOf (callP nu field) nu).type bAa)=true
  rw [call_fOf.2]
  kernel_rfl
 have hf:fieldsFor (callP nu field) ⟨0,bAa,⟨#[]⟩⟩ (callK nu) = [field]:=by
  unfold fieldsFor callK
  rw [List.filter_cons,if_pos ho]
  show once [(oOf (callP nu field) nu).field]=_
  rw [call_fOf.2]
  rfl
 have hk:asksK (callV ta fa ca xa va field nu text) [callP nu field] (asks (callV ta fa ca xa va field nu text) [callP nu field] 7) (callP nu field) [bKk] (mkPick ⟨#[]⟩ nu []) = []:=by
  unfold asksK
  have:(fOf (callP nu field) (pfield (mkPick ⟨#[]⟩ nu ([]:List (Pick 7))))).kind=1:=by
   show (fOf (callP nu field) nu).kind=1
   rw [call_fOf.1]
  rw [if_pos this]
 show homeAsk (callP nu field) [bKk] (callK nu) ⟨0,bAa,⟨#[]⟩⟩ :: (asksK (callV ta fa ca xa va field nu text) [callP nu field] (asks (callV ta fa ca xa va field nu text) [callP nu field] 7) (callP nu field) [bKk] (mkPick ⟨#[]⟩ nu []) ++ [])=_
 rw [hk]
 unfold homeAsk
 rw [hf]
 rfl
end Go.Proofs.YtjjggefmmeminacGreat
