import Derived.Test.YtjjggefmmeminacGreatJMn
namespace Go.Proofs.YtjjggefmmeminacGreat
open Go.RowKit Go.Sort Go.PlainAid
def blankB (c:Int):Bool:=(c == 32) || (c == 10)
def wordB (c:Int):Bool:=letterB c || digitB c
def spanF (s:ByteArray) (f:Int→Bool):Nat→Nat→Nat
 | 0,i=>i
 | n + 1,i=>if f (bt s i) then spanF s f n (i + 1) else i
def span (s:ByteArray) (f:Int→Bool) (i:Nat):Nat:=spanF s f (s.size - i) i
theorem span_step {s:ByteArray} {f : Int→Bool} {i:Nat} (hi:i < s.size) (h:f (bt s i)=true):span s f i=span s f (i + 1):=by
 unfold span
 obtain ⟨m,hm⟩:∃ m,s.size - i=m + 1:=⟨s.size - i - 1,by omega⟩
 rw [hm,spanF,if_pos h,show s.size - (i + 1)=m by omega]
theorem span_stop {s:ByteArray} {f : Int→Bool} {i:Nat} (h:f (bt s i)=false):span s f i=i:=by
 unfold span
 cases s.size - i with
 | zero=>rfl
 | succ m=>rw [spanF,if_neg (by rw [h]; decide)]
theorem span_end {s:ByteArray} {f : Int→Bool} {i:Nat} (h:s.size≤i):span s f i=i:=by
 unfold span; rw [show s.size - i=0 by omega]; rfl
theorem span_ge {s:ByteArray} {f : Int→Bool} : ∀ (m i:Nat),s.size - i=m→i≤span s f i
 | 0,i,h=>by rw [span_end (by omega)]; exact Nat.le_refl _
 | m + 1,i,h=>by
  cases hf:f (bt s i) with
  | false=>rw [span_stop hf]; exact Nat.le_refl _
  | true=>rw [span_step (show i < s.size by omega) hf]; have:=span_ge (s:=s) (f:=f) m (i + 1) (by omega); omega
theorem span_le {s:ByteArray} {f : Int→Bool} : ∀ (m i:Nat),s.size - i=m→i≤s.size→span s f i≤s.size
 | 0,i,h,hi=>by rw [span_end (by omega)]; exact hi
 | m + 1,i,h,hi=>by
  cases hf:f (bt s i) with
  | false=>rw [span_stop hf]; exact hi
  | true=>rw [span_step (show i < s.size by omega) hf]; exact span_le m (i + 1) (by omega) (by omega)
theorem span_at {s:ByteArray} {f : Int→Bool} : ∀ (m i:Nat),s.size - i=m→span s f i < s.size→f (bt s (span s f i))=false
 | 0,i,h,hi=>by rw [span_end (by omega)] at hi; omega
 | m + 1,i,h,hi=>by
  cases hf:f (bt s i) with
  | false=>rw [span_stop hf]; exact hf
  | true=>rw [span_step (show i < s.size by omega) hf] at hi ⊢; exact span_at m (i + 1) (by omega) hi
def skipB (s:ByteArray) (i:Nat):Nat:=span s blankB i
def wend (s:ByteArray) (i:Nat):Nat:=span s wordB i
theorem skip_ge (s:ByteArray) (i:Nat):i≤skipB s i:=span_ge _ i rfl
theorem skip_le {s:ByteArray} {i:Nat} (h:i≤s.size):skipB s i≤s.size:=span_le _ i rfl h
theorem wend_ge (s:ByteArray) (i:Nat):i≤wend s i:=span_ge _ i rfl
theorem wend_le {s:ByteArray} {i:Nat} (h:i≤s.size):wend s i≤s.size:=span_le _ i rfl h
theorem skip_skip (s:ByteArray) (i:Nat):skipB s (skipB s i)=skipB s i:=by
 by_cases h:skipB s i < s.size
 ·exact span_stop (span_at _ i rfl h)
 ·exact span_end (by omega)
def isAt (s:ByteArray) (i:Nat) (c:Int):Bool:=decide (i < s.size) && (bt s i == c)
def pName (s:ByteArray) (i:Nat):Except (Int × Nat) (ByteArray × Nat) :=
 if !(decide (skipB s i < s.size) && letterB (bt s (skipB s i))) then .error (2,skipB s i) else
 if 12 < wend s (skipB s i) - skipB s i then .error (6,skipB s i) else .ok (s.extract (skipB s i) (wend s (skipB s i)),wend s (skipB s i))
def pSign (s:ByteArray) (c:Int) (i:Nat):Except (Int × Nat) Nat:=if isAt s (skipB s i) c then .ok (skipB s i + 1) else .error (2,skipB s i)
def pTail {d:Nat} (s:ByteArray) (rec:Nat→Nat→Except (Int × Nat) (List (Pick d) × Nat × Nat)) (nk f:ByteArray) (i n:Nat):Except (Int × Nat) (Pick (d + 1) × Nat × Nat) :=
 if isAt s (skipB s i) 123 then
  match rec (skipB s i) n with
  | .error e=>.error e
  | .ok r=>.ok (mkPick nk f r.1,r.2.1,r.2.2)
 else .ok (mkPick nk f [],skipB s i,n)
def pPick {d:Nat} (s:ByteArray) (rec:Nat→Nat→Except (Int × Nat) (List (Pick d) × Nat × Nat)) (i n:Nat):Except (Int × Nat) (Pick (d + 1) × Nat × Nat) :=
 match pName s i with
 | .error e=>.error e
 | .ok r =>
  if 60 < n + 1 then .error (4,r.2) else
  if isAt s (skipB s r.2) 58 then
   match pName s (skipB s r.2 + 1) with
   | .error e=>.error e
   | .ok r'=>pTail s rec r.1 r'.1 r'.2 (n + 1)
  else pTail s rec ⟨#[]⟩ r.1 (skipB s r.2) (n + 1)
def pPicks {d:Nat} (s:ByteArray) (rec:Nat→Nat→Except (Int × Nat) (List (Pick d) × Nat × Nat)):Nat→List (Pick (d + 1))→Nat→Nat→Except (Int × Nat) (List (Pick (d + 1)) × Nat × Nat)
 | 0,_,i,_=>.error (2,i)
 | m + 1,acc,i,n =>
  if !acc.isEmpty && isAt s (skipB s i) 125 then .ok (acc,skipB s i + 1,n) else
  match pPick s rec (if acc.isEmpty then i else skipB s i) n with
  | .error e=>.error e
  | .ok r=>pPicks s rec m (acc ++ [r.1]) r.2.1 r.2.2
def pList (s:ByteArray):(d:Nat)→Nat→Nat→Except (Int × Nat) (List (Pick d) × Nat × Nat)
 | 0,i,_=>.error (3,i)
 | d + 1,i,n =>
  match pSign s 123 i with
  | .error e=>.error e
  | .ok j=>pPicks s (pList s d) (s.size + 1) [] j n
def pAsk (s:ByteArray):Except (Int × Nat) (ByteArray × ByteArray × List (Pick 8)) :=
 match pName s 0 with
 | .error e=>.error e
 | .ok t =>
  match pSign s 40 t.2 with
  | .error e=>.error e
  | .ok i =>
   match pName s i with
   | .error e=>.error e
   | .ok k =>
    match pSign s 41 k.2 with
    | .error e=>.error e
    | .ok j =>
     match pList s 8 j 0 with
     | .error e=>.error e
     | .ok r=>if skipB s r.2.1 < s.size then .error (2,skipB s r.2.1) else .ok (t.1,k.1,r.1)
def parse (s:ByteArray):Except (Int × Nat) (ByteArray × ByteArray × List (Pick 8)):=if 1000 < s.size then .error (3,0) else pAsk s
theorem pName_at {s:ByteArray} {i:Nat} {r:ByteArray × Nat} (h:pName s i = .ok r):i < r.2∧r.2≤s.size∧r.1.size≤12:=by
 unfold pName at h
 by_cases h1:(!(decide (skipB s i < s.size) && letterB (bt s (skipB s i))))=true
 ·rw [if_pos h1] at h; cases h
 rw [if_neg h1] at h
 by_cases h2:12 < wend s (skipB s i) - skipB s i
 ·rw [if_pos h2] at h; cases h
 rw [if_neg h2] at h
 cases h
 simp only [Bool.not_eq_true,Bool.not_eq_false',Bool.and_eq_true,decide_eq_true_eq] at h1
 have h3:=skip_ge s i
 have h4:wend s (skipB s i)=wend s (skipB s i + 1):=span_step h1.1 (by unfold wordB; rw [h1.2]; rfl)
 have h5:=wend_ge s (skipB s i + 1)
 have h6:=wend_le (s:=s) (i:=skipB s i) (by omega)
 refine ⟨by show i < wend s (skipB s i); omega,h6,?_⟩
 show (s.extract _ _).size≤12
 rw [ByteArray.size_extract]; omega
theorem pName_err {s:ByteArray} {i:Nat} {e:Int × Nat} (hi:i≤s.size) (h:pName s i = .error e):e.1≠0∧e.2≤s.size:=by
 unfold pName at h
 have h6:=skip_le hi
 by_cases h1:(!(decide (skipB s i < s.size) && letterB (bt s (skipB s i))))=true
 ·rw [if_pos h1] at h; cases h; exact ⟨by show (2:Int)≠0; decide,h6⟩
 rw [if_neg h1] at h
 by_cases h2:12 < wend s (skipB s i) - skipB s i
 ·rw [if_pos h2] at h; cases h; exact ⟨by show (6:Int)≠0; decide,h6⟩
 ·rw [if_neg h2] at h; cases h
theorem isAt_lt {s:ByteArray} {i:Nat} {c:Int} (h:isAt s i c=true):i < s.size:=by
 unfold isAt at h
 simp only [Bool.and_eq_true,decide_eq_true_eq] at h
 exact h.1
theorem pSign_at {s:ByteArray} {c:Int} {i j:Nat} (h:pSign s c i = .ok j):i < j∧j≤s.size:=by
 unfold pSign at h
 by_cases h1:isAt s (skipB s i) c=true
 ·rw [if_pos h1] at h; cases h; have:=isAt_lt h1; have:=skip_ge s i; omega
 ·rw [if_neg h1] at h; cases h
theorem pSign_err {s:ByteArray} {c:Int} {i:Nat} {e:Int × Nat} (hi:i≤s.size) (h:pSign s c i = .error e):e.1≠0∧e.2≤s.size:=by
 unfold pSign at h
 by_cases h1:isAt s (skipB s i) c=true
 ·rw [if_pos h1] at h; cases h
 ·rw [if_neg h1] at h; cases h; exact ⟨by show (2:Int)≠0; decide,skip_le hi⟩
def Goes {α:Type} (s:ByteArray) (f:Nat→Nat→Except (Int × Nat) (α × Nat × Nat)):Prop :=
 ∀ i n,i≤s.size→n≤60→(∀ r,f i n = .ok r→i < r.2.1∧r.2.1≤s.size∧r.2.2≤60)∧(∀ e,f i n = .error e→e.1≠0∧e.2≤s.size)
theorem pTail_goes {d:Nat} {s:ByteArray} {rec:Nat→Nat→Except (Int × Nat) (List (Pick d) × Nat × Nat)} (hr:Goes s rec) (nk f:ByteArray) {i n:Nat} (hi:i≤s.size) (hn:n≤60):(∀ r,pTail s rec nk f i n = .ok r→i≤r.2.1∧r.2.1≤s.size∧r.2.2≤60)∧(∀ e,pTail s rec nk f i n = .error e→e.1≠0∧e.2≤s.size):=by
 have h1:=skip_le hi
 have h2:=skip_ge s i
 obtain ⟨g1,g2⟩:=hr (skipB s i) n h1 hn
 unfold pTail
 by_cases hc:isAt s (skipB s i) 123=true
 ·rw [if_pos hc]
  cases hh:rec (skipB s i) n with
  | error e=>exact ⟨fun r h=>(by cases h),fun e' h=>by cases h; exact g2 e hh⟩
  | ok r=>exact ⟨fun r' h=>(by cases h; have:=g1 r hh; exact ⟨by show i≤r.2.1; omega,this.2⟩),fun e' h=>by cases h⟩
 ·rw [if_neg hc]
  exact ⟨fun r' h=>(by cases h; exact ⟨h2,h1,hn⟩),fun e' h=>by cases h⟩
theorem pPick_goes {d:Nat} {s:ByteArray} {rec:Nat→Nat→Except (Int × Nat) (List (Pick d) × Nat × Nat)} (hr:Goes s rec):Goes s (pPick s rec):=by
 intro i n hi hn
 unfold pPick
 cases h1:pName s i with
 | error e=>exact ⟨fun r h=>(by cases h),fun e' h=>by cases h; exact pName_err hi h1⟩
 | ok r =>
  obtain ⟨a1,a2,-⟩:=pName_at h1
  show (∀ r',(if 60 < n + 1 then _ else _)=_→_)∧(∀ e,(if 60 < n + 1 then _ else _)=_→_)
  by_cases hm:60 < n + 1
  ·rw [if_pos hm]
   exact ⟨fun r h=>(by cases h),fun e' h=>by cases h; exact ⟨by show (4:Int)≠0; decide,a2⟩⟩
  rw [if_neg hm]
  have s1:=skip_le a2
  have s2:=skip_ge s r.2
  by_cases hc:isAt s (skipB s r.2) 58=true
  ·rw [if_pos hc]
   have hlt:=isAt_lt hc
   cases h2:pName s (skipB s r.2 + 1) with
   | error e=>exact ⟨fun r h=>(by cases h),fun e' h=>by cases h; exact pName_err (by omega) h2⟩
   | ok r' =>
    obtain ⟨b1,b2,-⟩:=pName_at h2
    obtain ⟨t1,t2⟩:=pTail_goes hr r.1 r'.1 b2 (show n + 1≤60 by omega)
    exact ⟨fun q h=>(by have:=t1 q h; exact ⟨by omega,this.2⟩),t2⟩
  ·rw [if_neg hc]
   obtain ⟨t1,t2⟩:=pTail_goes hr ⟨#[]⟩ r.1 s1 (show n + 1≤60 by omega)
   exact ⟨fun q h=>(by have:=t1 q h; exact ⟨by omega,this.2⟩),t2⟩
theorem pPicks_goes {d:Nat} {s:ByteArray} {rec:Nat→Nat→Except (Int × Nat) (List (Pick d) × Nat × Nat)} (hr:Goes s rec):∀ (m:Nat) (acc:List (Pick (d + 1))) (i n:Nat),i≤s.size→n≤60 →
  (∀ r,pPicks s rec m acc i n = .ok r→i < r.2.1∧r.2.1≤s.size∧r.2.2≤60)∧(∀ e,pPicks s rec m acc i n = .error e→e.1≠0∧e.2≤s.size)
 | 0,acc,i,n,hi,hn=>⟨fun r h=>(by cases h),fun e h=>by cases h; exact ⟨by show (2:Int)≠0; decide,hi⟩⟩
 | m + 1,acc,i,n,hi,hn=>by
  rw [pPicks]
  have s1:=skip_le hi
  have s2:=skip_ge s i
  by_cases hc:(!acc.isEmpty && isAt s (skipB s i) 125)=true
  ·rw [if_pos hc]
   have hlt:=isAt_lt (s:=s) (i:=skipB s i) (c:=125) (by simp only [Bool.and_eq_true] at hc; exact hc.2)
   exact ⟨fun r h=>(by cases h; exact ⟨by show i < skipB s i + 1; omega,by show skipB s i + 1≤s.size; omega,hn⟩),fun e h=>by cases h⟩
  rw [if_neg hc]
  have hj:i≤(if acc.isEmpty then i else skipB s i)∧(if acc.isEmpty then i else skipB s i)≤s.size:=by split <;> omega
  obtain ⟨g1,g2⟩:=pPick_goes hr (if acc.isEmpty then i else skipB s i) n hj.2 hn
  cases h1:pPick s rec (if acc.isEmpty then i else skipB s i) n with
  | error e=>exact ⟨fun r h=>(by cases h),fun e' h=>by cases h; exact g2 e h1⟩
  | ok r =>
   have h2:=g1 r h1
   obtain ⟨t1,t2⟩:=pPicks_goes hr m (acc ++ [r.1]) r.2.1 r.2.2 h2.2.1 h2.2.2
   exact ⟨fun q h=>(by have:=t1 q h; exact ⟨by omega,this.2⟩),t2⟩
theorem pList_goes (s:ByteArray):∀ d,Goes s (pList s d)
 | 0=>fun i n hi hn=>⟨fun r h=>(by cases h),fun e h=>by cases h; exact ⟨by show (3:Int)≠0; decide,hi⟩⟩
 | d + 1=>fun i n hi hn=>by
  rw [pList]
  cases h1:pSign s 123 i with
  | error e=>exact ⟨fun r h=>(by cases h),fun e' h=>by cases h; exact pSign_err hi h1⟩
  | ok j =>
   have h2:=pSign_at h1
   obtain ⟨t1,t2⟩:=pPicks_goes (pList_goes s d) (s.size + 1) [] j n h2.2 hn
   exact ⟨fun q h=>(by have:=t1 q h; exact ⟨by omega,this.2⟩),t2⟩
theorem pPicks_fuel {d:Nat} {s:ByteArray} {rec:Nat→Nat→Except (Int × Nat) (List (Pick d) × Nat × Nat)} (hr:Goes s rec):∀ (m m':Nat) (acc:List (Pick (d + 1))) (i n:Nat),i≤s.size→n≤60→s.size - i < m→s.size - i < m'→pPicks s rec m acc i n=pPicks s rec m' acc i n
 | 0,_,_,_,_,_,_,h,_=>absurd h (Nat.not_lt_zero _)
 | _ + 1,0,_,_,_,_,_,_,h=>absurd h (Nat.not_lt_zero _)
 | m + 1,m' + 1,acc,i,n,hi,hn,h,h'=>by
  rw [pPicks,pPicks]
  by_cases hc:(!acc.isEmpty && isAt s (skipB s i) 125)=true
  ·rw [if_pos hc,if_pos hc]
  rw [if_neg hc,if_neg hc]
  have s1:=skip_le hi
  have s2:=skip_ge s i
  have hj:i≤(if acc.isEmpty then i else skipB s i)∧(if acc.isEmpty then i else skipB s i)≤s.size:=by split <;> omega
  obtain ⟨g1,g2⟩:=pPick_goes hr (if acc.isEmpty then i else skipB s i) n hj.2 hn
  cases h1:pPick s rec (if acc.isEmpty then i else skipB s i) n with
  | error e=>rfl
  | ok r =>
   have h2:=g1 r h1
   exact pPicks_fuel hr m m' _ _ _ h2.2.1 h2.2.2 (by omega) (by omega)
end Go.Proofs.YtjjggefmmeminacGreat
