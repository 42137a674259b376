import Derived.Test.YtjjggefmmeminacGreatQpPlain
import Derived.Test.YtjjggefmmeminacGreatJQy
import Derived.Handy
import Derived.Recover
import Derived.Laws.NewBlocks
import Derived.BigQuiet
import Derived.Test.YtjjggefmmeminacGreatJBase
import Derived.Defers
namespace Go.Proofs.YtjjggefmmeminacGreat
open Go.RowKit Go.Sort Go.PlainAid
structure Away (b:Nat) (w w':World):Prop where
 os:w'.os=w.os
 tape:w'.tape=w.tape
 output:w'.output=w.output
 size:w.heap.size≤w'.heap.size
 block:∀ k,k < w.heap.size→k≠b→w'.heap[k]? = w.heap[k]?
theorem Away.refl (b:Nat) (w:World):Away b w w:=⟨rfl,rfl,rfl,Nat.le_refl _,fun _ _ _=>rfl⟩
theorem Away.trans {b:Nat} {u v w:World} (h:Away b u v) (k:Away b v w):Away b u w :=
 ⟨k.os.trans h.os,k.tape.trans h.tape,k.output.trans h.output,Nat.le_trans h.size k.size,fun j hj hb=>(k.block j (Nat.lt_of_lt_of_le hj h.size) hb).trans (h.block j hj hb)⟩
theorem Away.of {b:Nat} {w w':World} (h:Below w.heap.size w w'):Away b w w':=⟨h.os,h.tape,h.output,h.size,fun k hk _=>h.block k hk⟩
theorem Away.set (w:World) (b o:Nat) (v:Value):Away b w (w.setCell ⟨b,o,none⟩ v) :=
 ⟨rfl,rfl,rfl,by simp,fun k _ hk=>Below.heap_setCell _ _ _ _ hk⟩
theorem Away.below {b B:Nat} {w0 w w':World} (h:Away b w w') (h0:Below B w0 w) (hb:B≤b) (hw:B≤w.heap.size):Below B w0 w' :=
 h0.trans ⟨h.os,h.tape,h.output,h.size,fun k hk=>h.block k (by omega) (by omega)⟩
theorem Away.cell {b:Nat} {w w':World} (h:Away b w w') {p:Addr} {v:Value} (hp:w.cell? p=some v) (hne:p.block≠b):w'.cell? p=some v :=
 (World.cell?_of_block (w:=w) (h.block p.block (block_lt_of_cell hp) hne)).trans hp
def RBox (w:World) (b:Nat) (s:ByteArray) (i n:Nat):Prop:=w.heap[b]? = some (.cells #[.string s,.int .i64 (i:Int),.int .i64 (n:Int)] 93 (0,0))
theorem RBox.c0 {w:World} {b:Nat} {s:ByteArray} {i n:Nat} (h:RBox w b s i n):w.cell? ⟨b,0,none⟩=some (.string s):=by simp [World.cell?,show w.heap[b]? = _ from h]
theorem RBox.c1 {w:World} {b:Nat} {s:ByteArray} {i n:Nat} (h:RBox w b s i n):w.cell? ⟨b,1,none⟩=some (.int .i64 (i:Int)):=by simp [World.cell?,show w.heap[b]? = _ from h]
theorem RBox.c2 {w:World} {b:Nat} {s:ByteArray} {i n:Nat} (h:RBox w b s i n):w.cell? ⟨b,2,none⟩=some (.int .i64 (n:Int)):=by simp [World.cell?,show w.heap[b]? = _ from h]
theorem RBox.f1 {w:World} {b:Nat} {s:ByteArray} {i n:Nat} (h:RBox w b s i n):w.frozen? ⟨b,1,none⟩=false:=by simp [World.frozen?,show w.heap[b]? = _ from h]
theorem RBox.f2 {w:World} {b:Nat} {s:ByteArray} {i n:Nat} (h:RBox w b s i n):w.frozen? ⟨b,2,none⟩=false:=by simp [World.frozen?,show w.heap[b]? = _ from h]
theorem RBox.lt {w:World} {b:Nat} {s:ByteArray} {i n:Nat} (h:RBox w b s i n):b < w.heap.size:=block_lt_of_cell h.c0
theorem RBox.setAt {w:World} {b:Nat} {s:ByteArray} {i n:Nat} (h:RBox w b s i n) (j:Nat):RBox (w.setCell ⟨b,1,none⟩ (.int .i64 (j:Int))) b s j n:=heap_setCell_same w b 1 _ 93 _ h
theorem RBox.setN {w:World} {b:Nat} {s:ByteArray} {i n:Nat} (h:RBox w b s i n) (j:Nat):RBox (w.setCell ⟨b,2,none⟩ (.int .i64 (j:Int))) b s i j:=heap_setCell_same w b 2 _ 93 _ h
theorem RBox.kept {w w':World} {b:Nat} {s:ByteArray} {i n:Nat} (h:RBox w b s i n) (hB:Below w.heap.size w w'):RBox w' b s i n:=(hB.block b h.lt).trans h
def thrown (e:Int × Nat):List PanicEntry:=[{ v:=.iface 45 (.agg #[.int .i64 e.1,.int .i64 (e.2:Int)]),recovered:=false }]
def posOf (w:World) (b:Nat):Nat:=match w.cell? ⟨b,1,none⟩ with | some v=>(intOf v).toNat | none=>0
theorem RBox.pos {w:World} {b:Nat} {s:ByteArray} {i n:Nat} (h:RBox w b s i n):posOf w b=i:=by unfold posOf; rw [h.c1]; simp [intOf]
set_option maxRecDepth 100000 in
theorem throw_any (e:Int) (i:Nat) (w:World):Calls Tryz.prog 74 #[.int .i64 e,.int .i64 (i:Int)] w fun x w'=>x = .panicked (thrown (e,i))∧w'=w:=by
 go_enter Tryz.func74,Tryz.ntmps74
 go_wp2_with fail
 exact ⟨rfl,rfl,rfl⟩
set_option maxRecDepth 100000 in
set_option maxHeartbeats 1000000 in
theorem blanks_any (b:Nat) (s:ByteArray) (i n:Nat) (w:World) (hb:RBox w b s i n) (hi:i≤s.size) (hs:s.size≤1000) :
  Calls Tryz.prog 72 #[.pointer (some ⟨b,0,none⟩)] w fun e w'=>e = .returned (.tuple #[])∧RBox w' b s (skipB s i) n∧Away b w w':=by
 have hg:=get_bt s
 have Hb:=hidI hb
 clear hb
 go_enter Tryz.func72,Tryz.ntmps72
 go_wp2_with fail
 go_loopw [] (fun wr => ∃ k:Nat,k≤s.size∧RBox wr b s k n∧Hid (skipB s i=skipB s k)∧Away b w wr) (fun wr=>s.size - posOf wr b)
 case atStart=>exact ⟨i,hi,Hb.out,rfl,Away.refl _ _⟩
 case round =>
  obtain ⟨k,hk,hr,HS,hA⟩:=hrel
  have c0:=hr.c0
  have c1:=hr.c1
  have f1:=hr.f1
  have Hr:=hidI hr
  have HA:=hidI hA
  clear hr hA
  by_cases hlt:k < s.size
  ·have hlt':(k:Int) < (s.size:Int):=by omega
   have hk0:(0:Int)≤(k:Int):=by omega
   have HY:Hid (blankB (bt s k)=true→skipB s i=skipB s (k + 1)):=fun h=>by rw [HS.out]; exact span_step hlt h
   have HN:Hid (blankB (bt s k)=false→skipB s i=k):=fun h=>by rw [HS.out]; exact span_stop h
   have HBL:Hid (blankB (bt s k)=((bt s k == 32) || (bt s k == 10))):=rfl
   have hU:∀ q,(wr.drewN q).setCell ⟨b,1,none⟩ (.int .i64 ((k:Int) + 1))=(wr.drewN q).setCell ⟨b,1,none⟩ (.int .i64 ((k + 1:Nat):Int)):=fun _=>rfl
   have HR2:Hid (∀ q,RBox ((wr.drewN q).setCell ⟨b,1,none⟩ (.int .i64 ((k:Int) + 1))) b s (k + 1) n∧Away b w ((wr.drewN q).setCell ⟨b,1,none⟩ (.int .i64 ((k:Int) + 1)))):=fun q =>
    ⟨(Hr.out.kept (below_drewN wr q)).setAt (k + 1),(HA.out.trans (Away.of (below_drewN wr q))).trans (Away.set _ _ _ _)⟩
   clear hU
   have HE:Hid (∀ q,(∃ k_1,k_1≤s.size∧RBox ((wr.drewN q).setCell ⟨b,1,none⟩ (.int .i64 ((k:Int) + 1))) b s k_1 n∧Hid (skipB s (k + 1)=skipB s k_1)∧Away b w ((wr.drewN q).setCell ⟨b,1,none⟩ (.int .i64 ((k:Int) + 1))))∧s.size - posOf ((wr.drewN q).setCell ⟨b,1,none⟩ (.int .i64 ((k:Int) + 1))) b < s.size - posOf wr b):=fun q =>
    ⟨⟨k + 1,by omega,(HR2.out q).1,rfl,(HR2.out q).2⟩,by rw [(HR2.out q).1.pos,Hr.out.pos]; omega⟩
   have HD:Hid (∀ q,RBox (wr.drewN q) b s k n∧Away b w (wr.drewN q)):=fun q=>⟨Hr.out.kept (below_drewN wr q),HA.out.trans (Away.of (below_drewN wr q))⟩
   cases h32:(bt s k == 32) with
   | true =>
    have HS2:=hidI (HY.out (by rw [HBL.out,h32]; rfl))
    go_wp2_with fail
    go_quiet (fail)
    go_wp2_with fail
    rw [HS2.out]
    exact HE.out _
   | false =>
    cases h10:(bt s k == 10) with
    | true =>
     have HS2:=hidI (HY.out (by rw [HBL.out,h32,h10]; rfl))
     go_wp2_with fail
     go_quiet (fail)
     go_wp2_with fail
     rw [HS2.out]
     exact HE.out _
    | false =>
     have HS2:=hidI (HN.out (by rw [HBL.out,h32,h10]; rfl))
     go_wp2_with fail
     go_quiet (fail)
     go_wp2_with fail
     go_end0
     exact ⟨rfl,by rw [HS2.out]; exact (HD.out _).1,(HD.out _).2⟩
  ·have hlt' : ¬ (k:Int) < (s.size:Int):=by omega
   have HS2:Hid (skipB s i=k):=by rw [HS.out]; exact span_end (by omega)
   have HD:Hid (∀ q,RBox (wr.drewN q) b s k n∧Away b w (wr.drewN q)):=fun q=>⟨Hr.out.kept (below_drewN wr q),HA.out.trans (Away.of (below_drewN wr q))⟩
   go_wp2_with fail
   go_quiet (fail)
   go_wp2_with fail
   go_end0
   exact ⟨rfl,by rw [HS2.out]; exact (HD.out _).1,(HD.out _).2⟩
set_option maxRecDepth 100000 in
set_option maxHeartbeats 1000000 in
theorem comes_any (b:Nat) (s:ByteArray) (i n:Nat) (c:Int) (w:World) (hb:RBox w b s i n) (hi:i≤s.size) (hs:s.size≤1000) :
  Calls Tryz.prog 76 #[.pointer (some ⟨b,0,none⟩),.int .u8 c] w fun e w'=>e = .returned (.bool (isAt s (skipB s i) c))∧RBox w' b s (skipB s i) n∧Away b w w':=by
 have hg:=get_bt s
 have hcl:=blanks_any b s i n w hb hi hs
 have hk:=skip_le hi
 clear hb
 generalize skipB s i=k at *
 go_enter Tryz.func76,Tryz.ntmps76
 go_wp2_with fail
 refine hcl.mono ?_
 clear hcl
 rintro e w1 ⟨rfl,hr,hA⟩
 have c0:=hr.c0
 have c1:=hr.c1
 have HD:Hid (∀ q,RBox (w1.drewN q) b s k n∧Away b w (w1.drewN q)):=fun q=>⟨hr.kept (below_drewN w1 q),hA.trans (Away.of (below_drewN w1 q))⟩
 clear hr hA
 by_cases hlt:k < s.size
 ·have hlt':(k:Int) < (s.size:Int):=by omega
  have hk0:(0:Int)≤(k:Int):=by omega
  have HF:Hid (isAt s k c=(bt s k == c)):=by unfold isAt; rw [decide_eq_true hlt]; rfl
  go_wp2_with fail
  go_quiet (fail)
  go_wp2_with fail
  go_ret
  exact ⟨by rw [HF.out]; rfl,(HD.out _).1,(HD.out _).2⟩
 ·have hlt' : ¬ (k:Int) < (s.size:Int):=by omega
  have HF:Hid (isAt s k c=false):=by unfold isAt; rw [decide_eq_false hlt]; rfl
  go_wp2_with fail
  go_quiet (fail)
  go_wp2_with fail
  go_ret
  exact ⟨by rw [HF.out]; rfl,(HD.out _).1,(HD.out _).2⟩
set_option maxRecDepth 100000 in
set_option maxHeartbeats 1000000 in
theorem sign_any (b:Nat) (s:ByteArray) (i n:Nat) (c:Int) (w:World) (hb:RBox w b s i n) (hi:i≤s.size) (hs:s.size≤1000) :
  Calls Tryz.prog 50 #[.pointer (some ⟨b,0,none⟩),.int .u8 c] w fun e w'=>(∀ j,pSign s c i = .ok j→e = .returned (.tuple #[])∧RBox w' b s j n)∧(∀ x,pSign s c i = .error x→e = .panicked (thrown x))∧Away b w w':=by
 have hcl:=comes_any b s i n c w hb hi hs
 have hk:=skip_le hi
 have HE:Hid (pSign s c i=if isAt s (skipB s i) c then .ok (skipB s i + 1) else .error (2,skipB s i)):=rfl
 clear hb
 generalize skipB s i=k at *
 generalize isAt s k c=y at *
 go_enter Tryz.func50,Tryz.ntmps50
 go_wp2_with fail
 refine hcl.mono ?_
 clear hcl
 rintro e w1 ⟨rfl,hr,hA⟩
 have c1:=hr.c1
 have f1:=hr.f1
 cases y with
 | true =>
  have HF:Hid (pSign s c i = .ok (k + 1)):=by rw [HE.out]; rfl
  have HR:Hid (RBox (w1.setCell ⟨b,1,none⟩ (.int .i64 ((k:Int) + 1))) b s (k + 1) n):=hr.setAt (k + 1)
  have HA:Hid (Away b w (w1.setCell ⟨b,1,none⟩ (.int .i64 ((k:Int) + 1)))):=hA.trans (Away.set _ _ _ _)
  clear hr hA HE
  go_wp2_with fail
  go_end0
  exact ⟨fun j h=>(by rw [HF.out] at h; cases h; exact ⟨rfl,HR.out⟩),fun x h=>(by rw [HF.out] at h; cases h),HA.out⟩
 | false =>
  have HF:Hid (pSign s c i = .error (2,k)):=by rw [HE.out]; rfl
  have hth:=throw_any 2 k w1
  have HA:=hidI hA
  clear hr hA HE
  go_wp2_with fail
  refine hth.mono ?_
  clear hth
  rintro e w2 ⟨rfl,rfl⟩
  exact ⟨rfl,fun j h=>(by rw [HF.out] at h; cases h),fun x h=>(by rw [HF.out] at h; cases h; rfl),HA.out⟩
end Go.Proofs.YtjjggefmmeminacGreat
namespace Go.Proofs.YtjjggefmmeminacGreat
open Go.RowKit Go.Sort Go.PlainAid
set_option maxRecDepth 100000 in
set_option maxHeartbeats 400000 in
theorem qletter_any (c:Int) (w:World):Calls Tryz.prog 73 #[.int .u8 c] w fun e w'=>e = .returned (.bool (letterB c))∧Below w.heap.size w w':=by
 unfold letterB
 by_cases h1:97≤c <;> by_cases h2:c≤122
 all_goals
  go_enter Tryz.func73,Tryz.ntmps73
  go_wp2
  go_ret
  exact ⟨by simp [h1,h2],Below.refl _ _⟩
set_option maxRecDepth 100000 in
set_option maxHeartbeats 400000 in
theorem qdigit_any (c:Int) (w:World):Calls Tryz.prog 75 #[.int .u8 c] w fun e w'=>e = .returned (.bool (digitB c))∧Below w.heap.size w w':=by
 unfold digitB
 by_cases h1:48≤c <;> by_cases h2:c≤57
 all_goals
  go_enter Tryz.func75,Tryz.ntmps75
  go_wp2
  go_ret
  exact ⟨by simp [h1,h2],Below.refl _ _⟩
set_option maxRecDepth 100000 in
set_option maxHeartbeats 2000000 in
theorem name_any (b:Nat) (s:ByteArray) (i n:Nat) (w:World) (hb:RBox w b s i n) (hi:i≤s.size) (hs:s.size≤1000) :
  Calls Tryz.prog 49 #[.pointer (some ⟨b,0,none⟩)] w fun e w'=>(∀ r,pName s i = .ok r→e = .returned (.string r.1)∧RBox w' b s r.2 n)∧(∀ x,pName s i = .error x→e = .panicked (thrown x))∧Away b w w':=by
 have hg:=get_bt s
 have hcl:=blanks_any b s i n w hb hi hs
 have hk:=skip_le hi
 have HE:Hid (pName s i=if !(decide (skipB s i < s.size) && letterB (bt s (skipB s i))) then .error (2,skipB s i) else
  if 12 < wend s (skipB s i) - skipB s i then .error (6,skipB s i) else .ok (s.extract (skipB s i) (wend s (skipB s i)),wend s (skipB s i))):=rfl
 clear hb
 generalize skipB s i=k at *
 go_enter Tryz.func49,Tryz.ntmps49
 go_wp2_with fail
 refine hcl.mono ?_
 clear hcl
 rintro e w1 ⟨rfl,hr,hA⟩
 have c0:=hr.c0
 have c1:=hr.c1
 have Hr:=hidI hr
 have HA:=hidI hA
 clear hr hA
 by_cases hlt:k < s.size
 case neg =>
  have hke:((k:Int) == (s.size:Int))=true:=by rw [beq_iff_eq]; omega
  have HF:Hid (pName s i = .error (2,k)):=by rw [HE.out,decide_eq_false hlt]; rfl
  have hth:=throw_any 2 k w1
  clear HE
  go_wp2_with fail
  refine hth.mono ?_
  clear hth
  rintro e w2 ⟨rfl,rfl⟩
  exact ⟨rfl,fun j h=>(by rw [HF.out] at h; cases h),fun x h=>(by rw [HF.out] at h; cases h; rfl),HA.out⟩
 have hlt':(k:Int) < (s.size:Int):=by omega
 have hk0:(0:Int)≤(k:Int):=by omega
 have hke:((k:Int) == (s.size:Int))=false:=by rw [beq_eq_false_iff_ne]; omega
 have hL:=qletter_any (bt s k) w1
 go_wp2_with fail
 refine hL.mono ?_
 clear hL
 rintro e w2 ⟨rfl,hw2⟩
 have c0:=keptCell hw2 c0
 have c1:=keptCell hw2 c1
 have Hr2:=hidI (Hr.out.kept hw2)
 have HA2:Hid (Away b w w2):=HA.out.trans (Away.of hw2)
 clear hw2 Hr HA
 cases hl:letterB (bt s k) with
 | false =>
  have HF:Hid (pName s i = .error (2,k)):=by rw [HE.out,hl,decide_eq_true hlt]; rfl
  have hth:=throw_any 2 k w2
  clear HE hl
  go_wp2_with fail
  refine hth.mono ?_
  clear hth
  rintro e w3 ⟨rfl,rfl⟩
  exact ⟨rfl,fun j h=>(by rw [HF.out] at h; cases h),fun x h=>(by rw [HF.out] at h; cases h; rfl),HA2.out⟩
 | true =>
 rw [hl,decide_eq_true hlt] at HE
 clear hl hke
 go_wp2_with fail
 go_loopw [] (fun wr => ∃ j:Nat,k≤j∧j≤s.size∧RBox wr b s j n∧Hid (wend s k=wend s j)∧Away b w wr) (fun wr=>s.size - posOf wr b)
 case atStart=>exact ⟨k,Nat.le_refl _,hk,Hr2.out,rfl,HA2.out⟩
 case round =>
  clear c0 c1
  obtain ⟨j,hkj,hj,hr,HS,hA⟩:=hrel
  have c0:=hr.c0
  have c1:=hr.c1
  have f1:=hr.f1
  have Hr:=hidI hr
  have HAr:=hidI hA
  clear hr hA
  have d0:=cell_regrown c0
  have d1:=cell_regrown c1
  have cL:∀ d os,Calls Tryz.prog 73 #[.int .u8 (bt s j)] (grow (redrawn wr d) os) fun e w''=>e = .returned (.bool (letterB (bt s j)))∧∃ p:Regrown,w''=grow (redrawn wr p.d) p.os:=fun d os=>Calls.regrown_of (qletter_any _ _)
  have cD:∀ d os,Calls Tryz.prog 75 #[.int .u8 (bt s j)] (grow (redrawn wr d) os) fun e w''=>e = .returned (.bool (digitB (bt s j)))∧∃ p:Regrown,w''=grow (redrawn wr p.d) p.os:=fun d os=>Calls.regrown_of (qdigit_any _ _)
  have HD:Hid (∀ d os,RBox (grow (redrawn wr d) os) b s j n∧Away b w (grow (redrawn wr d) os)):=fun d os=>⟨Hr.out.kept (below_regrown wr d os),HAr.out.trans (Away.of (below_regrown wr d os))⟩
  by_cases hjl:j < s.size
  ·have hjl':(j:Int) < (s.size:Int):=by omega
   have hj0:(0:Int)≤(j:Int):=by omega
   have HY:Hid (wordB (bt s j)=true→wend s k=wend s (j + 1)):=fun h=>by rw [HS.out]; exact span_step hjl h
   have HN:Hid (wordB (bt s j)=false→wend s k=j):=fun h=>by rw [HS.out]; exact span_stop h
   have HW:Hid (wordB (bt s j)=(letterB (bt s j) || digitB (bt s j))):=rfl
   have HR2:Hid (∀ d os,RBox ((grow (redrawn wr d) os).setCell ⟨b,1,none⟩ (.int .i64 ((j:Int) + 1))) b s (j + 1) n∧Away b w ((grow (redrawn wr d) os).setCell ⟨b,1,none⟩ (.int .i64 ((j:Int) + 1)))):=fun d os =>
    ⟨(HD.out d os).1.setAt (j + 1),(HD.out d os).2.trans (Away.set _ _ _ _)⟩
   have HGO:Hid (∀ d os,(∃ j_1,k≤j_1∧j_1≤s.size∧RBox ((grow (redrawn wr d) os).setCell ⟨b,1,none⟩ (.int .i64 ((j:Int) + 1))) b s j_1 n∧Hid (wend s (j + 1)=wend s j_1)∧Away b w ((grow (redrawn wr d) os).setCell ⟨b,1,none⟩ (.int .i64 ((j:Int) + 1))))∧s.size - posOf ((grow (redrawn wr d) os).setCell ⟨b,1,none⟩ (.int .i64 ((j:Int) + 1))) b < s.size - posOf wr b):=fun d os =>
    ⟨⟨j + 1,by omega,by omega,(HR2.out d os).1,rfl,(HR2.out d os).2⟩,by rw [(HR2.out d os).1.pos,Hr.out.pos]; omega⟩
   cases hl:letterB (bt s j) with
   | true =>
    have HS2:=hidI (HY.out (by rw [HW.out,hl]; rfl))
    rw [hl] at cL
    go_wp2_with fail
    refine wp_region_quiet_below (by kernel_rfl) (by kernel_rfl) ?_
    repeat (go_big_quiet_step (first | exact cL _ _ | exact cD _ _))
    refine wpQuiet_nil ?_
    intro _ hw'
    obtain ⟨⟨dq,osq⟩,hw''⟩:=hw'
    subst hw''
    have g1:=(HD.out dq osq).1.c1
    have g2:=(HD.out dq osq).1.f1
    have HGO':=hidI (HGO.out dq osq)
    generalize grow (redrawn wr dq) osq=w3 at *
    go_wp2_with fail
    rw [HS2.out]
    exact HGO'.out
   | false =>
    cases hd:digitB (bt s j) with
    | true =>
     have HS2:=hidI (HY.out (by rw [HW.out,hl,hd]; rfl))
     rw [hl] at cL
     rw [hd] at cD
     go_wp2_with fail
     refine wp_region_quiet_below (by kernel_rfl) (by kernel_rfl) ?_
     repeat (go_big_quiet_step (first | exact cL _ _ | exact cD _ _))
     refine wpQuiet_nil ?_
     intro _ hw'
     obtain ⟨⟨dq,osq⟩,hw''⟩:=hw'
     subst hw''
     have g1:=(HD.out dq osq).1.c1
     have g2:=(HD.out dq osq).1.f1
     have HGO':=hidI (HGO.out dq osq)
     generalize grow (redrawn wr dq) osq=w3 at *
     go_wp2_with fail
     rw [HS2.out]
     exact HGO'.out
    | false =>
     have HS2:=hidI (HN.out (by rw [HW.out,hl,hd]; rfl))
     rw [hl] at cL
     rw [hd] at cD
     go_wp2_with fail
     refine wp_region_quiet_below (by kernel_rfl) (by kernel_rfl) ?_
     repeat (go_big_quiet_step (first | exact cL _ _ | exact cD _ _))
     refine wpQuiet_nil ?_
     intro _ hw'
     obtain ⟨⟨dq,osq⟩,hw''⟩:=hw'
     subst hw''
     have HB3:=hidI (HD.out dq osq)
     clear HD HR2 HGO cL cD d0 d1 c0 c1 f1 HY HN HW
     generalize grow (redrawn wr dq) osq=w3 at *
     have g0:=HB3.out.1.c0
     have g1:=HB3.out.1.c1
     have hjk0:(0:Int)≤(j:Int):=by omega
     have hjk1:(k:Int)≤(j:Int):=by omega
     have hjk2:(j:Int)≤(s.size:Int):=by omega
     rw [HS2.out] at HE
     by_cases h12:12 < j - k
     ·have h12':(12:Int) < (j:Int) - (k:Int):=by omega
      have HF:Hid (pName s i = .error (6,k)):=by rw [HE.out,if_neg (by decide),if_pos h12]; rfl
      have hth:=throw_any 6 k w3
      clear HE h12
      go_wp2_with fail
      refine hth.mono ?_
      clear hth
      rintro e w4 ⟨rfl,rfl⟩
      exact ⟨rfl,fun j h=>(by rw [HF.out] at h; cases h),fun x h=>(by rw [HF.out] at h; cases h; rfl),HB3.out.2⟩
     ·have h12' : ¬ (12:Int) < (j:Int) - (k:Int):=by omega
      have HF:Hid (pName s i = .ok (s.extract k j,j)):=by rw [HE.out,if_neg (by decide),if_neg h12]; rfl
      have HQ:Hid (∀ q,RBox (w3.drewN q) b s j n∧Away b w (w3.drewN q)):=fun q=>⟨HB3.out.1.kept (below_drewN w3 q),HB3.out.2.trans (Away.of (below_drewN w3 q))⟩
      clear HE h12
      go_wp2_with fail
      go_quiet (fail)
      go_wp2_with fail
      go_ret
      exact ⟨fun r h=>(by rw [HF.out] at h; cases h; exact ⟨rfl,(HQ.out _).1⟩),fun x h=>(by rw [HF.out] at h; cases h),(HQ.out _).2⟩
  ·have hjl' : ¬ (j:Int) < (s.size:Int):=by omega
   have HS2:Hid (wend s k=j):=by rw [HS.out]; exact span_end (by omega)
   go_wp2_with fail
   refine wp_region_quiet_below (by kernel_rfl) (by kernel_rfl) ?_
   repeat (go_big_quiet_step (first | exact cL _ _ | exact cD _ _))
   refine wpQuiet_nil ?_
   intro _ hw'
   obtain ⟨⟨dq,osq⟩,hw''⟩:=hw'
   subst hw''
   have HB3:=hidI (HD.out dq osq)
   clear HD cL cD d0 d1 c0 c1 f1
   generalize grow (redrawn wr dq) osq=w3 at *
   have g0:=HB3.out.1.c0
   have g1:=HB3.out.1.c1
   have hjk0:(0:Int)≤(j:Int):=by omega
   have hjk1:(k:Int)≤(j:Int):=by omega
   have hjk2:(j:Int)≤(s.size:Int):=by omega
   rw [HS2.out] at HE
   by_cases h12:12 < j - k
   ·have h12':(12:Int) < (j:Int) - (k:Int):=by omega
    have HF:Hid (pName s i = .error (6,k)):=by rw [HE.out,if_neg (by decide),if_pos h12]; rfl
    have hth:=throw_any 6 k w3
    clear HE h12
    go_wp2_with fail
    refine hth.mono ?_
    clear hth
    rintro e w4 ⟨rfl,rfl⟩
    exact ⟨rfl,fun j h=>(by rw [HF.out] at h; cases h),fun x h=>(by rw [HF.out] at h; cases h; rfl),HB3.out.2⟩
   ·have h12' : ¬ (12:Int) < (j:Int) - (k:Int):=by omega
    have HF:Hid (pName s i = .ok (s.extract k j,j)):=by rw [HE.out,if_neg (by decide),if_neg h12]; rfl
    have HQ:Hid (∀ q,RBox (w3.drewN q) b s j n∧Away b w (w3.drewN q)):=fun q=>⟨HB3.out.1.kept (below_drewN w3 q),HB3.out.2.trans (Away.of (below_drewN w3 q))⟩
    clear HE h12
    go_wp2_with fail
    go_quiet (fail)
    go_wp2_with fail
    go_ret
    exact ⟨fun r h=>(by rw [HF.out] at h; cases h; exact ⟨rfl,(HQ.out _).1⟩),fun x h=>(by rw [HF.out] at h; cases h),(HQ.out _).2⟩
end Go.Proofs.YtjjggefmmeminacGreat
namespace Go.Proofs.YtjjggefmmeminacGreat
open Go.RowKit Go.Sort Go.PlainAid
def PicksFree (X:Nat→Prop) (w:World) (d:Nat) (a:Option Addr) (L:List (Pick d)):Prop :=
 ∀ w':World,(∀ k,k < w.heap.size→¬ X k→w'.heap[k]? = w.heap[k]?)→PicksAt w' d a L
theorem PicksFree.at {X:Nat→Prop} {w:World} {d:Nat} {a:Option Addr} {L:List (Pick d)} (h:PicksFree X w d a L):PicksAt w d a L:=h w fun _ _ _=>rfl
theorem PicksFree.step {X Y:Nat→Prop} {w w':World} {d:Nat} {a:Option Addr} {L:List (Pick d)} (h:PicksFree X w d a L) (hs:w.heap.size≤w'.heap.size) (hk:∀ k,k < w.heap.size→¬ X k→w'.heap[k]? = w.heap[k]?) (hY:∀ k,k < w.heap.size→Y k→X k):PicksFree Y w' d a L :=
 fun w2 h2=>h w2 fun k h3 h4=>(h2 k (by omega) (fun hy=>h4 (hY k h3 hy))).trans (hk k h3 h4)
theorem PicksFree.none {X:Nat→Prop} {w:World} {d:Nat} {a:Option Addr} : PicksFree X w d a []:=fun _ _=>PicksAt.none
def PBox (w:World) (b:Nat) (s f:ByteArray) (A:Option Addr) (n C:Nat):Prop:=w.heap[b]? = some (.cells #[.string s,.string f,.slice A n C] 76 (0,0))
section
variable {w w':World} {b:Nat} {s f:ByteArray} {A:Option Addr} {n C:Nat}
theorem PBox.c0 (h:PBox w b s f A n C):w.cell? ⟨b,0,none⟩=some (.string s):=by simp [World.cell?,show w.heap[b]? = _ from h]
theorem PBox.c1 (h:PBox w b s f A n C):w.cell? ⟨b,1,none⟩=some (.string f):=by simp [World.cell?,show w.heap[b]? = _ from h]
theorem PBox.c2 (h:PBox w b s f A n C):w.cell? ⟨b,2,none⟩=some (.slice A n C):=by simp [World.cell?,show w.heap[b]? = _ from h]
theorem PBox.f0 (h:PBox w b s f A n C):w.frozen? ⟨b,0,none⟩=false:=by simp [World.frozen?,show w.heap[b]? = _ from h]
theorem PBox.f1 (h:PBox w b s f A n C):w.frozen? ⟨b,1,none⟩=false:=by simp [World.frozen?,show w.heap[b]? = _ from h]
theorem PBox.f2 (h:PBox w b s f A n C):w.frozen? ⟨b,2,none⟩=false:=by simp [World.frozen?,show w.heap[b]? = _ from h]
theorem PBox.lt (h:PBox w b s f A n C):b < w.heap.size:=block_lt_of_cell h.c0
theorem PBox.kept (h:PBox w b s f A n C) (hB:Below w.heap.size w w'):PBox w' b s f A n C:=(hB.block b h.lt).trans h
theorem PBox.away {r:Nat} (h:PBox w b s f A n C) (hA:Away r w w') (hr:b≠r):PBox w' b s f A n C:=(hA.block b h.lt hr).trans h
theorem PBox.set0 (h:PBox w b s f A n C) (s':ByteArray):PBox (w.setCell ⟨b,0,none⟩ (.string s')) b s' f A n C:=heap_setCell_same w b 0 _ 76 _ h
theorem PBox.set1 (h:PBox w b s f A n C) (f':ByteArray):PBox (w.setCell ⟨b,1,none⟩ (.string f')) b s f' A n C:=heap_setCell_same w b 1 _ 76 _ h
theorem PBox.set2 (h:PBox w b s f A n C) (A':Option Addr) (n' C':Nat):PBox (w.setCell ⟨b,2,none⟩ (.slice A' n' C')) b s f A' n' C':=heap_setCell_same w b 2 _ 76 _ h
theorem PBox.other {r o:Nat} {v:Value} (h:PBox w b s f A n C) (hr:b≠r):PBox (w.setCell ⟨r,o,none⟩ v) b s f A n C:=(Below.heap_setCell w ⟨r,o,none⟩ v b hr).trans h
end
theorem RBox.other {w:World} {b:Nat} {s:ByteArray} {i n:Nat} {r o:Nat} {v:Value} (h:RBox w b s i n) (hr:b≠r):RBox (w.setCell ⟨r,o,none⟩ v) b s i n:=(Below.heap_setCell w ⟨r,o,none⟩ v b hr).trans h
theorem Away.setNew {b:Nat} {w w':World} (h:Away b w w') {r o:Nat} {v:Value} (hr:w.heap.size≤r):Away b w (w'.setCell ⟨r,o,none⟩ v) :=
 ⟨h.os,h.tape,h.output,by simpa using h.size,fun k hk hb=>(Below.heap_setCell w' ⟨r,o,none⟩ v k (by show k≠r; omega)).trans (h.block k hk hb)⟩
theorem Away.from {b:Nat} {w w1 w':World} (h:Away b w1 w') (h1:Below w.heap.size w w1):Away b w w' :=
 ⟨h.os.trans h1.os,h.tape.trans h1.tape,h.output.trans h1.output,Nat.le_trans h1.size h.size,fun k hk hb=>(h.block k (Nat.lt_of_lt_of_le hk h1.size) hb).trans (h1.block k hk)⟩
def ListOk (d:Nat):Prop := ∀ (b:Nat) (s:ByteArray) (i n deep:Nat) (w:World),deep + d=9→RBox w b s i n→i≤s.size→n≤60→s.size≤1000 →
  Calls Tryz.prog 51 #[.pointer (some ⟨b,0,none⟩),.int .i64 (deep:Int)] w fun e w' =>
   (∀ r,pList s d i n = .ok r→∃ a cap,e = .returned (.slice a r.1.length cap)∧r.1.length≤cap∧RBox w' b s r.2.1 r.2.2∧PicksFree (fun k=>k < w.heap.size) w' d a r.1)∧(∀ x,pList s d i n = .error x→e = .panicked (thrown x))∧Away b w w'
end Go.Proofs.YtjjggefmmeminacGreat
namespace Go.Proofs.YtjjggefmmeminacGreat
open Go.RowKit Go.Sort Go.PlainAid
def PickOut (d:Nat) (b:Nat) (s:ByteArray) (w:World) (v:Except (Int × Nat) (Pick (d + 1) × Nat × Nat)) (e:Ending) (w':World):Prop :=
 (∀ r,v = .ok r→∃ A C,e = .returned (.agg #[.string (nick r.1),.string (pfield r.1),.slice A (subs r.1).length C])∧(subs r.1).length≤C∧RBox w' b s r.2.1 r.2.2∧PicksFree (fun k=>k < w.heap.size) w' d A (subs r.1))∧(∀ x,v = .error x→e = .panicked (thrown x))∧Away b w w'
set_option maxRecDepth 100000 in
set_option maxHeartbeats 2000000 in
theorem pick_any (d:Nat) (ih:ListOk d) (b:Nat) (s:ByteArray) (i n deep:Nat) (w:World) (hd:deep + d=8) (hb:RBox w b s i n) (hi:i≤s.size) (hn:n≤60) (hs:s.size≤1000) :
  Calls Tryz.prog 77 #[.pointer (some ⟨b,0,none⟩),.int .i64 (deep:Int)] w fun e w'=>PickOut d b s w (pPick s (pList s d) i n) e w':=by
 generalize hW:w.alloc (Obj.cells #[.string ⟨#[]⟩,.string ⟨#[]⟩,.slice none 0 0] 76)=W
 have hBW:Below w.heap.size w W:=by rw [← hW]; exact below1 _ _
 have pr:PBox W w.heap.size ⟨#[]⟩ ⟨#[]⟩ none 0 0:=by rw [← hW]; exact heap_alloc_new _ _
 have hbl:=hb.lt
 have hcl:=name_any b s i n W (hb.kept hBW) hi hs
 have HBW:=hidI hBW
 have HPR:=hidI pr
 clear hb hBW pr
 go_enter Tryz.func77,Tryz.ntmps77
 go_wp2_with fail
 clear hW
 refine hcl.mono ?_
 clear hcl
 rintro e w1 ⟨hok,herr,hA⟩
 have hAw:=hA.from HBW.out
 cases hnm:pName s i with
 | error x =>
  have HF:Hid (pPick s (pList s d) i n = .error x):=by unfold pPick; rw [hnm]; rfl
  rw [herr x hnm]
  exact ⟨rfl,fun r h=>(by rw [HF.out] at h; cases h),fun y h=>(by rw [HF.out] at h; cases h; rfl),hAw⟩
 | ok r =>
 obtain ⟨rfl,hr1⟩:=hok r hnm
 obtain ⟨ha1,ha2,hr12⟩:=pName_at hnm
 have HP:Hid (pPick s (pList s d) i n=if 60 < n + 1 then .error (4,r.2) else if isAt s (skipB s r.2) 58 then (match pName s (skipB s r.2 + 1) with | .error e=>.error e | .ok r'=>pTail s (pList s d) r.1 r'.1 r'.2 (n + 1)) else pTail s (pList s d) ⟨#[]⟩ r.1 (skipB s r.2) (n + 1)):=by
  unfold pPick; rw [hnm]; rfl
 have HPR1:=hidI (HPR.out.away hA (by omega))
 have hsz1:=hA.size
 have hszW:=HBW.out.size
 clear hok herr hnm hA HPR
 generalize hX:w1.setCell ⟨b,2,none⟩ (.int .i64 ((n + 1:Nat):Int))=X
 have hX':w1.setCell ⟨b,2,none⟩ (.int .i64 ((n:Int) + 1))=X:=by rw [← hX]; rfl
 have hrX:RBox X b s r.2 (n + 1):=by rw [← hX]; exact hr1.setN _
 have hsX:X.heap.size=w1.heap.size:=by rw [← hX]; simp
 have HPRX:Hid (PBox X w.heap.size ⟨#[]⟩ ⟨#[]⟩ none 0 0):=by rw [← hX]; exact HPR1.out.other (by omega)
 have HAX:Hid (Away b w X):=by rw [← hX]; exact hAw.trans (Away.set _ _ _ _)
 obtain ⟨U,hU⟩:∃ U,U=X.alloc (Obj.cells #[.string ⟨#[]⟩,.string r.1,.slice none 0 0] 76):=⟨_,rfl⟩
 have hBU:Below X.heap.size X U:=by rw [hU]; exact below1 _ _
 have HPP:Hid (PBox U w1.heap.size ⟨#[]⟩ r.1 none 0 0):=by rw [hU,← hsX]; exact heap_alloc_new _ _
 have HPR2:=hidI (HPRX.out.kept hBU)
 have HAU:Hid (Away b w U):=HAX.out.trans (Away.of hBU)
 have HRU:=hidI (hrX.kept hBU)
 have v2:=hr1.c2
 have g2:=hr1.f2
 have u1:=hrX.c1
 have u2:=hrX.c2
 have hbX:=hrX.lt
 have hb1:=hr1.lt
 have hpb:w.heap.size < w1.heap.size:=HPR1.out.lt
 clear hX hBU hrX hr1 HPR1 hAw HPRX HAX
 by_cases h60:60 < n + 1
 ·have h60':(60:Int) < (n:Int) + 1:=by omega
  have HF:Hid (pPick s (pList s d) i n = .error (4,r.2)):=by rw [HP.out,if_pos h60]; rfl
  have hth:=throw_any 4 r.2 U
  clear HP h60
  rw [hU] at hth
  go_wp2_with fail
  refine hth.mono ?_
  clear hth
  rintro e w4 ⟨rfl,rfl⟩
  exact ⟨rfl,fun j h=>(by rw [HF.out] at h; cases h),fun x h=>(by rw [HF.out] at h; cases h; rfl),(by rw [← hU]; exact HAU.out)⟩
 have h60' : ¬ (60:Int) < (n:Int) + 1:=by omega
 rw [if_neg h60] at HP
 have hcl:=comes_any b s r.2 (n + 1) 58 U HRU.out ha2 hs
 rw [hU] at hcl
 go_wp2_with fail
 rw [← hU]
 rw [← hU] at hcl
 clear hX' v2 g2 u1 u2 hU
 refine hcl.mono ?_
 clear hcl
 rintro e w2 ⟨rfl,hr2,hA2⟩
 have HPP2:=hidI (HPP.out.away hA2 (by have:=hr2.lt; omega))
 have HPR3:=hidI (HPR2.out.away hA2 (by omega))
 have HA2:Hid (Away b w w2):=HAU.out.trans hA2
 have hsz2:=hA2.size
 have hk:=skip_le ha2
 clear hA2 HPP HPR2 HAU HRU
 have HR2:=hidI hr2
 clear hr2
 have hss:=skip_skip s r.2
 generalize skipB s r.2=i2 at *
 cases hc2:isAt s i2 58 with
 | false =>
  have HT:Hid (pPick s (pList s d) i n=pTail s (pList s d) ⟨#[]⟩ r.1 i2 (n + 1)):=by rw [HP.out,hc2]; rfl
  have HRY:=HR2
  have hIs:=hk
  have HPPY:=HPP2
  have HPRY:=HPR3
  have HAY:=HA2
  clear HP hc2 HR2 HPP2 HPR3 HA2 hss
  have hcl:=comes_any b s i2 (n + 1) 123 w2 HRY.out hIs hs
  have HTT:Hid (pPick s (pList s d) i n=if isAt s (skipB s i2) 123 then (match pList s d (skipB s i2) (n + 1) with | .error e=>.error e | .ok q=>.ok (mkPick ⟨#[]⟩ r.1 q.1,q.2.1,q.2.2)) else .ok (mkPick ⟨#[]⟩ r.1 [],skipB s i2,n + 1)):=HT.out
  have hk5:=skip_le hIs
  clear HT
  generalize skipB s i2=i5 at *
  go_wp2_with fail
  refine hcl.mono ?_
  clear hcl
  rintro e w5 ⟨rfl,hr5,hA5⟩
  have HPP5:=hidI (HPPY.out.away hA5 (by have:=hr5.lt; omega))
  have HPR5:=hidI (HPRY.out.away hA5 (by omega))
  have HA5:Hid (Away b w w5):=HAY.out.trans hA5
  have HR5:=hidI hr5
  clear hA5 HPPY HPRY HAY HRY hr5
  cases hc:isAt s i5 123 with
  | false =>
   have HF:Hid (pPick s (pList s d) i n = .ok (mkPick ⟨#[]⟩ r.1 [],i5,n + 1)):=by rw [HTT.out,hc]; rfl
   have q0:=HPP5.out.c0
   have q1:=HPP5.out.c1
   have q2:=HPP5.out.c2
   have z0:=HPR5.out.c0
   have z1:=HPR5.out.c1
   have z2:=HPR5.out.c2
   have y0:=HPR5.out.f0
   have y1:=HPR5.out.f1
   have y2:=HPR5.out.f2
   have HER:Hid (RBox (((w5.setCell ⟨w.heap.size,0,none⟩ (.string ⟨#[]⟩)).setCell ⟨w.heap.size,1,none⟩ (.string r.1)).setCell ⟨w.heap.size,2,none⟩ (.slice none 0 0)) b s i5 (n + 1)):=((HR5.out.other (by omega)).other (by omega)).other (by omega)
   have HEA:Hid (Away b w (((w5.setCell ⟨w.heap.size,0,none⟩ (.string ⟨#[]⟩)).setCell ⟨w.heap.size,1,none⟩ (.string r.1)).setCell ⟨w.heap.size,2,none⟩ (.slice none 0 0))):=((HA5.out.setNew (Nat.le_refl _)).setNew (Nat.le_refl _)).setNew (Nat.le_refl _)
   clear hc HTT
   go_wp2_with fail
   exact bodyPost_ret (v:=.agg #[.string ⟨#[]⟩,.string r.1,.slice none 0 0]) (by simp [results,Tryz.results77,go_sem,z0,z1,z2]) rfl ⟨fun r h=>(by rw [HF.out] at h; cases h; exact ⟨none,0,rfl,Nat.le_refl _,HER.out,PicksFree.none⟩),fun x h=>(by rw [HF.out] at h; cases h),HEA.out⟩
  | true =>
   have hcl:=ih b s i5 (n + 1) (deep + 1) w5 (by omega) HR5.out hk5 (by omega) hs
   have q2:=HPP5.out.c2
   go_wp2_with fail
   refine hcl.mono ?_
   clear hcl
   rintro e w6 ⟨hok,herr,hA6⟩
   cases hl:pList s d i5 (n + 1) with
   | error x =>
    have HF:Hid (pPick s (pList s d) i n = .error x):=by rw [HTT.out,hc,hl]; rfl
    rw [herr x hl]
    exact ⟨rfl,fun r h=>(by rw [HF.out] at h; cases h),fun y h=>(by rw [HF.out] at h; cases h; rfl),HA5.out.trans hA6⟩
   | ok r6 =>
    have HF:Hid (pPick s (pList s d) i n = .ok (mkPick ⟨#[]⟩ r.1 r6.1,r6.2.1,r6.2.2)):=by rw [HTT.out,hc,hl]; rfl
    obtain ⟨a6,c6,rfl,hc6,hr6,hf6⟩:=hok r6 hl
    have HPP6:=hidI (HPP5.out.away hA6 (by have:=hr6.lt; omega))
    have HPR6:=hidI (HPR5.out.away hA6 (by omega))
    have hp6:=HPP6.out.f2
    have hp6c:=HPP6.out.c2
    have hlt5:=HPP5.out.lt
    generalize hX6:w6.setCell ⟨w1.heap.size,2,none⟩ (.slice a6 r6.1.length c6)=X6
    have HPP7:Hid (PBox X6 w1.heap.size ⟨#[]⟩ r.1 a6 r6.1.length c6):=by rw [← hX6]; exact HPP6.out.set2 _ _ _
    have HPR7:Hid (PBox X6 w.heap.size ⟨#[]⟩ ⟨#[]⟩ none 0 0):=by rw [← hX6]; exact HPR6.out.other (by omega)
    have HR7:Hid (RBox X6 b s r6.2.1 r6.2.2):=by rw [← hX6]; exact hr6.other (by omega)
    have HA7:Hid (Away b w X6):=by rw [← hX6]; exact (HA5.out.trans hA6).setNew (by omega)
    have HFREE:Hid (PicksFree (fun k=>k < w.heap.size) (((X6.setCell ⟨w.heap.size,0,none⟩ (.string ⟨#[]⟩)).setCell ⟨w.heap.size,1,none⟩ (.string r.1)).setCell ⟨w.heap.size,2,none⟩ (.slice a6 r6.1.length c6)) d a6 r6.1):=by
     have hsw:=HA5.out.size
     refine hf6.step (by rw [← hX6]; simp) (fun k hk hnk=>?_) (fun k _ hk=>by show k < w5.heap.size; omega)
     have h1 : ¬ k < w5.heap.size:=hnk
     rw [Below.heap_setCell _ _ _ _ (by show k≠w.heap.size; omega),Below.heap_setCell _ _ _ _ (by show k≠w.heap.size; omega),Below.heap_setCell _ _ _ _ (by show k≠w.heap.size; omega),← hX6,Below.heap_setCell _ _ _ _ (by show k≠w1.heap.size; omega)]
    have q0:=HPP7.out.c0
    have q1:=HPP7.out.c1
    have q2:=HPP7.out.c2
    have z0:=HPR7.out.c0
    have z1:=HPR7.out.c1
    have z2:=HPR7.out.c2
    have y0:=HPR7.out.f0
    have y1:=HPR7.out.f1
    have y2:=HPR7.out.f2
    have HER:Hid (RBox (((X6.setCell ⟨w.heap.size,0,none⟩ (.string ⟨#[]⟩)).setCell ⟨w.heap.size,1,none⟩ (.string r.1)).setCell ⟨w.heap.size,2,none⟩ (.slice a6 r6.1.length c6)) b s r6.2.1 r6.2.2):=((HR7.out.other (by omega)).other (by omega)).other (by omega)
    have HEA:Hid (Away b w (((X6.setCell ⟨w.heap.size,0,none⟩ (.string ⟨#[]⟩)).setCell ⟨w.heap.size,1,none⟩ (.string r.1)).setCell ⟨w.heap.size,2,none⟩ (.slice a6 r6.1.length c6))):=((HA7.out.setNew (Nat.le_refl _)).setNew (Nat.le_refl _)).setNew (Nat.le_refl _)
    clear hc HTT hok herr hA6 hf6 hr6 hl
    go_wp2_with fail
    exact bodyPost_ret (v:=.agg #[.string ⟨#[]⟩,.string r.1,.slice a6 r6.1.length c6]) (by simp [results,Tryz.results77,go_sem,z0,z1,z2]) rfl ⟨fun r h=>(by rw [HF.out] at h; cases h; exact ⟨a6,c6,rfl,hc6,HER.out,HFREE.out⟩),fun x h=>(by rw [HF.out] at h; cases h),HEA.out⟩
 | true =>
  have hcl:=sign_any b s i2 (n + 1) 58 w2 HR2.out hk hs
  have HSG:Hid (pSign s 58 i2 = .ok (i2 + 1)):=by unfold pSign; rw [hss,hc2]; rfl
  have hlt2:=isAt_lt hc2
  have HP2:Hid (pPick s (pList s d) i n=(match pName s (i2 + 1) with | .error e=>.error e | .ok r'=>pTail s (pList s d) r.1 r'.1 r'.2 (n + 1))):=by rw [HP.out,hc2]; rfl
  clear HP hc2 hss
  go_wp2_with fail
  refine hcl.mono ?_
  clear hcl
  rintro e w3 ⟨hok,-,hA3⟩
  obtain ⟨rfl,hr3⟩:=hok _ HSG.out
  have hpp3:=HPP2.out.away hA3 (by have:=hr3.lt; omega)
  have HPR4:=hidI (HPR3.out.away hA3 (by omega))
  have hA3':=HA2.out.trans hA3
  have q1:=hpp3.c1
  have q0:=hpp3.c0
  have y0:=hpp3.f0
  generalize hX3:w3.setCell ⟨w1.heap.size,0,none⟩ (.string r.1)=X3
  have hp4:PBox X3 w1.heap.size r.1 r.1 none 0 0:=by rw [← hX3]; exact hpp3.set0 _
  have hr4:RBox X3 b s (i2 + 1) (n + 1):=by rw [← hX3]; exact hr3.other (by omega)
  have HPR5:Hid (PBox X3 w.heap.size ⟨#[]⟩ ⟨#[]⟩ none 0 0):=by rw [← hX3]; exact HPR4.out.other (by omega)
  have HA4:Hid (Away b w X3):=by rw [← hX3]; exact hA3'.setNew (by omega)
  have HP4:=hidI hp4
  have hcl:=name_any b s (i2 + 1) (n + 1) X3 hr4 (by omega) hs
  clear hok hA3 hA3' hpp3 hp4 hr4 hr3 HPR4 HPR3 HPP2 HR2 HA2
  go_wp2_with fail
  clear hX3 q0 q1 y0
  refine hcl.mono ?_
  clear hcl
  rintro e w4 ⟨hok,herr,hA4⟩
  cases hnm:pName s (i2 + 1) with
  | error x =>
   have HF:Hid (pPick s (pList s d) i n = .error x):=by rw [HP2.out,hnm]; rfl
   rw [herr x hnm]
   exact ⟨rfl,fun r h=>(by rw [HF.out] at h; cases h),fun y h=>(by rw [HF.out] at h; cases h; rfl),HA4.out.trans hA4⟩
  | ok r' =>
  obtain ⟨rfl,hr4⟩:=hok r' hnm
  obtain ⟨hb1',hIs,hr12'⟩:=pName_at hnm
  have HT:Hid (pPick s (pList s d) i n=pTail s (pList s d) r.1 r'.1 r'.2 (n + 1)):=by rw [HP2.out,hnm]; rfl
  have hpp4:=HP4.out.away hA4 (by have:=hr4.lt; omega)
  have hpr4:=HPR5.out.away hA4 (by omega)
  have hA4':=HA4.out.trans hA4
  have y1:=hpp4.f1
  have q1:=hpp4.c1
  generalize hX4:w4.setCell ⟨w1.heap.size,1,none⟩ (.string r'.1)=X4
  have HPPY:Hid (PBox X4 w1.heap.size r.1 r'.1 none 0 0):=by rw [← hX4]; exact hpp4.set1 _
  have HRY:Hid (RBox X4 b s r'.2 (n + 1)):=by rw [← hX4]; exact hr4.other (by omega)
  have HPRY:Hid (PBox X4 w.heap.size ⟨#[]⟩ ⟨#[]⟩ none 0 0):=by rw [← hX4]; exact hpr4.other (by omega)
  have HAY:Hid (Away b w X4):=by rw [← hX4]; exact hA4'.setNew (by omega)
  clear hok herr hA4 hpp4 hpr4 hA4' hr4 hnm HP2 HPR5 HA4 HP4
  have hcl:=comes_any b s r'.2 (n + 1) 123 X4 HRY.out hIs hs
  have HTT:Hid (pPick s (pList s d) i n=if isAt s (skipB s r'.2) 123 then (match pList s d (skipB s r'.2) (n + 1) with | .error e=>.error e | .ok q=>.ok (mkPick r.1 r'.1 q.1,q.2.1,q.2.2)) else .ok (mkPick r.1 r'.1 [],skipB s r'.2,n + 1)):=HT.out
  have hk5:=skip_le hIs
  clear HT
  generalize skipB s r'.2=i5 at *
  go_wp2_with fail
  refine hcl.mono ?_
  clear hcl
  rintro e w5 ⟨rfl,hr5,hA5⟩
  have HPP5:=hidI (HPPY.out.away hA5 (by have:=hr5.lt; omega))
  have HPR5:=hidI (HPRY.out.away hA5 (by omega))
  have HA5:Hid (Away b w w5):=HAY.out.trans hA5
  have HR5:=hidI hr5
  clear hA5 HPPY HPRY HAY HRY hr5
  cases hc:isAt s i5 123 with
  | false =>
   have HF:Hid (pPick s (pList s d) i n = .ok (mkPick r.1 r'.1 [],i5,n + 1)):=by rw [HTT.out,hc]; rfl
   have q0:=HPP5.out.c0
   have q1:=HPP5.out.c1
   have q2:=HPP5.out.c2
   have z0:=HPR5.out.c0
   have z1:=HPR5.out.c1
   have z2:=HPR5.out.c2
   have y0:=HPR5.out.f0
   have y1:=HPR5.out.f1
   have y2:=HPR5.out.f2
   have HER:Hid (RBox (((w5.setCell ⟨w.heap.size,0,none⟩ (.string r.1)).setCell ⟨w.heap.size,1,none⟩ (.string r'.1)).setCell ⟨w.heap.size,2,none⟩ (.slice none 0 0)) b s i5 (n + 1)):=((HR5.out.other (by omega)).other (by omega)).other (by omega)
   have HEA:Hid (Away b w (((w5.setCell ⟨w.heap.size,0,none⟩ (.string r.1)).setCell ⟨w.heap.size,1,none⟩ (.string r'.1)).setCell ⟨w.heap.size,2,none⟩ (.slice none 0 0))):=((HA5.out.setNew (Nat.le_refl _)).setNew (Nat.le_refl _)).setNew (Nat.le_refl _)
   clear hc HTT
   go_wp2_with fail
   exact bodyPost_ret (v:=.agg #[.string r.1,.string r'.1,.slice none 0 0]) (by simp [results,Tryz.results77,go_sem,z0,z1,z2]) rfl ⟨fun r h=>(by rw [HF.out] at h; cases h; exact ⟨none,0,rfl,Nat.le_refl _,HER.out,PicksFree.none⟩),fun x h=>(by rw [HF.out] at h; cases h),HEA.out⟩
  | true =>
   have hcl:=ih b s i5 (n + 1) (deep + 1) w5 (by omega) HR5.out hk5 (by omega) hs
   have q2:=HPP5.out.c2
   go_wp2_with fail
   refine hcl.mono ?_
   clear hcl
   rintro e w6 ⟨hok,herr,hA6⟩
   cases hl:pList s d i5 (n + 1) with
   | error x =>
    have HF:Hid (pPick s (pList s d) i n = .error x):=by rw [HTT.out,hc,hl]; rfl
    rw [herr x hl]
    exact ⟨rfl,fun r h=>(by rw [HF.out] at h; cases h),fun y h=>(by rw [HF.out] at h; cases h; rfl),HA5.out.trans hA6⟩
   | ok r6 =>
    have HF:Hid (pPick s (pList s d) i n = .ok (mkPick r.1 r'.1 r6.1,r6.2.1,r6.2.2)):=by rw [HTT.out,hc,hl]; rfl
    obtain ⟨a6,c6,rfl,hc6,hr6,hf6⟩:=hok r6 hl
    have HPP6:=hidI (HPP5.out.away hA6 (by have:=hr6.lt; omega))
    have HPR6:=hidI (HPR5.out.away hA6 (by omega))
    have hp6:=HPP6.out.f2
    have hp6c:=HPP6.out.c2
    have hlt5:=HPP5.out.lt
    generalize hX6:w6.setCell ⟨w1.heap.size,2,none⟩ (.slice a6 r6.1.length c6)=X6
    have HPP7:Hid (PBox X6 w1.heap.size r.1 r'.1 a6 r6.1.length c6):=by rw [← hX6]; exact HPP6.out.set2 _ _ _
    have HPR7:Hid (PBox X6 w.heap.size ⟨#[]⟩ ⟨#[]⟩ none 0 0):=by rw [← hX6]; exact HPR6.out.other (by omega)
    have HR7:Hid (RBox X6 b s r6.2.1 r6.2.2):=by rw [← hX6]; exact hr6.other (by omega)
    have HA7:Hid (Away b w X6):=by rw [← hX6]; exact (HA5.out.trans hA6).setNew (by omega)
    have HFREE:Hid (PicksFree (fun k=>k < w.heap.size) (((X6.setCell ⟨w.heap.size,0,none⟩ (.string r.1)).setCell ⟨w.heap.size,1,none⟩ (.string r'.1)).setCell ⟨w.heap.size,2,none⟩ (.slice a6 r6.1.length c6)) d a6 r6.1):=by
     have hsw:=HA5.out.size
     refine hf6.step (by rw [← hX6]; simp) (fun k hk hnk=>?_) (fun k _ hk=>by show k < w5.heap.size; omega)
     have h1 : ¬ k < w5.heap.size:=hnk
     rw [Below.heap_setCell _ _ _ _ (by show k≠w.heap.size; omega),Below.heap_setCell _ _ _ _ (by show k≠w.heap.size; omega),Below.heap_setCell _ _ _ _ (by show k≠w.heap.size; omega),← hX6,Below.heap_setCell _ _ _ _ (by show k≠w1.heap.size; omega)]
    have q0:=HPP7.out.c0
    have q1:=HPP7.out.c1
    have q2:=HPP7.out.c2
    have z0:=HPR7.out.c0
    have z1:=HPR7.out.c1
    have z2:=HPR7.out.c2
    have y0:=HPR7.out.f0
    have y1:=HPR7.out.f1
    have y2:=HPR7.out.f2
    have HER:Hid (RBox (((X6.setCell ⟨w.heap.size,0,none⟩ (.string r.1)).setCell ⟨w.heap.size,1,none⟩ (.string r'.1)).setCell ⟨w.heap.size,2,none⟩ (.slice a6 r6.1.length c6)) b s r6.2.1 r6.2.2):=((HR7.out.other (by omega)).other (by omega)).other (by omega)
    have HEA:Hid (Away b w (((X6.setCell ⟨w.heap.size,0,none⟩ (.string r.1)).setCell ⟨w.heap.size,1,none⟩ (.string r'.1)).setCell ⟨w.heap.size,2,none⟩ (.slice a6 r6.1.length c6))):=((HA7.out.setNew (Nat.le_refl _)).setNew (Nat.le_refl _)).setNew (Nat.le_refl _)
    clear hc HTT hok herr hA6 hf6 hr6 hl
    go_wp2_with fail
    exact bodyPost_ret (v:=.agg #[.string r.1,.string r'.1,.slice a6 r6.1.length c6]) (by simp [results,Tryz.results77,go_sem,z0,z1,z2]) rfl ⟨fun r h=>(by rw [HF.out] at h; cases h; exact ⟨a6,c6,rfl,hc6,HER.out,HFREE.out⟩),fun x h=>(by rw [HF.out] at h; cases h),HEA.out⟩
end Go.Proofs.YtjjggefmmeminacGreat
namespace Go.Proofs.YtjjggefmmeminacGreat
open Go.RowKit Go.Sort Go.PlainAid
def pickCell {d:Nat} (L:List (Pick (d + 1))) (av:Nat→Value) (j:Nat):Value:=if j % 3=0 then .string (nick (pickN L (j / 3))) else if j % 3=1 then .string (pfield (pickN L (j / 3))) else av (j / 3)
def pickL {d:Nat} (p:Pick (d + 1)) (v:Value):List Value:=[.string (nick p),.string (pfield p),v]
theorem pickN_snoc {d:Nat} {L:List (Pick (d + 1))} {p:Pick (d + 1)} {q:Nat} (h:q < L.length):pickN (L ++ [p]) q=pickN L q:=by simp [pickN,List.getD,List.getElem?_append,h]
theorem pickN_last {d:Nat} {L:List (Pick (d + 1))} {p:Pick (d + 1)} : pickN (L ++ [p]) L.length=p:=by simp [pickN,List.getD]
theorem pickCells_app {d:Nat} (L:List (Pick (d + 1))) (p:Pick (d + 1)) (av:Nat→Value) (v:Value):(List.range ((L.length + 1) * 3)).map (pickCell (L ++ [p]) (fun i=>if i=L.length then v else av i))=(List.range (L.length * 3)).map (pickCell L av) ++ pickL p v:=by
 rw [show (L.length + 1) * 3=L.length * 3 + 1 + 1 + 1 by omega,List.range_succ,List.range_succ,List.range_succ]
 simp only [List.map_append,List.map_cons,List.map_nil,List.append_assoc]
 have e1:(List.range (L.length * 3)).map (pickCell (L ++ [p]) (fun i=>if i=L.length then v else av i))=(List.range (L.length * 3)).map (pickCell L av):=by
  refine List.map_congr_left fun j hj=>?_
  have hj':j < L.length * 3:=by simpa using hj
  unfold pickCell
  have e:(fun i=>if i=L.length then v else av i) (j / 3)=av (j / 3):=if_neg (by omega)
  rw [pickN_snoc (by omega),e]
 have e2:(fun i=>if i=L.length then v else av i) L.length=v:=if_pos rfl
 rw [e1]
 unfold pickCell pickL
 rw [if_pos (by omega),if_neg (by omega),if_pos (by omega),if_neg (by omega),if_neg (by omega),show L.length * 3 / 3=L.length by omega,show (L.length * 3 + 1) / 3=L.length by omega,show (L.length * 3 + 1 + 1) / 3=L.length by omega,pickN_last,e2]
 rfl
structure LRow (N0 d:Nat) (w:World) (v:Value) (L:List (Pick (d + 1))) (av:Nat→Value):Prop where
 row:Row w N0 76 3 v L.length (pickCell L av)
 sub:∀ i,i < L.length→∃ A C,av i = .slice A (subs (pickN L i)).length C∧(subs (pickN L i)).length≤C∧Small (nick (pickN L i))∧Small (pfield (pickN L i))∧PicksFree (fun q=>q < N0∨v.ownBlock=some q) w d A (subs (pickN L i))
theorem LRow.nil (N0 d:Nat) (w:World) (av:Nat→Value):LRow N0 d w (.slice none 0 0) [] av:=⟨⟨rfl,.inl ⟨rfl,rfl⟩⟩,fun _ hi=>absurd hi (Nat.not_lt_zero _)⟩
theorem LRow.move {N0 d:Nat} {w w':World} {v:Value} {L:List (Pick (d + 1))} {av:Nat→Value} (h:LRow N0 d w v L av) (hs:w.heap.size≤w'.heap.size) (hk:∀ k,k < w.heap.size→N0≤k→w'.heap[k]? = w.heap[k]?):LRow N0 d w' v L av :=
 ⟨h.row.at fun k hk'=>hk k (h.row.lt hk').2 (h.row.lt hk').1,fun i hi=>let ⟨A,C,e,hc,s0,s1,hf⟩:=h.sub i hi; ⟨A,C,e,hc,s0,s1,hf.step hs (fun k h1 h2=>hk k h1 (by
  rcases Nat.lt_or_ge k N0 with h3 | h3
  ·exact absurd (Or.inl h3) h2
  ·exact h3)) (fun k _ hx=>hx)⟩⟩
theorem LRow.away {N0 d b:Nat} {w w':World} {v:Value} {L:List (Pick (d + 1))} {av:Nat→Value} (h:LRow N0 d w v L av) (hA:Away b w w') (hb:b < N0):LRow N0 d w' v L av :=
 h.move hA.size fun k hk hn=>hA.block k hk (by omega)
theorem LRow.kept {N0 d:Nat} {w w':World} {v:Value} {L:List (Pick (d + 1))} {av:Nat→Value} (h:LRow N0 d w v L av) (hB:Below w.heap.size w w'):LRow N0 d w' v L av :=
 h.move hB.size fun k hk _=>hB.block k hk
theorem LRow.app {N0 d B:Nat} {w w':World} {v v':Value} {L:List (Pick (d + 1))} {av:Nat→Value} {p:Pick (d + 1)} {A:Option Addr} {C:Nat} (h:LRow N0 d w v L av) (hC:(subs p).length≤C) (s0:Small (nick p)) (s1:Small (pfield p)) (hf:PicksFree (fun k=>k < B) w d A (subs p)) (hB:N0≤B) (hv:∀ k,v.ownBlock=some k→k < B)
  (hown:w'.ownsRow N0 76 3 v' (L.length + 1) ((List.range (L.length * 3)).map (pickCell L av) ++ pickL p (.slice A (subs p).length C))) (hg:w.grownBy w' v.ownBlock) (hv':v'.ownBlock=v.ownBlock∨v'.ownBlock=some w.heap.size) :
  LRow N0 d w' v' (L ++ [p]) (fun i=>if i=L.length then .slice A (subs p).length C else av i):=by
 have hl:(L ++ [p]).length=L.length + 1:=by simp
 refine ⟨?_,fun i hi=>?_⟩
 ·unfold Row; rw [hl,pickCells_app]; exact hown
 ·rw [hl] at hi
  rcases Nat.lt_succ_iff_lt_or_eq.1 hi with hi' | hi'
  ·obtain ⟨A1,C1,e1,h1,h2,h3,h4⟩:=h.sub i hi'
   rw [pickN_snoc hi',if_neg (by omega)]
   refine ⟨A1,C1,e1,h1,h2,h3,h4.step hg.size (fun k hk hx=>hg.block k hk (fun e=>hx (.inr e.symm))) (fun k hk hx=>?_)⟩
   rcases hx with hx | hx
   ·exact .inl hx
   ·rcases hv' with e | e
    ·exact .inr (by rw [← e]; exact hx)
    ·rw [e] at hx; cases hx; omega
  ·subst hi'
   rw [pickN_last,if_pos rfl]
   refine ⟨A,C,rfl,hC,s0,s1,hf.step hg.size (fun k hk hx=>hg.block k hk (fun e=>hx (hv k e.symm))) (fun k hk hx=>?_)⟩
   rcases hx with hx | hx
   ·show k < B; omega
   ·rcases hv' with e | e
    ·exact hv k (by rw [← e]; exact hx)
    ·rw [e] at hx; cases hx; omega
theorem LRow.out {N0 d:Nat} {w:World} {v:Value} {L:List (Pick (d + 1))} {av:Nat→Value} (h:LRow N0 d w v L av) (hm:L.length≤maxLen):∃ a cap,v = .slice a L.length cap∧L.length≤cap∧PicksFree (fun k=>k < N0) w (d + 1) a L:=by
 rcases h.row.shape with ⟨e,h0⟩ | ⟨g,cap,e,hg,hc,-⟩
 ·have:L = []:=List.eq_nil_of_length_eq_zero h0
  subst this
  exact ⟨none,0,e,Nat.le_refl _,PicksFree.none⟩
 ·subst e
  refine ⟨_,cap,rfl,hc,fun w' hw'=>⟨hm,fun i hi=>?_⟩⟩
  obtain ⟨A,C,e1,h1,h2,h3,h4⟩:=h.sub i hi
  have hr:Row w' N0 76 3 (.slice (some ⟨g,0,none⟩) L.length cap) L.length (pickCell L av):=h.row.at fun k hk=>hw' k (h.row.lt hk).2 (by
   have:=(h.row.lt hk).1
   show ¬ k < N0; omega)
  have c0:=hr.cell (j:=i * 3) (by omega)
  have c1:=hr.cell (j:=i * 3 + 1) (by omega)
  have c2:=hr.cell (j:=i * 3 + 2) (by omega)
  unfold pickCell at c0 c1 c2
  rw [if_pos (by omega),show i * 3 / 3=i by omega] at c0
  rw [if_neg (by omega),if_pos (by omega),show (i * 3 + 1) / 3=i by omega] at c1
  rw [if_neg (by omega),if_neg (by omega),show (i * 3 + 2) / 3=i by omega,e1] at c2
  exact ⟨g,0,A,C,rfl,by rw [Nat.zero_add]; exact c0,by rw [Nat.zero_add]; exact c1,by rw [Nat.zero_add]; exact c2,h1,h2,h3,h4 w' fun k hk hx=>hw' k hk (fun hlt=>hx (.inl hlt))⟩
theorem pPick_small {d:Nat} {s:ByteArray} {rec:Nat→Nat→Except (Int × Nat) (List (Pick d) × Nat × Nat)} {i n:Nat} {r:Pick (d + 1) × Nat × Nat} (h:pPick s rec i n = .ok r):Small (nick r.1)∧Small (pfield r.1)∧r.2.2=r.2.2:=by
 have sm:∀ {x:ByteArray},x.size≤12→Small x:=fun hx=>by unfold Small maxLen; omega
 have tl:∀ {nk f:ByteArray} {i n:Nat},Small nk→Small f→pTail s rec nk f i n = .ok r→Small (nick r.1)∧Small (pfield r.1)∧r.2.2=r.2.2:=fun {nk f i n} h1 h2 h3=>by
  unfold pTail at h3
  by_cases hc:isAt s (skipB s i) 123=true
  ·rw [if_pos hc] at h3
   cases hr:rec (skipB s i) n with
   | error e=>rw [hr] at h3; cases h3
   | ok q=>rw [hr] at h3; cases h3; exact ⟨h1,h2,rfl⟩
  ·rw [if_neg hc] at h3; cases h3; exact ⟨h1,h2,rfl⟩
 unfold pPick at h
 cases h1:pName s i with
 | error e=>rw [h1] at h; cases h
 | ok q =>
  rw [h1] at h
  have h12:=(pName_at h1).2.2
  replace h:(if 60 < n + 1 then .error (4,q.2) else if isAt s (skipB s q.2) 58 then (match pName s (skipB s q.2 + 1) with | .error e=>.error e | .ok r'=>pTail s rec q.1 r'.1 r'.2 (n + 1)) else pTail s rec ⟨#[]⟩ q.1 (skipB s q.2) (n + 1))=Except.ok r:=h
  by_cases hm:60 < n + 1
  ·rw [if_pos hm] at h; cases h
  rw [if_neg hm] at h
  by_cases hc:isAt s (skipB s q.2) 58=true
  ·rw [if_pos hc] at h
   cases h2:pName s (skipB s q.2 + 1) with
   | error e=>rw [h2] at h; cases h
   | ok r' =>
    rw [h2] at h
    exact tl (sm h12) (sm (pName_at h2).2.2) h
  ·rw [if_neg hc] at h
   exact tl (sm (by show (0:Nat)≤12; omega)) (sm h12) h
theorem pPick_count {d:Nat} {s:ByteArray} {rec:Nat→Nat→Except (Int × Nat) (List (Pick d) × Nat × Nat)} (hr:∀ i n r,rec i n = .ok r→n≤r.2.2) {i n:Nat} {r:Pick (d + 1) × Nat × Nat} (h:pPick s rec i n = .ok r):n + 1≤r.2.2:=by
 have tl:∀ {nk f:ByteArray} {i m:Nat},pTail s rec nk f i m = .ok r→m≤r.2.2:=fun {nk f i m} h3=>by
  unfold pTail at h3
  by_cases hc:isAt s (skipB s i) 123=true
  ·rw [if_pos hc] at h3
   cases hq:rec (skipB s i) m with
   | error e=>rw [hq] at h3; cases h3
   | ok q=>rw [hq] at h3; cases h3; exact hr _ _ _ hq
  ·rw [if_neg hc] at h3; cases h3; exact Nat.le_refl _
 unfold pPick at h
 cases h1:pName s i with
 | error e=>rw [h1] at h; cases h
 | ok q =>
  rw [h1] at h
  replace h:(if 60 < n + 1 then .error (4,q.2) else if isAt s (skipB s q.2) 58 then (match pName s (skipB s q.2 + 1) with | .error e=>.error e | .ok r'=>pTail s rec q.1 r'.1 r'.2 (n + 1)) else pTail s rec ⟨#[]⟩ q.1 (skipB s q.2) (n + 1))=Except.ok r:=h
  by_cases hm:60 < n + 1
  ·rw [if_pos hm] at h; cases h
  rw [if_neg hm] at h
  by_cases hc:isAt s (skipB s q.2) 58=true
  ·rw [if_pos hc] at h
   cases h2:pName s (skipB s q.2 + 1) with
   | error e=>rw [h2] at h; cases h
   | ok r'=>rw [h2] at h; exact tl h
  ·rw [if_neg hc] at h; exact tl h
theorem pPicks_count {d:Nat} {s:ByteArray} {rec:Nat→Nat→Except (Int × Nat) (List (Pick d) × Nat × Nat)} (hr:∀ i n r,rec i n = .ok r→n≤r.2.2):∀ (m:Nat) (acc:List (Pick (d + 1))) (i n:Nat) (r:List (Pick (d + 1)) × Nat × Nat),pPicks s rec m acc i n = .ok r→n≤r.2.2
 | 0,_,_,_,_,h=>by cases h
 | m + 1,acc,i,n,r,h=>by
  rw [pPicks] at h
  by_cases hc:(!acc.isEmpty && isAt s (skipB s i) 125)=true
  ·rw [if_pos hc] at h; cases h; exact Nat.le_refl _
  rw [if_neg hc] at h
  cases h1:pPick s rec (if acc.isEmpty then i else skipB s i) n with
  | error e=>rw [h1] at h; cases h
  | ok q =>
   rw [h1] at h
   have h2:=pPick_count hr h1
   have h3:=pPicks_count hr m _ _ _ r h
   omega
theorem pList_count (s:ByteArray):∀ (d i n:Nat) (r:List (Pick d) × Nat × Nat),pList s d i n = .ok r→n≤r.2.2
 | 0,_,_,_,h=>by cases h
 | d + 1,i,n,r,h=>by
  rw [pList] at h
  cases h1:pSign s 123 i with
  | error e=>rw [h1] at h; cases h
  | ok j=>rw [h1] at h; exact pPicks_count (pList_count s d) _ _ _ _ r h
end Go.Proofs.YtjjggefmmeminacGreat
namespace Go.Proofs.YtjjggefmmeminacGreat
open Go.RowKit Go.Sort Go.PlainAid
theorem Tryz.info76:(Tryz.prog.info? 76).map (fun i=>(i.zero,i.size,i.bytes))=some (some (.agg #[.string ⟨#[]⟩,.string ⟨#[]⟩,.slice none 0 0]),3,56):=by kernel_rfl
set_option maxRecDepth 100000 in
set_option maxHeartbeats 400000 in
theorem list_zero:ListOk 0:=by
 intro b s i n deep w hd hb hi hn hs
 have hd':(8:Int) < (deep:Int):=by omega
 have c1:=hb.c1
 have hth:=throw_any 3 i w
 have HF:Hid (pList s 0 i n = .error (3,i)):=rfl
 clear hb
 go_enter Tryz.func51,Tryz.ntmps51
 go_wp2_with fail
 refine hth.mono ?_
 clear hth
 rintro e w2 ⟨rfl,rfl⟩
 exact ⟨rfl,fun j h=>(by rw [HF.out] at h; cases h),fun x h=>(by rw [HF.out] at h; cases h; rfl),Away.refl _ _⟩
set_option maxRecDepth 100000 in
set_option maxHeartbeats 2000000 in
theorem list_succ (d:Nat) (ih:ListOk d):ListOk (d + 1):=by
 intro b s i n deep w hd hb hi hn hs
 obtain ⟨i0,hi0,hz0,hz1,hz2⟩:=info_parts' Tryz.info76
 have hd' : ¬ (8:Int) < (deep:Int):=by omega
 have hbl:=hb.lt
 have hcl:=sign_any b s i n 123 w hb hi hs
 have HE:Hid (pList s (d + 1) i n=(match pSign s 123 i with | .error e=>.error e | .ok j=>pPicks s (pList s d) (s.size + 1) [] j n)):=by rw [pList]; rfl
 have HG:=hidI (pList_goes s d)
 have HCT:=hidI (pList_count s d)
 have HIH:=hidI ih
 clear hb ih
 go_enter Tryz.func51,Tryz.ntmps51
 go_wp2_with fail
 refine hcl.mono ?_
 clear hcl
 rintro e w1 ⟨hok,herr,hA⟩
 cases hsg:pSign s 123 i with
 | error x =>
  have HF:Hid (pList s (d + 1) i n = .error x):=by rw [HE.out,hsg]; rfl
  rw [herr x hsg]
  exact ⟨rfl,fun r h=>(by rw [HF.out] at h; cases h),fun y h=>(by rw [HF.out] at h; cases h; rfl),hA⟩
 | ok j =>
 obtain ⟨rfl,hr1⟩:=hok j hsg
 have HP:Hid (pList s (d + 1) i n=pPicks s (pList s d) (s.size + 1) [] j n):=by rw [HE.out,hsg]; rfl
 have hj:=(pSign_at hsg).2
 have HR1:=hidI hr1
 have HA1:=hidI hA
 clear hok herr hsg hr1 hA HE
 go_wp2_with fail
 go_loopw [5] (fun v wr => ∃ (acc:List (Pick (d + 1))) (av:Nat→Value) (k m:Nat),k≤s.size∧m≤60∧acc.length≤m∧RBox wr b s k m∧LRow w.heap.size d wr v acc av∧Hid (pList s (d + 1) i n=pPicks s (pList s d) (s.size + 1) acc k m)∧Away b w wr) (fun _ wr=>s.size - posOf wr b)
 case atStart=>exact ⟨[],fun _=>undef,j,n,hj,hn,Nat.zero_le _,HR1.out,LRow.nil _ _ _ _,HP,HA1.out⟩
 case round =>
  clear HR1 HA1 HP
  obtain ⟨acc,av,k,m,hk,hm,ham,hr,hL,HP,hA⟩:=hrel
  obtain ⟨va,vc,hv,hlc⟩:∃ va vc,u5 = .slice va acc.length vc∧acc.length≤vc:=by
   rcases hL.row.shape with ⟨e,h0⟩ | ⟨g,cap,e,-,hc,-⟩
   ·exact ⟨none,0,by rw [e,h0],by omega⟩
   ·exact ⟨_,cap,e,hc⟩
  subst hv
  have Hr:=hidI hr
  have HUN:Hid (pPicks s (pList s d) (s.size + 1) acc k m=if !acc.isEmpty && isAt s (skipB s k) 125 then .ok (acc,skipB s k + 1,m) else (match pPick s (pList s d) (if acc.isEmpty then k else skipB s k) m with | .error e=>.error e | .ok r=>pPicks s (pList s d) s.size (acc ++ [r.1]) r.2.1 r.2.2)):=by rw [pPicks]; rfl
  by_cases h0:acc.length=0
  ·have h0':((acc.length:Int) == 0)=true:=by rw [beq_iff_eq]; omega
   have hem:acc.isEmpty=true:=by rw [List.isEmpty_iff]; exact List.eq_nil_of_length_eq_zero h0
   have HPQ:Hid (pList s (d + 1) i n=(match pPick s (pList s d) k m with | .error e=>.error e | .ok r=>pPicks s (pList s d) s.size (acc ++ [r.1]) r.2.1 r.2.2)):=by rw [HP.out,HUN.out,hem]; rfl
   have HRQ:=hidI hr
   have HLQ:=hidI hL
   have HAQ:=hidI hA
   have hkq:=hk
   have hkk:k≤k:=Nat.le_refl _
   clear hr hL hA HP HUN h0 hem
   have hcl:=pick_any d HIH.out b s k m deep wr (by omega) HRQ.out hkq hm hs
   go_wp2_with fail
   refine hcl.mono ?_
   clear hcl
   rintro e w3 ⟨hok,herr,hA3⟩
   have hA3w:=HAQ.out.trans hA3
   cases hpk:pPick s (pList s d) k m with
   | error x =>
    have HF:Hid (pList s (d + 1) i n = .error x):=by rw [HPQ.out,hpk]; rfl
    rw [herr x hpk]
    exact ⟨rfl,fun r h=>(by rw [HF.out] at h; cases h),fun y h=>(by rw [HF.out] at h; cases h; rfl),hA3w⟩
   | ok r =>
   obtain ⟨A,C,rfl,hC,hr3,hf3⟩:=hok r hpk
   obtain ⟨g1,g2,g3⟩:=(pPick_goes HG.out k m hkq hm).1 r hpk
   obtain ⟨s0,s1,-⟩:=pPick_small hpk
   have hct:=pPick_count HCT.out hpk
   have HP4:Hid (pList s (d + 1) i n=pPicks s (pList s d) (s.size + 1) (acc ++ [r.1]) r.2.1 r.2.2):=by
    rw [HPQ.out,hpk]
    exact pPicks_fuel HG.out _ _ _ _ _ g2 g3 (by omega) (by omega)
   have HLr:=HLQ.out.away hA3 hbl
   have HLa:=hidI (HLr.kept (below1 w3 (Obj.cells #[.string (nick r.1),.string (pfield r.1),.slice A (subs r.1).length C] 76)))
   have HFa:Hid (PicksFree (fun k=>k < wr.heap.size) (w3.alloc (Obj.cells #[.string (nick r.1),.string (pfield r.1),.slice A (subs r.1).length C] 76)) d A (subs r.1)):=hf3.step (below1 _ _).size (fun k hk _=>(below1 w3 _).block k hk) (fun k _ h=>h)
   have HRa:=hidI (hr3.kept (below1 w3 (Obj.cells #[.string (nick r.1),.string (pfield r.1),.slice A (subs r.1).length C] 76)))
   have HAa:Hid (Away b w (w3.alloc (Obj.cells #[.string (nick r.1),.string (pfield r.1),.slice A (subs r.1).length C] 76))):=hA3w.trans (Away.of (below1 w3 _))
   have hNQ:w.heap.size≤wr.heap.size:=HAQ.out.size
   have hNa:w.heap.size≤(w3.alloc (Obj.cells #[.string (nick r.1),.string (pfield r.1),.slice A (subs r.1).length C] 76)).heap.size:=HAa.out.size
   have HVQ:Hid (∀ k',(Value.slice va acc.length vc).ownBlock=some k'→k' < wr.heap.size∧w.heap.size≤k'):=fun k' hk'=>⟨(HLQ.out.row.lt hk').2,(HLQ.out.row.lt hk').1⟩
   have HOW:=hidI HLa.out.row
   have HPOS:Hid (posOf wr b=k):=Hr.out.pos
   clear hok herr hA3 hA3w hr3 hf3 HLr HPQ hpk
   go_wp2_with (at_builtin; refine wpList_append_any _ rfl _ _ 23 rfl w.heap.size 76 i0 _ 3 56 Tryz.underlying23 hi0 hz0 hz1 hz2 rfl (by decide) _ acc.length _ rfl HOW.out (some ⟨w3.heap.size,0,none⟩) 1 1 (pickL r.1 (.slice A (subs r.1).length C)) rfl rfl (alloc_news w3 #[.string (nick r.1),.string (pfield r.1),.slice A (subs r.1).length C] _) (fun h=>by cases h) (by intro u hu; simp [pickL] at hu; rcases hu with rfl | rfl | rfl <;> rfl) (by unfold maxLen; omega) (by omega) hNa ?_)
   intro v' w4 hown hgr hvb
   have HL4:=hidI (HLa.out.app hC s0 s1 HFa.out hNQ (fun k' hk'=>(HVQ.out k' hk').1) hown hgr (by simpa using hvb))
   have HR4:Hid (RBox w4 b s r.2.1 r.2.2):=(hgr.block b HRa.out.lt (fun e=>by have:=(HVQ.out b e.symm).2; omega)).trans HRa.out
   have HA4:Hid (Away b w w4):=⟨hgr.os.trans HAa.out.os,hgr.tape.trans HAa.out.tape,hgr.output.trans HAa.out.output,Nat.le_trans HAa.out.size hgr.size,fun k' hk' hb'=>(hgr.block k' (Nat.lt_of_lt_of_le hk' HAa.out.size) (fun e=>by have:=(HVQ.out k' e.symm).2; omega)).trans (HAa.out.block k' hk' hb')⟩
   have HPOS4:=hidI HR4.out.pos
   have hal:(acc ++ [r.1]).length≤r.2.2:=by rw [List.length_append]; show acc.length + 1≤r.2.2; omega
   have HAL:=hidI hal
   clear hown hgr hvb HOW HLa HFa HRa HAa HVQ hal
   go_wp2_with fail
   go_roundw
   case rel=>exact ⟨acc ++ [r.1],_,r.2.1,r.2.2,g2,g3,HAL.out,HR4.out,HL4.out,HP4,HA4.out⟩
   case measure=>rw [HPOS4.out,HPOS.out]; omega
  ·have h0':((acc.length:Int) == 0)=false:=by rw [beq_eq_false_iff_ne]; omega
   have hem:acc.isEmpty=false:=by
    cases h:acc.isEmpty with
    | false=>rfl
    | true=>exact absurd (by rw [List.isEmpty_iff.1 h]; rfl) h0
   rw [hem] at HUN
   have hcl:=comes_any b s k m 125 wr hr hk hs
   have hkq:=skip_le hk
   have hkk:=skip_ge s k
   have hss:=skip_skip s k
   have HLw:=hidI hL
   have HAw:=hidI hA
   clear hr hL hA h0 hem
   generalize skipB s k=k2 at *
   go_wp2_with fail
   refine hcl.mono ?_
   clear hcl
   rintro e w2 ⟨rfl,hr2,hA2⟩
   have HRQ:=hidI hr2
   have HLQ:=hidI (HLw.out.away hA2 hbl)
   have HAQ:Hid (Away b w w2):=HAw.out.trans hA2
   clear hr2 hA2 HLw HAw
   cases hc:isAt s k2 125 with
   | true =>
    have HF:Hid (pList s (d + 1) i n = .ok (acc,k2 + 1,m)):=by rw [HP.out,HUN.out,hc]; rfl
    have HSG:Hid (pSign s 125 k2 = .ok (k2 + 1)):=by unfold pSign; rw [hss,hc]; rfl
    have hcl:=sign_any b s k2 m 125 w2 HRQ.out hkq hs
    clear hc HP HUN
    go_wp2_with fail
    refine hcl.mono ?_
    clear hcl
    rintro e w3 ⟨hok,-,hA3⟩
    obtain ⟨rfl,hr3⟩:=hok _ HSG.out
    have HO:=hidI ((HLQ.out.away hA3 hbl).out (by unfold maxLen; omega))
    have HR3:=hidI hr3
    have HA3:Hid (Away b w w3):=HAQ.out.trans hA3
    clear hok hr3 hA3
    go_wp2_with fail
    go_ret
    refine ⟨fun r h=>?_,fun x h=>?_,HA3.out⟩
    ·rw [HF.out] at h; cases h
     obtain ⟨a',cap',e',h1,h2⟩:=HO.out
     cases e'
     exact ⟨_,_,rfl,h1,HR3.out,h2⟩
    ·rw [HF.out] at h; cases h
   | false =>
   have HPQ:Hid (pList s (d + 1) i n=(match pPick s (pList s d) k2 m with | .error e=>.error e | .ok r=>pPicks s (pList s d) s.size (acc ++ [r.1]) r.2.1 r.2.2)):=by rw [HP.out,HUN.out,hc]; rfl
   clear hc HP HUN hss
   have hcl:=pick_any d HIH.out b s k2 m deep w2 (by omega) HRQ.out hkq hm hs
   go_wp2_with fail
   refine hcl.mono ?_
   clear hcl
   rintro e w3 ⟨hok,herr,hA3⟩
   have hA3w:=HAQ.out.trans hA3
   cases hpk:pPick s (pList s d) k2 m with
   | error x =>
    have HF:Hid (pList s (d + 1) i n = .error x):=by rw [HPQ.out,hpk]; rfl
    rw [herr x hpk]
    exact ⟨rfl,fun r h=>(by rw [HF.out] at h; cases h),fun y h=>(by rw [HF.out] at h; cases h; rfl),hA3w⟩
   | ok r =>
   obtain ⟨A,C,rfl,hC,hr3,hf3⟩:=hok r hpk
   obtain ⟨g1,g2,g3⟩:=(pPick_goes HG.out k2 m hkq hm).1 r hpk
   obtain ⟨s0,s1,-⟩:=pPick_small hpk
   have hct:=pPick_count HCT.out hpk
   have HP4:Hid (pList s (d + 1) i n=pPicks s (pList s d) (s.size + 1) (acc ++ [r.1]) r.2.1 r.2.2):=by
    rw [HPQ.out,hpk]
    exact pPicks_fuel HG.out _ _ _ _ _ g2 g3 (by omega) (by omega)
   have HLr:=HLQ.out.away hA3 hbl
   have HLa:=hidI (HLr.kept (below1 w3 (Obj.cells #[.string (nick r.1),.string (pfield r.1),.slice A (subs r.1).length C] 76)))
   have HFa:Hid (PicksFree (fun k=>k < w2.heap.size) (w3.alloc (Obj.cells #[.string (nick r.1),.string (pfield r.1),.slice A (subs r.1).length C] 76)) d A (subs r.1)):=hf3.step (below1 _ _).size (fun k hk _=>(below1 w3 _).block k hk) (fun k _ h=>h)
   have HRa:=hidI (hr3.kept (below1 w3 (Obj.cells #[.string (nick r.1),.string (pfield r.1),.slice A (subs r.1).length C] 76)))
   have HAa:Hid (Away b w (w3.alloc (Obj.cells #[.string (nick r.1),.string (pfield r.1),.slice A (subs r.1).length C] 76))):=hA3w.trans (Away.of (below1 w3 _))
   have hNQ:w.heap.size≤w2.heap.size:=HAQ.out.size
   have hNa:w.heap.size≤(w3.alloc (Obj.cells #[.string (nick r.1),.string (pfield r.1),.slice A (subs r.1).length C] 76)).heap.size:=HAa.out.size
   have HVQ:Hid (∀ k',(Value.slice va acc.length vc).ownBlock=some k'→k' < w2.heap.size∧w.heap.size≤k'):=fun k' hk'=>⟨(HLQ.out.row.lt hk').2,(HLQ.out.row.lt hk').1⟩
   have HOW:=hidI HLa.out.row
   have HPOS:Hid (posOf wr b=k):=Hr.out.pos
   clear hok herr hA3 hA3w hr3 hf3 HLr HPQ hpk
   go_wp2_with (at_builtin; refine wpList_append_any _ rfl _ _ 23 rfl w.heap.size 76 i0 _ 3 56 Tryz.underlying23 hi0 hz0 hz1 hz2 rfl (by decide) _ acc.length _ rfl HOW.out (some ⟨w3.heap.size,0,none⟩) 1 1 (pickL r.1 (.slice A (subs r.1).length C)) rfl rfl (alloc_news w3 #[.string (nick r.1),.string (pfield r.1),.slice A (subs r.1).length C] _) (fun h=>by cases h) (by intro u hu; simp [pickL] at hu; rcases hu with rfl | rfl | rfl <;> rfl) (by unfold maxLen; omega) (by omega) hNa ?_)
   intro v' w4 hown hgr hvb
   have HL4:=hidI (HLa.out.app hC s0 s1 HFa.out hNQ (fun k' hk'=>(HVQ.out k' hk').1) hown hgr (by simpa using hvb))
   have HR4:Hid (RBox w4 b s r.2.1 r.2.2):=(hgr.block b HRa.out.lt (fun e=>by have:=(HVQ.out b e.symm).2; omega)).trans HRa.out
   have HA4:Hid (Away b w w4):=⟨hgr.os.trans HAa.out.os,hgr.tape.trans HAa.out.tape,hgr.output.trans HAa.out.output,Nat.le_trans HAa.out.size hgr.size,fun k' hk' hb'=>(hgr.block k' (Nat.lt_of_lt_of_le hk' HAa.out.size) (fun e=>by have:=(HVQ.out k' e.symm).2; omega)).trans (HAa.out.block k' hk' hb')⟩
   have HPOS4:=hidI HR4.out.pos
   have hal:(acc ++ [r.1]).length≤r.2.2:=by rw [List.length_append]; show acc.length + 1≤r.2.2; omega
   have HAL:=hidI hal
   clear hown hgr hvb HOW HLa HFa HRa HAa HVQ hal
   go_wp2_with fail
   go_roundw
   case rel=>exact ⟨acc ++ [r.1],_,r.2.1,r.2.2,g2,g3,HAL.out,HR4.out,HL4.out,HP4,HA4.out⟩
   case measure=>rw [HPOS4.out,HPOS.out]; omega
theorem list_any:∀ d,ListOk d
 | 0=>list_zero
 | d + 1=>list_succ d (list_any d)
end Go.Proofs.YtjjggefmmeminacGreat
namespace Go.Proofs.YtjjggefmmeminacGreat
open Go.RowKit Go.Sort Go.PlainAid
def ABox (w:World) (b:Nat) (s f:ByteArray) (A:Option Addr) (n C:Nat):Prop:=w.heap[b]? = some (.cells #[.string s,.string f,.slice A n C] 25 (0,0))
section
variable {w w':World} {b:Nat} {s f:ByteArray} {A:Option Addr} {n C:Nat}
theorem ABox.c0 (h:ABox w b s f A n C):w.cell? ⟨b,0,none⟩=some (.string s):=by simp [World.cell?,show w.heap[b]? = _ from h]
theorem ABox.c1 (h:ABox w b s f A n C):w.cell? ⟨b,1,none⟩=some (.string f):=by simp [World.cell?,show w.heap[b]? = _ from h]
theorem ABox.c2 (h:ABox w b s f A n C):w.cell? ⟨b,2,none⟩=some (.slice A n C):=by simp [World.cell?,show w.heap[b]? = _ from h]
theorem ABox.f0 (h:ABox w b s f A n C):w.frozen? ⟨b,0,none⟩=false:=by simp [World.frozen?,show w.heap[b]? = _ from h]
theorem ABox.f1 (h:ABox w b s f A n C):w.frozen? ⟨b,1,none⟩=false:=by simp [World.frozen?,show w.heap[b]? = _ from h]
theorem ABox.f2 (h:ABox w b s f A n C):w.frozen? ⟨b,2,none⟩=false:=by simp [World.frozen?,show w.heap[b]? = _ from h]
theorem ABox.lt (h:ABox w b s f A n C):b < w.heap.size:=block_lt_of_cell h.c0
theorem ABox.kept (h:ABox w b s f A n C) (hB:Below w.heap.size w w'):ABox w' b s f A n C:=(hB.block b h.lt).trans h
theorem ABox.away {r:Nat} (h:ABox w b s f A n C) (hA:Away r w w') (hr:b≠r):ABox w' b s f A n C:=(hA.block b h.lt hr).trans h
theorem ABox.set0 (h:ABox w b s f A n C) (s':ByteArray):ABox (w.setCell ⟨b,0,none⟩ (.string s')) b s' f A n C:=heap_setCell_same w b 0 _ 25 _ h
theorem ABox.set1 (h:ABox w b s f A n C) (f':ByteArray):ABox (w.setCell ⟨b,1,none⟩ (.string f')) b s f' A n C:=heap_setCell_same w b 1 _ 25 _ h
theorem ABox.set2 (h:ABox w b s f A n C) (A':Option Addr) (n' C':Nat):ABox (w.setCell ⟨b,2,none⟩ (.slice A' n' C')) b s f A' n' C':=heap_setCell_same w b 2 _ 25 _ h
theorem ABox.other {r o:Nat} {v:Value} (h:ABox w b s f A n C) (hr:b≠r):ABox (w.setCell ⟨r,o,none⟩ v) b s f A n C:=(Below.heap_setCell w ⟨r,o,none⟩ v b hr).trans h
end
set_option maxRecDepth 100000 in
set_option maxHeartbeats 1000000 in
theorem end_any (b:Nat) (s:ByteArray) (i n:Nat) (w:World) (hb:RBox w b s i n) (hi:i≤s.size) (hs:s.size≤1000) :
  Calls Tryz.prog 52 #[.pointer (some ⟨b,0,none⟩)] w fun e w'=>(¬ skipB s i < s.size→e = .returned (.tuple #[]))∧(skipB s i < s.size→e = .panicked (thrown (2,skipB s i)))∧Away b w w':=by
 have hcl:=blanks_any b s i n w hb hi hs
 have hk:=skip_le hi
 clear hb
 generalize skipB s i=k at *
 go_enter Tryz.func52,Tryz.ntmps52
 go_wp2_with fail
 refine hcl.mono ?_
 clear hcl
 rintro e w1 ⟨rfl,hr,hA⟩
 have c0:=hr.c0
 have c1:=hr.c1
 have HQ:Hid (∀ q,Away b w (w1.drewN q)):=fun q=>hA.trans (Away.of (below_drewN w1 q))
 have HC:Hid (∀ q,RBox (w1.drewN q) b s k n):=fun q=>hr.kept (below_drewN w1 q)
 clear hr hA
 by_cases hlt:k < s.size
 ·have hlt':(k:Int) < (s.size:Int):=by omega
  have HLT:=hidI hlt
  go_wp2_with fail
  go_quiet (fail)
  have d1:=(HC.out nq).c1
  have hth:=throw_any 2 k (w1.drewN nq)
  have HQn:=hidI (HQ.out nq)
  generalize w1.drewN nq=w2 at *
  go_wp2_with fail
  refine hth.mono ?_
  clear hth
  rintro e w3 ⟨rfl,rfl⟩
  exact ⟨rfl,fun h=>absurd HLT.out h,fun _=>rfl,HQn.out⟩
 ·have hlt' : ¬ (k:Int) < (s.size:Int):=by omega
  have HLT:=hidI hlt
  go_wp2_with fail
  go_quiet (fail)
  go_wp2_with fail
  go_end0
  exact ⟨fun _=>rfl,fun h=>absurd h HLT.out,HQ.out _⟩
def AskOut (b:Nat) (s:ByteArray) (w:World) (e:Ending) (w':World):Prop :=
 (∀ r,pAsk s = .ok r→∃ a cap,e = .returned (.agg #[.string r.1,.string r.2.1,.slice a r.2.2.length cap])∧r.2.2.length≤cap∧PicksFree (fun k=>k < w.heap.size) w' 8 a r.2.2)∧(∀ x,pAsk s = .error x→e = .panicked (thrown x))∧Away b w w'
set_option maxRecDepth 100000 in
set_option maxHeartbeats 2000000 in
theorem qask_any (b:Nat) (s:ByteArray) (w:World) (hb:RBox w b s 0 0) (hs:s.size≤1000) :
  Calls Tryz.prog 28 #[.pointer (some ⟨b,0,none⟩)] w fun e w'=>AskOut b s w e w':=by
 obtain ⟨W,hW⟩:∃ W,W=(w.alloc (Obj.cells #[.string ⟨#[]⟩,.string ⟨#[]⟩,.slice none 0 0] 25)).alloc (Obj.cells #[.string ⟨#[]⟩,.string ⟨#[]⟩,.slice none 0 0] 25):=⟨_,rfl⟩
 have hBW:Below w.heap.size w W:=by rw [hW]; exact below2 _ _ _
 have pr:ABox W w.heap.size ⟨#[]⟩ ⟨#[]⟩ none 0 0:=by rw [hW]; exact (Below.heap_alloc _ _ _ (by simp)).trans (heap_alloc_new _ _)
 have pa:ABox W (w.heap.size + 1) ⟨#[]⟩ ⟨#[]⟩ none 0 0:=by
  have hsz:(w.alloc (Obj.cells #[.string ⟨#[]⟩,.string ⟨#[]⟩,.slice none 0 0] 25)).heap.size=w.heap.size + 1:=by simp
  rw [hW,← hsz]; exact heap_alloc_new _ _
 have hbl:=hb.lt
 have hcl:=name_any b s 0 0 W (hb.kept hBW) (Nat.zero_le _) hs
 have HBW:=hidI hBW
 have HPR:=hidI pr
 have HPA:=hidI pa
 have HP:Hid (pAsk s=(match pName s 0 with
  | .error e=>.error e
  | .ok t =>
   match pSign s 40 t.2 with
   | .error e=>.error e
   | .ok i =>
    match pName s i with
    | .error e=>.error e
    | .ok k =>
     match pSign s 41 k.2 with
     | .error e=>.error e
     | .ok j =>
      match pList s 8 j 0 with
      | .error e=>.error e
      | .ok r=>if skipB s r.2.1 < s.size then .error (2,skipB s r.2.1) else .ok (t.1,k.1,r.1))):=rfl
 clear hb hBW pr pa
 rw [hW] at hcl
 go_enter Tryz.func28,Tryz.ntmps28
 go_wp2_with fail
 rw [← hW] at hcl
 rw [← hW]
 clear hW
 refine hcl.mono ?_
 clear hcl
 rintro e w1 ⟨hok,herr,hA⟩
 have hAw:=hA.from HBW.out
 cases h1:pName s 0 with
 | error x =>
  have HF:Hid (pAsk s = .error x):=by rw [HP.out,h1]; rfl
  rw [herr x h1]
  exact ⟨rfl,fun r h=>(by rw [HF.out] at h; cases h),fun y h=>(by rw [HF.out] at h; cases h; rfl),hAw⟩
 | ok t =>
 obtain ⟨rfl,hr1⟩:=hok t h1
 obtain ⟨-,ht2,-⟩:=pName_at h1
 have HPR1:=hidI (HPR.out.away hA (by omega))
 have pa1:=HPA.out.away hA (by omega)
 have y0:=pa1.f0
 have q0:=pa1.c0
 generalize hX:w1.setCell ⟨w.heap.size + 1,0,none⟩ (.string t.1)=X
 have hrX:RBox X b s t.2 0:=by rw [← hX]; exact hr1.other (by omega)
 have HPA2:Hid (ABox X (w.heap.size + 1) t.1 ⟨#[]⟩ none 0 0):=by rw [← hX]; exact pa1.set0 _
 have HPR2:Hid (ABox X w.heap.size ⟨#[]⟩ ⟨#[]⟩ none 0 0):=by rw [← hX]; exact HPR1.out.other (by omega)
 have HA2:Hid (Away b w X):=by rw [← hX]; exact hAw.setNew (by omega)
 have hcl:=sign_any b s t.2 0 40 X hrX ht2 hs
 clear hok herr hA hAw pa1 hr1 hrX HPR1 HPR HPA
 go_wp2_with fail
 clear hX y0 q0
 refine hcl.mono ?_
 clear hcl
 rintro e w2 ⟨hok,herr,hA⟩
 have HP2:Hid (pAsk s=(match pSign s 40 t.2 with
    | .error e=>.error e
    | .ok i=>(match pName s i with
     | .error e=>.error e
     | .ok k=>(match pSign s 41 k.2 with
      | .error e=>.error e
      | .ok j=>(match pList s 8 j 0 with
       | .error e=>.error e
       | .ok r=>if skipB s r.2.1 < s.size then .error (2,skipB s r.2.1) else .ok (t.1,k.1,r.1)))))):=by rw [HP.out,h1]; rfl
 cases h2:pSign s 40 t.2 with
 | error x =>
  have HF:Hid (pAsk s = .error x):=by rw [HP2.out,h2]; rfl
  rw [herr x h2]
  exact ⟨rfl,fun r h=>(by rw [HF.out] at h; cases h),fun y h=>(by rw [HF.out] at h; cases h; rfl),HA2.out.trans hA⟩
 | ok i =>
 have HP3:Hid (pAsk s=(match pName s i with
     | .error e=>.error e
     | .ok k=>(match pSign s 41 k.2 with
      | .error e=>.error e
      | .ok j=>(match pList s 8 j 0 with
       | .error e=>.error e
       | .ok r=>if skipB s r.2.1 < s.size then .error (2,skipB s r.2.1) else .ok (t.1,k.1,r.1))))):=by rw [HP2.out,h2]; rfl
 obtain ⟨rfl,hr2⟩:=hok i h2
 have hi2:=(pSign_at h2).2
 have HPR3:=hidI (HPR2.out.away hA (by omega))
 have HPA3:=hidI (HPA2.out.away hA (by omega))
 have HA3:Hid (Away b w w2):=HA2.out.trans hA
 have hcl:=name_any b s i 0 w2 hr2 hi2 hs
 clear hok herr hA hr2 HPR2 HPA2 HA2 HP HP2
 go_wp2_with fail
 refine hcl.mono ?_
 clear hcl
 rintro e w3 ⟨hok,herr,hA⟩
 cases h3:pName s i with
 | error x =>
  have HF:Hid (pAsk s = .error x):=by rw [HP3.out,h3]; rfl
  rw [herr x h3]
  exact ⟨rfl,fun r h=>(by rw [HF.out] at h; cases h),fun y h=>(by rw [HF.out] at h; cases h; rfl),HA3.out.trans hA⟩
 | ok k =>
 have HP4:Hid (pAsk s=(match pSign s 41 k.2 with
      | .error e=>.error e
      | .ok j=>(match pList s 8 j 0 with
       | .error e=>.error e
       | .ok r=>if skipB s r.2.1 < s.size then .error (2,skipB s r.2.1) else .ok (t.1,k.1,r.1)))):=by rw [HP3.out,h3]; rfl
 obtain ⟨rfl,hr3⟩:=hok k h3
 obtain ⟨-,hk2,-⟩:=pName_at h3
 have HPR4:=hidI (HPR3.out.away hA (by omega))
 have pa3:=HPA3.out.away hA (by omega)
 have hA3':=HA3.out.trans hA
 have y1:=pa3.f1
 have q1:=pa3.c1
 generalize hX:w3.setCell ⟨w.heap.size + 1,1,none⟩ (.string k.1)=X3
 have hrX:RBox X3 b s k.2 0:=by rw [← hX]; exact hr3.other (by omega)
 have HPA5:Hid (ABox X3 (w.heap.size + 1) t.1 k.1 none 0 0):=by rw [← hX]; exact pa3.set1 _
 have HPR5:Hid (ABox X3 w.heap.size ⟨#[]⟩ ⟨#[]⟩ none 0 0):=by rw [← hX]; exact HPR4.out.other (by omega)
 have HA5:Hid (Away b w X3):=by rw [← hX]; exact hA3'.setNew (by omega)
 have hcl:=sign_any b s k.2 0 41 X3 hrX hk2 hs
 clear hok herr hA hA3' pa3 hr3 hrX HPR4 HPR3 HPA3 HA3 HP3
 go_wp2_with fail
 clear hX y1 q1
 refine hcl.mono ?_
 clear hcl
 rintro e w4 ⟨hok,herr,hA⟩
 cases h4:pSign s 41 k.2 with
 | error x =>
  have HF:Hid (pAsk s = .error x):=by rw [HP4.out,h4]; rfl
  rw [herr x h4]
  exact ⟨rfl,fun r h=>(by rw [HF.out] at h; cases h),fun y h=>(by rw [HF.out] at h; cases h; rfl),HA5.out.trans hA⟩
 | ok j =>
 have HP5:Hid (pAsk s=(match pList s 8 j 0 with
       | .error e=>.error e
       | .ok r=>if skipB s r.2.1 < s.size then .error (2,skipB s r.2.1) else .ok (t.1,k.1,r.1))):=by rw [HP4.out,h4]; rfl
 obtain ⟨rfl,hr4⟩:=hok j h4
 have hj4:=(pSign_at h4).2
 have HPR6:=hidI (HPR5.out.away hA (by omega))
 have HPA6:=hidI (HPA5.out.away hA (by omega))
 have HA6:Hid (Away b w w4):=HA5.out.trans hA
 have hcl:=list_any 8 b s j 0 1 w4 (by omega) hr4 hj4 (by omega) hs
 clear hok herr hA hr4 HPR5 HPA5 HA5 HP4
 go_wp2_with fail
 refine hcl.mono ?_
 clear hcl
 rintro e w5 ⟨hok,herr,hA⟩
 cases h5:pList s 8 j 0 with
 | error x =>
  have HF:Hid (pAsk s = .error x):=by rw [HP5.out,h5]; rfl
  rw [herr x h5]
  exact ⟨rfl,fun r h=>(by rw [HF.out] at h; cases h),fun y h=>(by rw [HF.out] at h; cases h; rfl),HA6.out.trans hA⟩
 | ok r =>
 have HP6:Hid (pAsk s=if skipB s r.2.1 < s.size then .error (2,skipB s r.2.1) else .ok (t.1,k.1,r.1)):=by rw [HP5.out,h5]; rfl
 obtain ⟨a5,c5,rfl,hc5,hr5,hf5⟩:=hok r h5
 obtain ⟨-,hr52,-⟩:=(pList_goes s 8 j 0 hj4 (by omega)).1 r h5
 have HPR7:=hidI (HPR6.out.away hA (by omega))
 have pa5:=HPA6.out.away hA (by omega)
 have hA5':=HA6.out.trans hA
 have hsz4:=HA6.out.size
 have hlt4:=HPA6.out.lt
 have y2:=pa5.f2
 have q2:=pa5.c2
 generalize hX:w5.setCell ⟨w.heap.size + 1,2,none⟩ (.slice a5 r.1.length c5)=X5
 have hrX:RBox X5 b s r.2.1 r.2.2:=by rw [← hX]; exact hr5.other (by omega)
 have HPA8:Hid (ABox X5 (w.heap.size + 1) t.1 k.1 a5 r.1.length c5):=by rw [← hX]; exact pa5.set2 _ _ _
 have HPR8:Hid (ABox X5 w.heap.size ⟨#[]⟩ ⟨#[]⟩ none 0 0):=by rw [← hX]; exact HPR7.out.other (by omega)
 have HA8:Hid (Away b w X5):=by rw [← hX]; exact hA5'.setNew (by omega)
 have HF8:Hid (PicksFree (fun q=>q < w4.heap.size) X5 8 a5 r.1):=by
  refine hf5.step (by rw [← hX]; simp) (fun q hq hnq=>?_) (fun q _ hq=>hq)
  have h1 : ¬ q < w4.heap.size:=hnq
  rw [← hX,Below.heap_setCell _ _ _ _ (by show q≠w.heap.size + 1; omega)]
 have hcl:=end_any b s r.2.1 r.2.2 X5 hrX hr52 hs
 clear hok herr hA hA5' pa5 hr5 hrX hf5 HPR7 HPR6 HPA6 HA6 HP5 h1 h2 h3 h4 h5
 generalize skipB s r.2.1=k5 at *
 go_wp2_with fail
 clear hX y2 q2
 refine hcl.mono ?_
 clear hcl
 rintro e w6 ⟨hok,herr,hA⟩
 by_cases hlt:k5 < s.size
 ·have HF:Hid (pAsk s = .error (2,k5)):=by rw [HP6.out,if_pos hlt]; rfl
  rw [herr hlt]
  exact ⟨rfl,fun r h=>(by rw [HF.out] at h; cases h),fun y h=>(by rw [HF.out] at h; cases h; rfl),HA8.out.trans hA⟩
 have HF:Hid (pAsk s = .ok (t.1,k.1,r.1)):=by rw [HP6.out,if_neg hlt]; rfl
 rw [hok hlt]
 have HPA9:=hidI (HPA8.out.away hA (by omega))
 have HPR9:=hidI (HPR8.out.away hA (by omega))
 have HA9:Hid (Away b w w6):=HA8.out.trans hA
 have hbw:b < w4.heap.size:=by omega
 have HF9:Hid (PicksFree (fun q=>q < w.heap.size) (((w6.setCell ⟨w.heap.size,0,none⟩ (.string t.1)).setCell ⟨w.heap.size,1,none⟩ (.string k.1)).setCell ⟨w.heap.size,2,none⟩ (.slice a5 r.1.length c5)) 8 a5 r.1):=by
  refine HF8.out.step (by simpa using hA.size) (fun q hq hnq=>?_) (fun q _ hq=>by show q < w4.heap.size; omega)
  have h1 : ¬ q < w4.heap.size:=hnq
  rw [Below.heap_setCell _ _ _ _ (by show q≠w.heap.size; omega),Below.heap_setCell _ _ _ _ (by show q≠w.heap.size; omega),Below.heap_setCell _ _ _ _ (by show q≠w.heap.size; omega)]
  exact hA.block q hq (by omega)
 have q0:=HPA9.out.c0
 have q1:=HPA9.out.c1
 have q2:=HPA9.out.c2
 have z0:=HPR9.out.c0
 have z1:=HPR9.out.c1
 have z2:=HPR9.out.c2
 have y0:=HPR9.out.f0
 have y1:=HPR9.out.f1
 have y2:=HPR9.out.f2
 have HEA:Hid (Away b w (((w6.setCell ⟨w.heap.size,0,none⟩ (.string t.1)).setCell ⟨w.heap.size,1,none⟩ (.string k.1)).setCell ⟨w.heap.size,2,none⟩ (.slice a5 r.1.length c5))):=((HA9.out.setNew (Nat.le_refl _)).setNew (Nat.le_refl _)).setNew (Nat.le_refl _)
 clear hok herr hA hlt
 go_wp2_with fail
 exact bodyPost_ret (v:=.agg #[.string t.1,.string k.1,.slice a5 r.1.length c5]) (by simp [results,Tryz.results28,go_sem,z0,z1,z2]) rfl ⟨fun r h=>(by rw [HF.out] at h; cases h; exact ⟨a5,c5,rfl,hc5,HF9.out⟩),fun x h=>(by rw [HF.out] at h; cases h),HEA.out⟩
end Go.Proofs.YtjjggefmmeminacGreat
namespace Go.Proofs.YtjjggefmmeminacGreat
open Go.RowKit Go.Sort Go.PlainAid
set_option maxRecDepth 100000 in
set_option maxHeartbeats 1000000 in
theorem catch_idle (p q:Addr) (w:World) :
  CallsD Tryz.prog 27 #[.pointer (some p),.pointer (some q)] .returning w fun e u' w'=>e = .returned (.tuple #[])∧u' = .returning∧w'=w:=by
 refine callsD_of_wpS Tryz.func27 rfl fun c₀ cs hu=>?_
 apply wpS_seq
 apply wpS_region
 simp [wpOpsS,go_sem,recoverD,hu,Tryz.ntmps27,Exit.thenS]
 refine wpS_of_wp ?_
 have e:(#[Value.pointer (some p),Value.pointer (some q)] ++ ((Array.replicate 7 undef).setIfInBounds 1 Value.nilIface).setIfInBounds 0 Value.nilIface) = #[Value.pointer (some p),Value.pointer (some q),Value.nilIface,Value.nilIface,undef,undef,undef,undef,undef]:=rfl
 rw [e]
 clear e
 go_wp2_with fail
 cases c₀
 simp_all [bodyPostS,results,Tryz.results27]
theorem run_assert (xt:TypeId) (v:Value) (w:World):(Instr.typeAssert (.iface 45 v) xt 45 false).run Tryz.prog w = .ok v w:=by kernel_rfl
structure Caught (w w':World) (rb fb:Nat) (x:Int × Nat):Prop where
 ask:ABox w' rb ⟨#[]⟩ ⟨#[]⟩ none 0 0
 fault:w'.heap[fb]? = some (.cells #[.int .i64 x.1,.int .i64 (x.2:Int)] 45 (0,0))
 os:w'.os=w.os
 tape:w'.tape=w.tape
 output:w'.output=w.output
 size:w.heap.size≤w'.heap.size
 block:∀ k,k < w.heap.size→k≠rb→k≠fb→w'.heap[k]? = w.heap[k]?
theorem Caught.drewN {w w':World} {rb fb:Nat} {x:Int × Nat} (h:Caught w w' rb fb x) (q:Nat):Caught w (w'.drewN q) rb fb x :=
 ⟨h.ask,h.fault,h.os,h.tape,h.output,h.size,h.block⟩
theorem caught_set {w:World} {rb fb:Nat} {x:Int × Nat} (hne:rb≠fb) (hr:ABox w rb ⟨#[]⟩ ⟨#[]⟩ none 0 0) (hf:w.heap[fb]? = some (.cells #[.int .i64 0,.int .i64 0] 45 (0,0))) :
  Caught w (((((w.setCell ⟨rb,0,none⟩ (.string ⟨#[]⟩)).setCell ⟨rb,1,none⟩ (.string ⟨#[]⟩)).setCell ⟨rb,2,none⟩ (.slice none 0 0)).setCell ⟨fb,0,none⟩ (.int .i64 x.1)).setCell ⟨fb,1,none⟩ (.int .i64 (x.2:Int))) rb fb x:=by
 have a3:ABox (((w.setCell ⟨rb,0,none⟩ (.string ⟨#[]⟩)).setCell ⟨rb,1,none⟩ (.string ⟨#[]⟩)).setCell ⟨rb,2,none⟩ (.slice none 0 0)) rb ⟨#[]⟩ ⟨#[]⟩ none 0 0:=((hr.set0 _).set1 _).set2 _ _ _
 have hne':fb≠rb:=fun e=>hne e.symm
 have f3:(((w.setCell ⟨rb,0,none⟩ (.string ⟨#[]⟩)).setCell ⟨rb,1,none⟩ (.string ⟨#[]⟩)).setCell ⟨rb,2,none⟩ (.slice none 0 0)).heap[fb]? = some (.cells #[.int .i64 0,.int .i64 0] 45 (0,0)):=by
  rw [Below.heap_setCell _ _ _ _ hne',Below.heap_setCell _ _ _ _ hne',Below.heap_setCell _ _ _ _ hne']; exact hf
 generalize hX:((w.setCell ⟨rb,0,none⟩ (.string ⟨#[]⟩)).setCell ⟨rb,1,none⟩ (.string ⟨#[]⟩)).setCell ⟨rb,2,none⟩ (.slice none 0 0)=X at *
 have hsz:X.heap.size=w.heap.size:=by rw [← hX]; simp
 have hbk:∀ k,k≠rb→X.heap[k]? = w.heap[k]?:=fun k hk=>by rw [← hX,Below.heap_setCell _ _ _ _ hk,Below.heap_setCell _ _ _ _ hk,Below.heap_setCell _ _ _ _ hk]
 have ho:X.os=w.os∧X.tape=w.tape∧X.output=w.output:=by rw [← hX]; exact ⟨rfl,rfl,rfl⟩
 have h4:=boxed_set (u:=x.1) (v:=(x.2:Int)) f3
 exact ⟨(a3.other hne).other hne,h4.blk,h4.os.trans ho.1,h4.tape.trans ho.2.1,h4.output.trans ho.2.2,by have:=h4.size; omega,fun k hk hk1 hk2=>(h4.keep k (by omega) hk2).trans (hbk k hk1)⟩
set_option maxRecDepth 100000 in
set_option maxHeartbeats 1000000 in
theorem catch_panicking (rb fb:Nat) (x:Int × Nat) (w:World) (hne:rb≠fb) (hr:ABox w rb ⟨#[]⟩ ⟨#[]⟩ none 0 0) (hf:w.heap[fb]? = some (.cells #[.int .i64 0,.int .i64 0] 45 (0,0))) :
  CallsD Tryz.prog 27 #[.pointer (some ⟨rb,0,none⟩),.pointer (some ⟨fb,0,none⟩)] (.panicking (thrown x)) w fun e u' w'=>e = .returned (.tuple #[])∧u' = .panicking [{ v:=.iface 45 (.agg #[.int .i64 x.1,.int .i64 (x.2:Int)]),recovered:=true }]∧Caught w w' rb fb x:=by
 have r0:=hr.c0
 have r1:=hr.c1
 have r2:=hr.c2
 have g0:=hr.f0
 have g1:=hr.f1
 have g2:=hr.f2
 obtain ⟨q0,q1,h0,h1⟩:=box_cells hf
 have Hr:=hidI hr
 have Hf:=hidI hf
 clear hr hf
 refine callsD_of_wpS Tryz.func27 rfl fun c₀ cs hu=>?_
 apply wpS_seq
 apply wpS_region
 unfold thrown at hu
 simp [wpOpsS,go_sem,recoverD,hu,Tryz.ntmps27,Exit.thenS]
 refine wpS_of_wp ?_
 have e:(#[Value.pointer (some ⟨rb,0,none⟩),Value.pointer (some ⟨fb,0,none⟩)] ++ ((Array.replicate 7 undef).setIfInBounds 1 (Value.iface 45 (Value.agg #[Value.int .i64 x.1,Value.int .i64 (x.2:Int)]))).setIfInBounds 0 (Value.iface 45 (Value.agg #[Value.int .i64 x.1,Value.int .i64 (x.2:Int)]))) = #[Value.pointer (some ⟨rb,0,none⟩),Value.pointer (some ⟨fb,0,none⟩),(Value.iface 45 (Value.agg #[Value.int .i64 x.1,Value.int .i64 (x.2:Int)])),(Value.iface 45 (Value.agg #[Value.int .i64 x.1,Value.int .i64 (x.2:Int)])),undef,undef,undef,undef,undef]:=rfl
 rw [e]
 clear e
 have HC:Hid (∀ q,Caught w ((((((w.setCell ⟨rb,0,none⟩ (.string ⟨#[]⟩)).setCell ⟨rb,1,none⟩ (.string ⟨#[]⟩)).setCell ⟨rb,2,none⟩ (.slice none 0 0)).setCell ⟨fb,0,none⟩ (.int .i64 x.1)).setCell ⟨fb,1,none⟩ (.int .i64 (x.2:Int))).drewN q) rb fb x):=fun q=>(caught_set hne Hr.out Hf.out).drewN q
 have hta:=fun xt v w=>run_assert xt v w
 go_wp2_with fail
 go_region
 exact ⟨rfl,_,rfl,_,results_none rfl _ _ _,rfl,rfl,HC.out 1⟩
def ParseOut (s:ByteArray) (w:World) (e:Ending) (w':World):Prop :=
 (∀ r,parse s = .ok r→∃ a cap,e = .returned (.tuple #[.agg #[.string r.1,.string r.2.1,.slice a r.2.2.length cap],.agg #[.int .i64 0,.int .i64 0]])∧r.2.2.length≤cap∧PicksAt w' 8 a r.2.2) ∧
 (∀ x,parse s = .error x→e = .returned (.tuple #[.agg #[.string ⟨#[]⟩,.string ⟨#[]⟩,.slice none 0 0],.agg #[.int .i64 x.1,.int .i64 (x.2:Int)]]))∧Below w.heap.size w w'
set_option maxRecDepth 100000 in
set_option maxHeartbeats 2000000 in
theorem parse_any (s:ByteArray) (w:World) (hs:Small s) :
  Calls Tryz.prog 14 #[.string s] w fun e w'=>ParseOut s w e w':=by
 have hmf:∀ (fn:Fn) (first cap:Array Value) (w:World),(Instr.makeFunc fn first cap).run Tryz.prog w = .ok (.func fn first cap) w:=fun _ _ _ _=>rfl
 unfold Small maxLen at hs
 by_cases h1000:1000 < s.size
 ·have h1000':(1000:Int) < (s.size:Int):=by omega
  have HF:Hid (parse s = .error (3,0)):=by unfold parse; rw [if_pos h1000]; rfl
  clear h1000
  go_enter_defers Tryz.func14,Tryz.ntmps14
  go_wp2_with fail
  exact ⟨.tuple #[.agg #[.string ⟨#[]⟩,.string ⟨#[]⟩,.slice none 0 0],.agg #[.int .i64 3,.int .i64 0]],by simp [results,Tryz.results14,go_sem],fun r h=>(by rw [HF.out] at h; cases h),fun x h=>(by rw [HF.out] at h; cases h; rfl),below2 _ _ _⟩
 have h1000' : ¬ (1000:Int) < (s.size:Int):=by omega
 have HPS:Hid (parse s=pAsk s):=by unfold parse; rw [if_neg h1000]; rfl
 obtain ⟨W,hW⟩:∃ W,W=(((w.alloc (Obj.cells #[.string ⟨#[]⟩,.string ⟨#[]⟩,.slice none 0 0] 25)).alloc (Obj.cells #[.int .i64 0,.int .i64 0] 45)).alloc (Obj.cells #[.string s,.int .i64 0,.int .i64 0] 93)):=⟨_,rfl⟩
 have hBW:Below w.heap.size w W:=by rw [hW]; exact ((below2 w _ _).alloc (by simp; omega) _)
 have pr:ABox W w.heap.size ⟨#[]⟩ ⟨#[]⟩ none 0 0:=by
  rw [hW]; exact (Below.heap_alloc _ _ _ (by simp; omega)).trans ((Below.heap_alloc _ _ _ (by simp)).trans (heap_alloc_new _ _))
 have hsz1:(w.alloc (Obj.cells #[.string ⟨#[]⟩,.string ⟨#[]⟩,.slice none 0 0] 25)).heap.size=w.heap.size + 1:=by simp
 have hsz2:((w.alloc (Obj.cells #[.string ⟨#[]⟩,.string ⟨#[]⟩,.slice none 0 0] 25)).alloc (Obj.cells #[.int .i64 0,.int .i64 0] 45)).heap.size=w.heap.size + 2:=by simp
 have pf:W.heap[w.heap.size + 1]? = some (.cells #[.int .i64 0,.int .i64 0] 45 (0,0)):=by
  rw [hW,← hsz1]; exact (Below.heap_alloc _ _ _ (by simp)).trans (heap_alloc_new _ _)
 have hb:RBox W (w.heap.size + 2) s 0 0:=by rw [hW,← hsz2]; exact heap_alloc_new _ _
 have hcl:=qask_any (w.heap.size + 2) s W hb (by omega)
 have HBW:=hidI hBW
 have HPR:=hidI pr
 have HPF:=hidI pf
 clear hBW pr pf hb hsz1 hsz2 h1000
 rw [hW] at hcl
 go_enter_defers Tryz.func14,Tryz.ntmps14
 go_wp2_with fail
 rw [← hW] at hcl
 rw [← hW]
 clear hW
 refine hcl.mono ?_
 clear hcl
 rintro e w1 ⟨hok,herr,hA⟩
 have pr1:=HPR.out.away hA (by omega)
 have pf1:w1.heap[w.heap.size + 1]? = some (.cells #[.int .i64 0,.int .i64 0] 45 (0,0)):=(hA.block _ (lt_of_block HPF.out) (by omega)).trans HPF.out
 have hBw1:Below w.heap.size w w1:=hA.below HBW.out (by omega) HBW.out.size
 have hlt1:=lt_of_block HPF.out
 cases hp:pAsk s with
 | error x =>
  have HF:Hid (parse s = .error x):=by rw [HPS.out,hp]; rfl
  rw [herr x hp]
  refine leaves_cons (f:=27) (args:=#[.pointer (some ⟨w.heap.size,0,none⟩),.pointer (some ⟨w.heap.size + 1,0,none⟩)]) (by simp) (by simp [go_sem]) ?_
  refine (catch_panicking w.heap.size (w.heap.size + 1) x w1 (by omega) pr1 pf1).mono ?_
  rintro e u' w2 ⟨rfl,rfl,hC⟩
  have z0:=hC.ask.c0
  have z1:=hC.ask.c1
  have z2:=hC.ask.c2
  obtain ⟨q0,q1,-,-⟩:=box_cells hC.fault
  have hB2:Below w.heap.size w w2:=hBw1.trans ⟨hC.os,hC.tape,hC.output,hC.size,fun k hk=>hC.block k (by have:=hBw1.size; omega) (by omega) (by omega)⟩
  exact ⟨.tuple #[.agg #[.string ⟨#[]⟩,.string ⟨#[]⟩,.slice none 0 0],.agg #[.int .i64 x.1,.int .i64 (x.2:Int)]],by simp [results,Tryz.results14,go_sem,z0,z1,z2,q0,q1],fun r h=>(by rw [HF.out] at h; cases h),fun y h=>(by rw [HF.out] at h; cases h; rfl),hB2⟩
 | ok r =>
  have HF:Hid (parse s = .ok r):=by rw [HPS.out,hp]; rfl
  obtain ⟨a,cap,rfl,hc,hf⟩:=hok r hp
  have z0:=pr1.c0
  have z1:=pr1.c1
  have z2:=pr1.c2
  have y0:=pr1.f0
  have y1:=pr1.f1
  have y2:=pr1.f2
  obtain ⟨q0,q1,x0,x1⟩:=box_cells pf1
  have HFR:Hid (PicksAt (((((w1.setCell ⟨w.heap.size,0,none⟩ (.string r.1)).setCell ⟨w.heap.size,1,none⟩ (.string r.2.1)).setCell ⟨w.heap.size,2,none⟩ (.slice a r.2.2.length cap)).setCell ⟨w.heap.size + 1,0,none⟩ (.int .i64 0)).setCell ⟨w.heap.size + 1,1,none⟩ (.int .i64 0)) 8 a r.2.2):=hf _ fun k hk hnk=>by
   have h1 : ¬ k < W.heap.size:=hnk
   rw [Below.heap_setCell _ _ _ _ (by show k≠w.heap.size + 1; omega),Below.heap_setCell _ _ _ _ (by show k≠w.heap.size + 1; omega),Below.heap_setCell _ _ _ _ (by show k≠w.heap.size; omega),Below.heap_setCell _ _ _ _ (by show k≠w.heap.size; omega),Below.heap_setCell _ _ _ _ (by show k≠w.heap.size; omega)]
  have HB2:Hid (Below w.heap.size w (((((w1.setCell ⟨w.heap.size,0,none⟩ (.string r.1)).setCell ⟨w.heap.size,1,none⟩ (.string r.2.1)).setCell ⟨w.heap.size,2,none⟩ (.slice a r.2.2.length cap)).setCell ⟨w.heap.size + 1,0,none⟩ (.int .i64 0)).setCell ⟨w.heap.size + 1,1,none⟩ (.int .i64 0))) :=
   ((((hBw1.setCell (by show w.heap.size≤w.heap.size; omega) _).setCell (by show w.heap.size≤w.heap.size; omega) _).setCell (by show w.heap.size≤w.heap.size; omega) _).setCell (by show w.heap.size≤w.heap.size + 1; omega) _).setCell (by show w.heap.size≤w.heap.size + 1; omega) _
  clear hok herr hA hf pr1 pf1 hBw1
  go_wp2_with fail
  refine leaves_cons (f:=27) (args:=#[.pointer (some ⟨w.heap.size,0,none⟩),.pointer (some ⟨w.heap.size + 1,0,none⟩)]) (by simp) (by simp [go_sem]) ?_
  refine (catch_idle ⟨w.heap.size,0,none⟩ ⟨w.heap.size + 1,0,none⟩ _).mono ?_
  rintro e u' w2 ⟨rfl,rfl,rfl⟩
  exact ⟨.tuple #[.agg #[.string r.1,.string r.2.1,.slice a r.2.2.length cap],.agg #[.int .i64 0,.int .i64 0]],by simp [results,Tryz.results14,go_sem,z0,z1,z2,q0,q1],fun q h=>(by rw [HF.out] at h; cases h; exact ⟨a,cap,rfl,hc,HFR.out⟩),fun y h=>(by rw [HF.out] at h; cases h),HB2.out⟩
end Go.Proofs.YtjjggefmmeminacGreat
