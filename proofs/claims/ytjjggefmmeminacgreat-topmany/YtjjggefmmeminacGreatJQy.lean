import Derived.Test.YtjjggefmmeminacGreatJMn
import Derived.Test.YtjjggefmmeminacGreatJOpen
import Derived.Handy
import Derived.Laws.NewBlocks
namespace Go.Proofs.YtjjggefmmeminacGreat
open Go.ChangeShapes Go.WideShapes Go.ChangeAt Go.RowKit Go.Deep Go.Sort Go.PlainAid
def PicksAt (w:World):(d:Nat)→Option Addr→List (Pick d)→Prop
 | 0,_,_=>True
 | d + 1,a,L=>L.length≤maxLen∧∀ i,i < L.length→∃ b o A C,a=some ⟨b,o,none⟩∧w.cell? ⟨b,o + i * 3,none⟩=some (.string (nick (pickN L i)))∧w.cell? ⟨b,o + i * 3 + 1,none⟩=some (.string (pfield (pickN L i)))∧w.cell? ⟨b,o + i * 3 + 2,none⟩=some (.slice A (subs (pickN L i)).length C)∧(subs (pickN L i)).length≤C∧Small (nick (pickN L i))∧Small (pfield (pickN L i))∧PicksAt w d A (subs (pickN L i))
theorem PicksAt.max {w:World} {d:Nat} {a:Option Addr} {L:List (Pick d)} (h:PicksAt w d a L):L.length≤maxLen:=by
 cases d with
 | zero=>rw [nil0 L]; exact Nat.zero_le _
 | succ d=>exact h.1
theorem PicksAt.kept {w w':World} (hB:Below w.heap.size w w'):∀ {d:Nat} {a:Option Addr} {L:List (Pick d)},PicksAt w d a L→PicksAt w' d a L
 | 0,_,_,_=>trivial
 | _ + 1,_,_,h=>⟨h.1,fun i hi=>let ⟨b,o,A,C,e,c0,c1,c2,hc,s0,s1,hs⟩:=h.2 i hi; ⟨b,o,A,C,e,keptCell hB c0,keptCell hB c1,keptCell hB c2,hc,s0,s1,hs.kept hB⟩⟩
theorem PicksAt.less {w:World} {d:Nat} {a:Option Addr} {L:List (Pick d)} (h:PicksAt w d a L) (k:Nat):PicksAt w d a (L.take k):=by
 cases d with
 | zero=>trivial
 | succ d =>
  refine ⟨Nat.le_trans (by rw [List.length_take]; omega) h.1,fun i hi=>?_⟩
  have h1:i < k∧i < L.length:=by rw [List.length_take] at hi; omega
  have e:pickN (L.take k) i=pickN L i:=by
   rw [pickN_get hi,pickN_get h1.2,List.getElem_take]
  rw [e]
  exact h.2 i h1.2
theorem PicksAt.none {w:World} {d:Nat} {a:Option Addr} : PicksAt w d a []:=by
 cases d with
 | zero=>trivial
 | succ d=>exact ⟨Nat.zero_le _,fun i hi=>absurd hi (Nat.not_lt_zero _)⟩
def PartsAt (w:World) (a:Option Addr) (n:Nat) (P:Nat→LPart):Prop:=n≤maxLen∧∀ i,i < n→∃ b o,a=some ⟨b,o,none⟩∧w.cell? ⟨b,o + i * 4,none⟩=some (.string (P i).name)∧w.cell? ⟨b,o + i * 4 + 1,none⟩=some (.slice (P i).fa (P i).nf (P i).fcap)∧w.cell? ⟨b,o + i * 4 + 2,none⟩=some (.slice (P i).oa (P i).no (P i).ocap)∧w.cell? ⟨b,o + i * 4 + 3,none⟩=some (.slice (P i).ha (P i).nh (P i).hcap)∧Small (P i).name∧FieldsAt w (P i).fa (P i).nf (P i).F
theorem PartsAt.kept {w w':World} {a:Option Addr} {n:Nat} {P:Nat→LPart} (h:PartsAt w a n P) (hB:Below w.heap.size w w'):PartsAt w' a n P :=
 ⟨h.1,fun i hi=>let ⟨b,o,e,c0,c1,c2,c3,s0,hF⟩:=h.2 i hi; ⟨b,o,e,keptCell hB c0,keptCell hB c1,keptCell hB c2,keptCell hB c3,s0,hF.kept hB⟩⟩
section
variable {H:Type} {enc:TypeId × Value→H} {w:World} {base:Nat} {spare:Nat→Bool} {held:Bool}
end
end Go.Proofs.YtjjggefmmeminacGreat
namespace Go.Proofs.YtjjggefmmeminacGreat
open Go.RowKit Go.Sort Go.PlainAid
def IntBox (w:World) (b:Nat) (k:Nat):Prop:=w.heap[b]? = some (.cells #[.int .i64 (k:Int)] 3 (0,0))
theorem IntBox.cell {w:World} {b k:Nat} (h:IntBox w b k):w.cell? ⟨b,0,none⟩=some (.int .i64 (k:Int)):=by simp [World.cell?,show w.heap[b]? = _ from h]
theorem IntBox.free {w:World} {b k:Nat} (h:IntBox w b k):w.frozen? ⟨b,0,none⟩=false:=by simp [World.frozen?,show w.heap[b]? = _ from h]
theorem IntBox.lt {w:World} {b k:Nat} (h:IntBox w b k):b < w.heap.size:=block_lt_of_cell h.cell
theorem IntBox.set {w:World} {b k:Nat} (h:IntBox w b k) (j:Nat):IntBox (w.setCell ⟨b,0,none⟩ (.int .i64 (j:Int))) b j:=heap_setCell_same w b 0 _ 3 _ h
theorem IntBox.kept {w w':World} {b k:Nat} (h:IntBox w b k) (hB:Below w.heap.size w w'):IntBox w' b k:=(hB.block b h.lt).trans h
def WrongListOk (d:Nat):Prop := ∀ (a:Option Addr) (cap:Nat) (L:List (Pick d)) (deep cnt bc:Nat) (w0 w:World),PicksAt w0 d a L→Below w0.heap.size w0 w→IntBox w bc cnt→w0.heap.size≤bc→cnt≤60→deep≤9 →
  Calls Tryz.prog 62 #[.slice a L.length cap,.int .i64 (deep:Int),.pointer (some ⟨bc,0,none⟩)] w fun e w'=>e = .returned (.int .i64 (wL d deep cnt L).1)∧IntBox w' bc (wL d deep cnt L).2∧Below w0.heap.size w0 w'
set_option maxRecDepth 100000 in
set_option maxHeartbeats 1000000 in
theorem wrongPick_any (d:Nat) (ih:WrongListOk d) (p:Pick (d + 1)) (A:Option Addr) (C deep cnt bc:Nat) (w0 w:World) (hP:PicksAt w0 d A (subs p)) (hB:Below w0.heap.size w0 w) (hb:IntBox w bc cnt) (hbc:w0.heap.size≤bc) (hcnt:cnt≤60) (hdeep:deep≤8) (hs0:Small (nick p)) (hs1:Small (pfield p)) :
  Calls Tryz.prog 91 #[.agg #[.string (nick p),.string (pfield p),.slice A (subs p).length C],.int .i64 (deep:Int),.pointer (some ⟨bc,0,none⟩)] w fun e w'=>e = .returned (.int .i64 (wP d deep cnt p).1)∧IntBox w' bc (wP d deep cnt p).2∧Below w0.heap.size w0 w':=by
 have HE:Hid (wP d deep cnt p=if 60 < cnt + 1 then (4,cnt + 1) else if badName p then (6,cnt + 1) else if (subs p).isEmpty then (0,cnt + 1) else wL d (deep + 1) (cnt + 1) (subs p)):=rfl
 generalize hW:w.alloc (Obj.cells #[.string (nick p),.string (pfield p),.slice A (subs p).length C] 76)=W
 have hBW:Below w.heap.size w W:=by rw [← hW]; exact below1 _ _
 have hbx:W.heap[w.heap.size]? = some (.cells #[.string (nick p),.string (pfield p),.slice A (subs p).length C] 76 (0,0)):=by rw [← hW]; exact heap_alloc_new _ _
 have hbW:=hb.kept hBW
 have kc:=hbW.cell
 have kf:=hbW.free
 have hne:w.heap.size≠bc:=by have:=hb.lt; omega
 generalize hU:W.setCell ⟨bc,0,none⟩ (.int .i64 ((cnt + 1:Nat):Int))=U
 have hbU:IntBox U bc (cnt + 1):=by rw [← hU]; exact hbW.set _
 have hxU:U.heap[w.heap.size]? = some (.cells #[.string (nick p),.string (pfield p),.slice A (subs p).length C] 76 (0,0)):=by rw [← hU,Below.heap_setCell _ _ _ _ hne]; exact hbx
 have hBU:Below w0.heap.size w0 U:=by rw [← hU]; exact (hB.trans (hBW.mono hB.size)).setCell hbc _
 have c0:U.cell? ⟨w.heap.size,0,none⟩=some (.string (nick p)):=by simp [World.cell?,hxU]
 have c1:U.cell? ⟨w.heap.size,1,none⟩=some (.string (pfield p)):=by simp [World.cell?,hxU]
 have c2:U.cell? ⟨w.heap.size,2,none⟩=some (.slice A (subs p).length C):=by simp [World.cell?,hxU]
 have kU:=hbU.cell
 have hU':W.setCell ⟨bc,0,none⟩ (.int .i64 ((cnt:Int) + 1))=U:=by rw [← hU]; rfl
 have HBU:=hidI hBU
 have HbU:=hidI hbU
 clear hU hBU hbU hxU hbx hBW hB hb hbW
 by_cases h60:60 < cnt + 1
 ·have h60':(60:Int) < (cnt:Int) + 1:=by omega
  have HF:Hid (wP d deep cnt p=(4,cnt + 1)):=by rw [HE.out,if_pos h60]; rfl
  go_enter Tryz.func91,Tryz.ntmps91
  go_wp2_with fail
  go_ret
  exact ⟨by rw [HF.out]; rfl,by rw [HF.out]; exact HbU.out,HBU.out⟩
 have h60' : ¬ (60:Int) < (cnt:Int) + 1:=by omega
 rw [if_neg h60] at HE
 have hcl:=named_any (pfield p) U hs1
 go_enter Tryz.func91,Tryz.ntmps91
 go_wp2_with fail
 refine hcl.mono ?_
 clear hcl
 rintro e w1 ⟨rfl,hw1⟩
 clear hU' hW kc kf
 have k0:=keptCell hw1 c0
 have k2:=keptCell hw1 c2
 have HB1:Hid (Below w0.heap.size w0 w1):=HBU.out.trans (hw1.mono HBU.out.size)
 have Hb1:=hidI (HbU.out.kept hw1)
 clear hw1 HBU HbU c0 c1 c2 kU
 cases hn:named (pfield p) with
 | false =>
  have HF:Hid (wP d deep cnt p=(6,cnt + 1)):=by rw [HE.out,if_pos (by unfold badName; rw [hn]; rfl)]; rfl
  clear hn
  go_wp2_with fail
  go_ret
  exact ⟨by rw [HF.out]; rfl,by rw [HF.out]; exact Hb1.out,HB1.out⟩
 | true =>
  have HL:Hid (emp (nick p)=true∨named (nick p)=true→wP d deep cnt p=if (subs p).isEmpty then (0,cnt + 1) else wL d (deep + 1) (cnt + 1) (subs p)):=fun h=>by
   rw [HE.out,if_neg]
   unfold badName
   rcases h with h | h <;> rw [hn,h] <;> simp
  have HX:Hid (emp (nick p)=false→named (nick p)=false→wP d deep cnt p=(6,cnt + 1)):=fun h1 h2=>by
   rw [HE.out,if_pos]
   unfold badName
   rw [hn,h1,h2]; rfl
  have hend:∀ w2,Below w1.heap.size w1 w2→(emp (nick p)=true∨named (nick p)=true)→(subs p).length≠0→Calls Tryz.prog 62 #[.slice A (subs p).length C,.int .i64 ((deep:Int) + 1),.pointer (some ⟨bc,0,none⟩)] w2 fun e w'=>e = .returned (.int .i64 (wP d deep cnt p).1)∧IntBox w' bc (wP d deep cnt p).2∧Below w0.heap.size w0 w':=fun w2 h2 hor hz=>by
   have hsz : ¬ (subs p).isEmpty=true:=fun h=>hz (by rw [List.isEmpty_iff.1 h]; rfl)
   rw [HL.out hor,if_neg hsz]
   exact ih A C (subs p) (deep + 1) (cnt + 1) bc w0 w2 hP (HB1.out.trans (h2.mono HB1.out.size)) (Hb1.out.kept h2) hbc (by omega) (by omega)
  have hend0:(emp (nick p)=true∨named (nick p)=true)→(subs p).length=0→wP d deep cnt p=(0,cnt + 1):=fun hor hz=>by
   rw [HL.out hor,if_pos (by rw [List.isEmpty_iff]; exact List.eq_nil_of_length_eq_zero hz)]
  have HEND:=hidI hend
  have HEND0:=hidI hend0
  have hee:=emp_eq (nick p)
  clear hn HE hend hend0
  cases he:emp (nick p) with
  | true =>
   rw [he] at hee
   by_cases hz:(subs p).length=0
   ·have HF:=hidI (HEND0.out (.inl he) hz)
    clear he
    go_wp2_with fail
    go_ret
    exact ⟨by rw [HF.out]; rfl,by rw [HF.out]; exact Hb1.out,HB1.out⟩
   ·have hcl:=HEND.out w1 (Below.refl _ _) (.inl he) hz
    have hz':0 < ((subs p).length:Int):=by omega
    clear he hz
    go_wp2_with fail
    refine hcl.mono ?_
    clear hcl
    rintro e w2 ⟨rfl,hb2,hB2⟩
    go_wp2_with fail
    go_ret
    exact ⟨rfl,hb2,hB2⟩
  | false =>
   rw [he] at hee
   have hcl:=named_any (nick p) w1 hs0
   go_wp2_with fail
   refine hcl.mono ?_
   clear hcl
   rintro e w2 ⟨rfl,hw2⟩
   have k2:=keptCell hw2 k2
   have HB2:Hid (Below w0.heap.size w0 w2):=HB1.out.trans (hw2.mono HB1.out.size)
   have Hb2:=hidI (Hb1.out.kept hw2)
   have HW2:=hidI hw2
   clear hw2
   cases hn2:named (nick p) with
   | false =>
    have HF:=hidI (HX.out he hn2)
    clear he hn2
    go_wp2_with fail
    go_ret
    exact ⟨by rw [HF.out]; rfl,by rw [HF.out]; exact Hb2.out,HB2.out⟩
   | true =>
    by_cases hz:(subs p).length=0
    ·have HF:=hidI (HEND0.out (.inr hn2) hz)
     clear he hn2
     go_wp2_with fail
     go_ret
     exact ⟨by rw [HF.out]; rfl,by rw [HF.out]; exact Hb2.out,HB2.out⟩
    ·have hcl:=HEND.out w2 HW2.out (.inr hn2) hz
     have hz':0 < ((subs p).length:Int):=by omega
     clear he hn2 hz
     go_wp2_with fail
     refine hcl.mono ?_
     clear hcl
     rintro e w3 ⟨rfl,hb3,hB3⟩
     go_wp2_with fail
     go_ret
     exact ⟨rfl,hb3,hB3⟩
set_option maxRecDepth 100000 in
set_option maxHeartbeats 1000000 in
theorem wrongList_of (d:Nat) (hp:∀ d',d=d' + 1→WrongListOk d'):WrongListOk d:=by
 intro a cap L deep cnt bc w0 w hP hB hb hbc hcnt hdeep
 have hn:L.length≤9223372036854775807:=hP.max
 have HP:=hidI hP
 have HB:=hidI hB
 have Hb:=hidI hb
 clear hP hB hb
 by_cases h8:8 < deep
 ·have HF:Hid (wL d deep cnt L=(3,cnt)):=by unfold wL; rw [if_pos h8]; rfl
  have h8':(8:Int) < (deep:Int):=by omega
  go_enter Tryz.func62,Tryz.ntmps62
  go_wp2_with fail
  go_ret
  exact ⟨by rw [HF.out]; rfl,by rw [HF.out]; exact Hb.out,HB.out⟩
 have h8' : ¬ (8:Int) < (deep:Int):=by omega
 by_cases h0:L.length=0
 ·have HF:Hid (wL d deep cnt L=(4,cnt)):=by unfold wL; rw [if_neg h8,if_pos (by rw [List.isEmpty_iff]; exact List.eq_nil_of_length_eq_zero h0)]; rfl
  have h0':((L.length:Int) == 0)=true:=by rw [beq_iff_eq]; omega
  clear h0
  go_enter Tryz.func62,Tryz.ntmps62
  go_wp2_with fail
  go_ret
  exact ⟨by rw [HF.out]; rfl,by rw [HF.out]; exact Hb.out,HB.out⟩
 have h0':((L.length:Int) == 0)=false:=by rw [beq_eq_false_iff_ne]; omega
 cases d with
 | zero=>exact absurd (by rw [nil0 L]; rfl) h0
 | succ d =>
 have HQ:=hidI (hp d rfl)
 have HF:Hid (wL (d + 1) deep cnt L=wR (d + 1) deep cnt L):=by
  unfold wL; rw [if_neg h8,if_neg (fun h=>h0 (by rw [List.isEmpty_iff.1 h]; rfl))]; rfl
 clear hp h0
 go_enter Tryz.func62,Tryz.ntmps62
 go_wp2_with fail
 go_loopw [17] (fun i wr => ∃ k c:Nat,k≤L.length∧i = .int .i64 k∧c≤60∧Hid (wR (d + 1) deep cnt L=wR (d + 1) deep c (L.drop k))∧IntBox wr bc c∧Below w0.heap.size w0 wr) (fun i _=>L.length - (intOf i).toNat)
 case atStart=>exact ⟨0,cnt,Nat.zero_le _,rfl,hcnt,rfl,Hb.out,HB.out⟩
 case round =>
  obtain ⟨k,c,hk,rfl,hc,HR,hbr,hBr⟩:=hrel
  by_cases hlt:k < L.length
  ·obtain ⟨b,o,A,C,ha,c0,c1,c2,hC,s0,s1,hs⟩:=(HP.out).2 k hlt
   subst ha
   have hlt':(k:Int) < (L.length:Int):=by omega
   have hk0:(0:Int)≤(k:Int):=by omega
   have e0:=(hBr.cell (block_lt_of_cell c0)).trans c0
   have e1:=(hBr.cell (block_lt_of_cell c1)).trans c1
   have e2:=(hBr.cell (block_lt_of_cell c2)).trans c2
   generalize hV:wr.alloc (Obj.cells #[.string (nick (pickN L k)),.string (pfield (pickN L k)),.slice A (subs (pickN L k)).length C] 76)=V
   have hBV:Below wr.heap.size wr V:=by rw [← hV]; exact below1 _ _
   have hcl:=wrongPick_any d HQ.out (pickN L k) A C deep c bc w0 V hs (hBr.trans (hBV.mono hBr.size)) (hbr.kept hBV) hbc hc (by omega) s0 s1
   have v0:V.cell? ⟨wr.heap.size,0,none⟩=some (.string (nick (pickN L k))):=by rw [← hV,World.cell?_alloc_at _ _ _ _ rfl]; rfl
   have v1:V.cell? ⟨wr.heap.size,1,none⟩=some (.string (pfield (pickN L k))):=by rw [← hV,World.cell?_alloc_at _ _ _ _ rfl]; rfl
   have v2:V.cell? ⟨wr.heap.size,2,none⟩=some (.slice A (subs (pickN L k)).length C):=by rw [← hV,World.cell?_alloc_at _ _ _ _ rfl]; rfl
   have HD:Hid (wR (d + 1) deep c (L.drop k)=if (wP d deep c (pickN L k)).1≠0 then wP d deep c (pickN L k) else wR (d + 1) deep (wP d deep c (pickN L k)).2 (L.drop (k + 1))):=by rw [drop_pick hlt,wR_cons]; rfl
   have HLE:=hidI (wP_le d deep c (pickN L k) hc)
   clear c0 c1 c2 hbr hBr hBV hs hC s0 s1
   go_wp2_with fail
   clear hV e0 e1 e2
   refine hcl.mono ?_
   clear hcl v0 v1 v2
   rintro e w1 ⟨rfl,hb1,hB1⟩
   generalize wP d deep c (pickN L k)=r at *
   by_cases hr:r.1=0
   ·have hr':(r.1 != 0)=false:=by simpa using hr
    have HR2:Hid (wR (d + 1) deep cnt L=wR (d + 1) deep r.2 (L.drop (k + 1))):=by rw [HR.out,HD.out,if_neg (by simp [hr])]; rfl
    have hr60:=HLE.out.2 hr
    clear hr
    go_wp2_with fail
    go_roundw
    case rel=>exact ⟨k + 1,r.2,by omega,by go_num,hr60,HR2,hb1,hB1⟩
    case measure=>simp [intOf]; omega
   ·have hr':(r.1 != 0)=true:=by simpa using hr
    have HR2:Hid (wL (d + 1) deep cnt L=r):=by rw [HF.out,HR.out,HD.out,if_pos hr]; rfl
    clear hr
    go_wp2_with fail
    go_ret
    exact ⟨by rw [HR2.out]; rfl,by rw [HR2.out]; exact hb1,hB1⟩
  ·have hkn:k=L.length:=by omega
   have HR2:Hid (wL (d + 1) deep cnt L=(0,c)):=by rw [HF.out,HR.out,hkn,List.drop_length,wR_nil]; rfl
   clear hkn
   go_wp2_with fail
   go_ret
   exact ⟨by rw [HR2.out]; rfl,by rw [HR2.out]; exact hbr,hBr⟩
theorem wrongList_any:∀ d,WrongListOk d
 | 0=>wrongList_of 0 (fun _ h=>by omega)
 | d + 1=>wrongList_of (d + 1) (fun d' h=>by cases h; exact wrongList_any d)
set_option maxRecDepth 100000 in
set_option maxHeartbeats 1000000 in
theorem qwrong_any (d:Nat) (type key:ByteArray) (a:Option Addr) (cap:Nat) (L:List (Pick d)) (w:World) (hP:PicksAt w d a L) (hs0:Small type) (hs1:Small key) :
  Calls Tryz.prog 40 #[.agg #[.string type,.string key,.slice a L.length cap]] w fun e w'=>e = .returned (.int .i64 (wA d type key L))∧Below w.heap.size w w':=by
 generalize hW:w.alloc (Obj.cells #[.string type,.string key,.slice a L.length cap] 25)=W
 have hBW:Below w.heap.size w W:=by rw [← hW]; exact below1 _ _
 have hbx:W.heap[w.heap.size]? = some (.cells #[.string type,.string key,.slice a L.length cap] 25 (0,0)):=by rw [← hW]; exact heap_alloc_new _ _
 have c0:W.cell? ⟨w.heap.size,0,none⟩=some (.string type):=by simp [World.cell?,hbx]
 have c1:W.cell? ⟨w.heap.size,1,none⟩=some (.string key):=by simp [World.cell?,hbx]
 have c2:W.cell? ⟨w.heap.size,2,none⟩=some (.slice a L.length cap):=by simp [World.cell?,hbx]
 have hcl:=named_any type W hs0
 have HP:=hidI hP
 have HBW:=hidI hBW
 clear hP hbx hBW
 go_enter Tryz.func40,Tryz.ntmps40
 go_wp2_with fail
 clear hW
 refine hcl.mono ?_
 clear hcl
 rintro e w1 ⟨rfl,hw1⟩
 have c1:=keptCell hw1 c1
 have c2:=keptCell hw1 c2
 have HB1:Hid (Below w.heap.size w w1):=HBW.out.trans (hw1.mono HBW.out.size)
 clear hw1 HBW c0
 cases hn:named type with
 | false =>
  have HF:Hid (wA d type key L=6):=by unfold wA; rw [hn]; rfl
  clear hn
  go_wp2_with fail
  go_ret
  exact ⟨by rw [HF.out]; rfl,HB1.out⟩
 | true =>
  have hcl:=named_any key w1 hs1
  go_wp2_with fail
  refine hcl.mono ?_
  clear hcl
  rintro e w2 ⟨rfl,hw2⟩
  have c2:=keptCell hw2 c2
  have HB2:Hid (Below w.heap.size w w2):=HB1.out.trans (hw2.mono HB1.out.size)
  clear hw2 HB1 c1
  cases hn2:named key with
  | false =>
   have HF:Hid (wA d type key L=6):=by unfold wA; rw [hn,hn2]; rfl
   clear hn hn2
   go_wp2_with fail
   go_ret
   exact ⟨by rw [HF.out]; rfl,HB2.out⟩
  | true =>
   have HF:Hid (wA d type key L=(wL d 1 0 L).1):=by unfold wA; rw [hn,hn2]; rfl
   clear hn hn2
   have hBV:Below w2.heap.size w2 (w2.alloc (Obj.cells #[.int .i64 0] 3)):=below1 _ _
   have hlt:w.heap.size < w2.heap.size:=block_lt_of_cell c2
   have hcl:=wrongList_any d a cap L 1 0 w2.heap.size w _ HP.out (HB2.out.trans (hBV.mono HB2.out.size)) (heap_alloc_new _ _) HB2.out.size (by omega) (by omega)
   have c2:=keptCell hBV c2
   clear hBV
   go_wp2_with fail
   refine hcl.mono ?_
   clear hcl
   rintro e w3 ⟨rfl,-,hB3⟩
   go_wp2_with fail
   go_ret
   exact ⟨by rw [HF.out]; rfl,hB3⟩
end Go.Proofs.YtjjggefmmeminacGreat
namespace Go.Proofs.YtjjggefmmeminacGreat
open Go.ChangeShapes Go.WideShapes Go.ChangeAt Go.RowKit Go.Deep Go.Sort Go.PlainAid
section
variable {H:Type} {enc:TypeId × Value→H} {w:World} {base:Nat} {spare:Nat→Bool} {held:Bool}
end
end Go.Proofs.YtjjggefmmeminacGreat
