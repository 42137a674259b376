import Derived.Test.YtjjggefmmeminacGreatJTr
import Derived.Test.YtjjggefmmeminacGreatTpCallP
import Derived.Deep.CutRange
namespace Go.Proofs.YtjjggefmmeminacGreat
open Go.RowKit Go.Sort Go.PlainAid
theorem call_servs {X:World} {fa ta ca va xa lb:Nat} {field nu text:ByteArray} (hs0:Small field) (hs1:Small nu) (hs2:Small text)
  (k1:X.heap[fa]? = some (.cells #[.string field,.int .i64 1,.string ⟨#[]⟩] 66 (0,0))) (k2:X.heap[ta]? = some (.cells #[.string bAa,.slice (some ⟨fa,0,none⟩) 1 1] 70 (0,0)))
  (k3:X.heap[ca]? = some (.cells #[.int .i64 2,.string bAa,.string field,.string nu] 72 (0,0))) (k4:X.heap[va]? = some (.cells #[.string field,.string text,.slice none 0 0] 59 (0,0)))
  (k5:X.heap[xa]? = some (.cells #[.string bAa,.string bKk,.slice (some ⟨va,0,none⟩) 1 1] 62 (0,0))) (k6:X.heap[lb]? = some (.cells #[.slice (some ⟨ta,0,none⟩) 1 1,.slice (some ⟨ca,0,none⟩) 1 1,.slice (some ⟨xa,0,none⟩) 1 1] 40 (0,0))) :
  ServsAt X (some ⟨lb,0,none⟩) 1 (callV (some ⟨ta,0,none⟩) (some ⟨fa,0,none⟩) (some ⟨ca,0,none⟩) (some ⟨xa,0,none⟩) (some ⟨va,0,none⟩) field nu text):=by
 have one:∀ {i:Nat},i < 1→i=0:=fun h=>by omega
 have sA:Small bAa:=small_lit 1 rfl (by decide)
 have sK:Small bKk:=small_lit 1 rfl (by decide)
 have sE:Small ⟨#[]⟩:=small_lit 0 rfl (by decide)
 refine ⟨show 1≤maxLen by decide,fun i hi=>?_⟩
 obtain rfl:=one hi
 refine ⟨lb,0,rfl,by simp [World.cell?,k6,callV,callS],by simp [World.cell?,k6,callV,callS],by simp [World.cell?,k6,callV,callS],⟨⟨show 1≤maxLen by decide,fun i hi=>?_⟩,⟨show 1≤maxLen by decide,fun i hi=>?_⟩,⟨show 1≤maxLen by decide,fun i hi=>?_⟩,Nat.le_refl 1,Nat.le_refl 1⟩⟩
 ·obtain rfl:=one hi
  refine ⟨_,_,rfl,by simp [World.cell?,k2,callV,callS,callY],by simp [World.cell?,k2,callV,callS,callY],Nat.le_refl 1,sA,⟨show 1≤maxLen by decide,fun j hj=>?_⟩⟩
  obtain rfl:=one hj
  exact ⟨_,_,rfl,by simp [World.cell?,k1,callV,callS,callY],by simp [World.cell?,k1,callV,callS,callY],by simp [World.cell?,k1,callV,callS,callY],hs0,sE,show (Lit.int .i64 1).wf=true by decide⟩
 ·obtain rfl:=one hi
  exact ⟨_,_,rfl,by simp [World.cell?,k3,callV,callS,callC],by simp [World.cell?,k3,callV,callS,callC],by simp [World.cell?,k3,callV,callS,callC],by simp [World.cell?,k3,callV,callS,callC],sA,hs0,hs1⟩
 ·obtain rfl:=one hi
  refine ⟨_,_,rfl,by simp [World.cell?,k5,callV,callS,callH],by simp [World.cell?,k5,callV,callS,callH],by simp [World.cell?,k5,callV,callS,callH],Nat.le_refl 1,sA,sK,⟨show 1≤maxLen by decide,fun j hj=>?_⟩⟩
  obtain rfl:=one hj
  exact ⟨_,_,rfl,by simp [World.cell?,k4,callV,callS,callH,callW],by simp [World.cell?,k4,callV,callS,callH,callW],by simp [World.cell?,k4,callV,callS,callH,callW],Nat.le_refl 0,hs0,hs2,⟨Nat.zero_le _,fun q hq=>absurd hq (Nat.not_lt_zero _)⟩⟩
theorem callX_small {x:ByteArray} (h:named x=true):Small (callX x):=by
 have:=(named_iff.1 h).2.1
 unfold Small maxLen callX
 rw [ByteArray.size_append,ByteArray.size_append]
 show 5 + x.size + 1≤_
 omega
set_option maxRecDepth 100000 in
set_option maxHeartbeats 4000000 in
theorem topCalled_any (field nu text:ByteArray) (w:World) (hs0:Small field) (hs1:Small nu) (hs2:Small text):Calls Tryz.prog 7 #[.string field,.string nu,.string text] w fun e w'=>e = .returned (.bool true)∧Below w.heap.size w w':=by
 have hcl:=talive_any w
 go_enter Tryz.func7,Tryz.ntmps7
 go_wp2_with fail
 refine hcl.mono ?_
 clear hcl
 rintro e w0 ⟨rfl,hw0⟩
 have HW0:=Hid.intro hw0
 clear hw0
 have hcl:=named_any field w0 hs0
 go_wp2_with fail
 refine hcl.mono ?_
 clear hcl
 rintro e w1 ⟨rfl,hw1⟩
 have HW1:=Hid.intro (HW0.out.trans (hw1.mono HW0.out.size))
 clear hw1 HW0
 cases h1:named field with
 | false =>
  clear h1
  go_wp2_with fail
  go_ret
  exact ⟨rfl,HW1.out⟩
 | true =>
 have H1:=Hid.intro h1
 clear h1
 have hcl:=named_any nu w1 hs1
 go_wp2_with fail
 refine hcl.mono ?_
 clear hcl
 rintro e w2 ⟨rfl,hw2⟩
 have HW2:=Hid.intro (HW1.out.trans (hw2.mono HW1.out.size))
 clear hw2 HW1
 cases h2:named nu with
 | false =>
  clear h2
  go_wp2_with fail
  go_ret
  exact ⟨rfl,HW2.out⟩
 | true =>
 have H2:=Hid.intro h2
 clear h2
 cases h3:eqs field nu with
 | true =>
  have hb:(field.toList == nu.toList)=true:=by rw [eqs_eq]; exact h3
  clear h3
  go_wp2_with fail
  go_ret
  exact ⟨rfl,HW2.out⟩
 | false =>
 have hb:(field.toList == nu.toList)=false:=by rw [eqs_eq]; exact h3
 have H3:Hid (field≠nu):=Hid.intro (eqs_false.1 h3)
 clear h3
 by_cases h4:40 < text.size
 ·have h4':(40:Int) < (text.size:Int):=by omega
  go_wp2_with fail
  go_ret
  exact ⟨rfl,HW2.out⟩
 have h4' : ¬ (40:Int) < (text.size:Int):=by omega
 have H4:Hid (text.size≤40):=Hid.intro (by omega)
 have hcl:=word_any field w2
 go_wp2_with fail
 clear h4 h4' hb
 refine hcl.mono ?_
 clear hcl
 rintro e w3 ⟨rfl,hw3⟩
 have HW3:=Hid.intro (HW2.out.trans (hw3.mono HW2.out.size))
 clear hw3 HW2
 go_upto_region 6 with fail
 generalize hX:(((((w3.alloc (Obj.cells #[.string field,.int .i64 1,.string ⟨#[]⟩] 66)).alloc (Obj.cells #[.string ⟨#[97]⟩,.slice (some ⟨w3.heap.size,0,none⟩) 1 1] 70)).alloc (Obj.cells #[.int .i64 2,.string ⟨#[97]⟩,.string field,.string nu] 72)).alloc (Obj.cells #[.string field,.string text,.slice none 0 0] 59)).alloc (Obj.cells #[.string ⟨#[97]⟩,.string ⟨#[107]⟩,.slice (some ⟨w3.heap.size + 1 + 1 + 1,0,none⟩) 1 1] 62)).alloc (Obj.cells #[.slice (some ⟨w3.heap.size + 1,0,none⟩) 1 1,.slice (some ⟨w3.heap.size + 1 + 1,0,none⟩) 1 1,.slice (some ⟨w3.heap.size + 1 + 1 + 1 + 1,0,none⟩) 1 1] 40)=X
 have hS:=call_servs (X:=X) (fa:=w3.heap.size) (ta:=w3.heap.size + 1) (ca:=w3.heap.size + 1 + 1) (va:=w3.heap.size + 1 + 1 + 1) (xa:=w3.heap.size + 1 + 1 + 1 + 1) (lb:=w3.heap.size + 1 + 1 + 1 + 1 + 1) hs0 hs1 hs2
  (by rw [← hX]; exact alloc_old (alloc_old (alloc_old (alloc_old (alloc_old (alloc_new_at rfl)))))) (by rw [← hX]; exact alloc_old (alloc_old (alloc_old (alloc_old (alloc_new_at (by simp)))))) (by rw [← hX]; exact alloc_old (alloc_old (alloc_old (alloc_new_at (by simp))))) (by rw [← hX]; exact alloc_old (alloc_old (alloc_new_at (by simp)))) (by rw [← hX]; exact alloc_old (alloc_new_at (by simp))) (by rw [← hX]; exact alloc_new_at (by simp))
 have HBX:Hid (Below w.heap.size w X):=Hid.intro (by
  rw [← hX]
  exact HW3.out.trans (Below.mono (Below.alloc (Below.alloc (Below.alloc (Below.alloc (Below.alloc (below1 w3 _) (by simp) _) (by simp; omega) _) (by simp; omega) _) (by simp; omega) _) (by simp; omega) _) HW3.out.size))
 have HS:=Hid.intro hS
 clear hX hS HW3
 generalize w3.heap.size + 1 + 1 + 1 + 1 + 1=lb at *
 generalize w3.heap.size + 1 + 1 + 1 + 1=xa at *
 generalize w3.heap.size + 1 + 1 + 1=va at *
 generalize w3.heap.size + 1 + 1=ca at *
 generalize w3.heap.size + 1=ta at *
 generalize w3.heap.size=fa at *
 have hn12:=(named_iff.1 H2.out).2.1
 have hf12:=(named_iff.1 H1.out).2.1
 have ha1:∀ w,(Op.stringOp .add ⟨#[97,40,107,41,123]⟩ nu).run Tryz.prog w = .ok (.string (⟨#[97,40,107,41,123]⟩ ++ nu)) w:=fun w=>run_string_add_sum w _ _ (by show 5 + nu.size≤_; omega)
 have ha2:∀ w,(Op.stringOp .add (⟨#[97,40,107,41,123]⟩ ++ nu) ⟨#[125]⟩).run Tryz.prog w = .ok (.string (callX nu)) w:=fun w=>run_string_add_sum w _ _ (by rw [ByteArray.size_append]; show 5 + nu.size + 1≤_; omega)
 have ha3:∀ w,(Op.stringOp .add ⟨#[97,40,107,41,123]⟩ field).run Tryz.prog w = .ok (.string (⟨#[97,40,107,41,123]⟩ ++ field)) w:=fun w=>run_string_add_sum w _ _ (by show 5 + field.size≤_; omega)
 have ha4:∀ w,(Op.stringOp .add (⟨#[97,40,107,41,123]⟩ ++ field) ⟨#[125]⟩).run Tryz.prog w = .ok (.string (callX field)) w:=fun w=>run_string_add_sum w _ _ (by rw [ByteArray.size_append]; show 5 + field.size + 1≤_; omega)
 have hcl:=trun_any (some ⟨lb,0,none⟩) 1 1 _ (callX nu) X HS.out (callX_small H2.out)
 have HP1:=Hid.intro (call_parse H2.out)
 have HP2:=Hid.intro (call_parse H1.out)
 have HE1:=Hid.intro (call_meanE (ta:=some ⟨ta,0,none⟩) (fa:=some ⟨fa,0,none⟩) (ca:=some ⟨ca,0,none⟩) (xa:=some ⟨xa,0,none⟩) (va:=some ⟨va,0,none⟩) H1.out H2.out H3.out H4.out H2.out)
 have HE2:=Hid.intro (call_meanE (ta:=some ⟨ta,0,none⟩) (fa:=some ⟨fa,0,none⟩) (ca:=some ⟨ca,0,none⟩) (xa:=some ⟨xa,0,none⟩) (va:=some ⟨va,0,none⟩) H1.out H2.out H3.out H4.out H1.out)
 have HG:=Hid.intro (call_meanG (ta:=some ⟨ta,0,none⟩) (fa:=some ⟨fa,0,none⟩) (ca:=some ⟨ca,0,none⟩) (xa:=some ⟨xa,0,none⟩) (va:=some ⟨va,0,none⟩) H1.out H2.out H3.out H4.out)
 have HR:=Hid.intro (call_reqs (ta:=some ⟨ta,0,none⟩) (fa:=some ⟨fa,0,none⟩) (ca:=some ⟨ca,0,none⟩) (xa:=some ⟨xa,0,none⟩) (va:=some ⟨va,0,none⟩) H1.out H2.out H3.out H4.out)
 rw [if_pos (eqs_iff.2 rfl)] at HE1
 rw [if_neg (fun h=>H3.out (eqs_iff.1 h).symm)] at HE2
 have HS2:=Hid.intro (callX_small H1.out)
 have hsz1:nu.size≤12:=hn12
 clear H3 H4 hn12 hf12
 generalize callV (some ⟨ta,0,none⟩) (some ⟨fa,0,none⟩) (some ⟨ca,0,none⟩) (some ⟨xa,0,none⟩) (some ⟨va,0,none⟩) field nu text=V at *
 generalize callX nu=tx1 at *
 generalize callX field=tx2 at *
 go_wp2_with fail
 refine hcl.mono ?_
 clear hcl ha1 ha2
 rintro e w4 ⟨⟨hok,-⟩,hw4⟩
 have h:=hok _ HP1.out
 dsimp only at h
 rw [HE1.out,HG.out,HR.out] at h
 obtain ⟨va2,vc2,qa,qc,rfl,-,-,hout,hreq⟩:=h
 obtain ⟨b,o,A,C,A2,C2,hb,c0,-,-,c3,-⟩:=hout.2 0 (show 0 < 1 by decide)
 subst hb
 obtain ⟨b2,o2,A3,C3,A4,C4,hb2,-,-,-,d3,-,-,-,hf⟩:=hreq.2 0 (show 0 < 1 by decide)
 subst hb2
 obtain ⟨b3,o3,hb3,e0,-⟩:=hf.2 0 (show 0 < 1 by decide)
 subst hb3
 have c0':w4.cell? ⟨b,o,none⟩=some (.string nu):=by rw [Nat.zero_mul,Nat.add_zero] at c0; exact c0
 have c3':w4.cell? ⟨b,o + 3,none⟩=some (.string text):=by rw [Nat.zero_mul,Nat.add_zero] at c3; exact c3
 have d3':w4.cell? ⟨b2,o2 + 3,none⟩=some (.slice (some ⟨b3,o3,none⟩) 1 C4):=by rw [Nat.zero_mul,Nat.add_zero] at d3; exact d3
 have e0':w4.cell? ⟨b3,o3,none⟩=some (.string field):=by rw [Nat.add_zero] at e0; exact e0
 have HB4:Hid (Below w.heap.size w w4):=Hid.intro (HBX.out.trans (hw4.mono HBX.out.size))
 have hcl:=trun_any (some ⟨lb,0,none⟩) 1 1 _ tx2 w4 (HS.out.kept hw4) HS2.out
 rw [show ([mkGot nu 1 false text [] []]:List (Got 8)).length=1 from rfl,show ([⟨0,bAa,[bKk],[field]⟩]:List PReq).length=1 from rfl]
 clear c0 c3 d3 e0 hf hout hreq hok hw4 HBX HP1 HE1 HG HR HS HS2
 go_wp2_with fail
 refine hcl.mono ?_
 clear hcl ha3 ha4
 rintro e w5 ⟨⟨hok,-⟩,hw5⟩
 have h:=hok _ HP2.out
 dsimp only at h
 rw [HE2.out] at h
 obtain ⟨va5,vc5,qa5,qc5,rfl,-⟩:=h
 have c0':=keptCell hw5 c0'
 have c3':=keptCell hw5 c3'
 have d3':=keptCell hw5 d3'
 have e0':=keptCell hw5 e0'
 have HB5:Hid (Below w.heap.size w w5):=Hid.intro (HB4.out.trans (hw5.mono HB4.out.size))
 generalize (meanG 1 V 8 bAa bKk (callK field)).length=L5
 generalize (reqs 1 V 8 bAa bKk (callK field)).length=R5
 clear hok hw5 HB4 HP2 HE2
 go_wp2_with fail
 go_ret
 exact ⟨rfl,HB5.out⟩
end Go.Proofs.YtjjggefmmeminacGreat
