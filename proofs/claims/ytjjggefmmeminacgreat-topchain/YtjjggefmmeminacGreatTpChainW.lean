import Derived.Test.YtjjggefmmeminacGreatJTr
import Derived.Lib.QuietBelow
import Derived.BigQuiet
namespace Go.Proofs.YtjjggefmmeminacGreat
open Go.RowKit Go.Sort Go.PlainAid
theorem chainG_more {n d m i q:Nat} {g:List (Got (d + 1))} (h:chainG n (d + 1) (m + 1) i g q=true):g.length=2∧gText (gotN g 0)=nameP i∧((n≤i + 1∧(gSubs (gotN g 1)).length=0∧q=2 * (i + 1))∨(¬ n≤i + 1∧(gSubs (gotN g 1)).length=1∧chainG n d m (i + 1) (nthG (gSubs (gotN g 1)) 0) q=true)):=by
 unfold chainG at h
 simp only [Bool.and_eq_true,decide_eq_true_eq] at h
 obtain ⟨⟨h1,h2⟩,h3⟩:=h
 refine ⟨h1,eqs_iff.1 h2,?_⟩
 by_cases hn:n≤i + 1
 ·rw [if_pos hn] at h3
  simp only [Bool.and_eq_true,decide_eq_true_eq] at h3
  exact .inl ⟨hn,h3⟩
 ·rw [if_neg hn] at h3
  simp only [Bool.and_eq_true,decide_eq_true_eq] at h3
  exact .inr ⟨hn,h3⟩
theorem chainG_last {n d i q:Nat} {g:List (Got (d + 1))} (h:chainG n (d + 1) 0 i g q=true):g.length=1∧gText (gotN g 0)=nameP i∧q=2 * (i + 1):=by
 unfold chainG at h
 simp only [Bool.and_eq_true,decide_eq_true_eq] at h
 exact ⟨h.1.1,eqs_iff.1 h.1.2,h.2⟩
theorem chainG_none {n m i q:Nat} {g:List (Got 0)} (h:chainG n 0 m i g q=true):False:=by
 cases m <;> cases h
theorem chainH0:(⟨#[117,115,101,114,40]⟩:ByteArray) ++ ⟨#[117,97,97]⟩ ++ ⟨#[41,123,110,97,109,101]⟩=chainH 0:=by kernel_rfl
theorem chain_size:∀ deep,(chainH deep).size=14 + 11 * deep∧(chainE deep).size=1 + deep
 | 0=>⟨rfl,rfl⟩
 | deep + 1=>by
  obtain ⟨h1,h2⟩:=chain_size deep
  unfold chainH chainE
  rw [ByteArray.size_append,ByteArray.size_append,h1,h2]
  refine ⟨?_,?_⟩
  ·show 14 + 11 * deep + 11=_; omega
  ·show 1 + deep + 1=_; omega
theorem wrap_two (i:Nat) (hi:i≤40):IntKind.i64.wrap (2 * ((i:Int) + 1))=((2 * (i + 1):Nat):Int):=by
 simp only [IntKind.wrap,IntKind.bits,IntKind.signed]
 simp
 omega
set_option maxRecDepth 100000 in
set_option maxHeartbeats 4000000 in
theorem topChain_any (z0 z1:Int) (w:World):Calls Tryz.prog 5 #[.int .i64 z0,.int .i64 z1] w fun e w'=>e = .returned (.bool true)∧Below w.heap.size w w':=by
 have hcl:=talive_any w
 go_enter Tryz.func5,Tryz.ntmps5
 go_wp2_with fail
 refine hcl.mono ?_
 clear hcl
 rintro e w0 ⟨rfl,hw0⟩
 have HW0:=Hid.intro hw0
 clear hw0
 by_cases h1:z0 < 1
 ·go_wp2_with fail
  go_ret
  exact ⟨rfl,HW0.out⟩
 by_cases h2:30 < z0
 ·go_wp2_with fail
  go_ret
  exact ⟨rfl,HW0.out⟩
 by_cases h3:z1 < 0
 ·go_wp2_with fail
  go_ret
  exact ⟨rfl,HW0.out⟩
 by_cases h4:8≤z1
 ·go_wp2_with fail
  go_ret
  exact ⟨rfl,HW0.out⟩
 obtain ⟨n,rfl⟩:∃ n:Nat,z0=(n:Int):=⟨z0.toNat,by omega⟩
 obtain ⟨deep,rfl⟩:∃ m:Nat,z1=(m:Int):=⟨z1.toNat,by omega⟩
 have HN:Hid (1≤n∧n≤30∧deep < 8):=Hid.intro (by omega)
 have hcl:Calls Tryz.prog 17 #[.int .i64 0] w0 fun e w'=>e = .returned (.string ⟨#[117,97,97]⟩)∧Below w0.heap.size w0 w':=key_any 0 (by decide) w0
 go_wp2_with fail
 clear h1 h2 h3 h4
 refine hcl.mono ?_
 clear hcl
 rintro e w1 ⟨rfl,hw1⟩
 have HW1:=Hid.intro (HW0.out.trans (hw1.mono HW0.out.size))
 clear hw1 HW0
 go_upto_region 7 with fail
 go_loopw [5,6,31] (fun a b i wr => ∃ k:Nat,k≤deep∧a = .string (chainH k)∧b = .string (chainE k)∧i = .int .i64 (k:Int)∧wr=w1) (fun _ _ i _=>deep - (intOf i).toNat)
 case atStart=>exact ⟨0,Nat.zero_le _,by rw [chainH0],rfl,rfl,rfl⟩
 case round =>
  obtain ⟨k,hk,rfl,rfl,rfl,rfl⟩:=hrel
  by_cases hlt:k < deep
  ·have hlt':(k:Int) < (deep:Int):=by omega
   have HH:Hid (chainH (k + 1)=chainH k ++ ⟨#[32,117,110,100,101,114,123,110,97,109,101]⟩):=Hid.intro rfl
   have HE:Hid (chainE (k + 1)=chainE k ++ ⟨#[125]⟩):=Hid.intro rfl
   have hb1 : ¬ 9223372036854775807 < (chainH k).size + 11:=by rw [(chain_size k).1]; have:=HN.out; omega
   have hb2 : ¬ 9223372036854775807 < (chainE k).size + 1:=by rw [(chain_size k).2]; have:=HN.out; omega
   generalize chainH k=cH at *
   generalize chainE k=cE at *
   go_wp2_with fail
   go_roundw
   case rel=>exact ⟨k + 1,by omega,by rw [HH.out],by rw [HE.out],by go_num,trivial⟩
   case measure=>simp [intOf]; omega
  ·obtain rfl:k=deep:=by omega
   obtain ⟨hn1,hn2,hn3⟩:=HN.out
   have hcl:=people_any n (by omega) wr
   have HT:Hid (Small (chainH k ++ chainE k)):=Hid.intro (by unfold Small maxLen; rw [ByteArray.size_append,(chain_size k).1,(chain_size k).2]; omega)
   obtain ⟨tx,htx⟩:∃ tx,tx=chainH k ++ chainE k:=⟨_,rfl⟩
   have HP:Hid (∀ z y:Lie,parse tx = .ok (bUser,keyP 0,chainK 8 k)∧chainQ z y n k=true):=Hid.intro fun z y=>by rw [htx]; exact chain_plain z y hn1 hn2 hn3
   have HTX:=Hid.intro htx
   have hb3 : ¬ 9223372036854775807 < (chainH k).size + (chainE k).size:=by rw [(chain_size k).1,(chain_size k).2]; omega
   rw [← htx] at HT
   generalize chainH k=cH at *
   generalize chainE k=cE at *
   clear htx
   go_wp2_with fail
   refine hcl.mono ?_
   clear hcl
   rintro e w2 ⟨⟨ba,bb,ta,fa,tb,fb,tc,p,q,r,va,vb,lb,rfl,hT,hF,hTw,hl⟩,hw2⟩
   obtain ⟨a1,c1,hva,-⟩:=hTw.r1.slice
   subst hva
   obtain ⟨a4,c4,hvb,-⟩:=hTw.r2.slice
   subst hvb
   have hS:=chain_servs (by omega) hT hF hTw hl
   obtain ⟨hp,hQ⟩:=HP.out (lieZ n fa fb p q r) (lieY ta tb tc a1 c1 a4 c4)
   unfold chainQ at hQ
   simp only [Bool.and_eq_true,decide_eq_true_eq] at hQ
   obtain ⟨hE,hG⟩:=hQ
   have hcl:=trun_any (some ⟨lb,0,none⟩) 2 2 _ tx w2 hS HT.out
   rw [HTX.out] at hcl
   have HPt:Hid (parse (cH ++ cE) = .ok (bUser,keyP 0,chainK 8 k)):=Hid.intro (by rw [← HTX.out]; exact hp)
   have HEE:=Hid.intro hE
   have HGG:=Hid.intro hG
   have HW2:=Hid.intro (HW1.out.trans (hw2.mono HW1.out.size))
   clear hT hF hTw hl hS hp hE hG hw2 HP HT HTX HW1
   generalize chainV (lieZ n fa fb p q r) (lieY ta tb tc a1 c1 a4 c4) n=V at *
   go_wp2_with fail
   refine hcl.mono ?_
   clear hcl
   rintro e w3 ⟨⟨hok,-⟩,hw3⟩
   have h:=hok _ HPt.out
   dsimp only at h
   rw [HEE.out] at h
   obtain ⟨va3,vc3,qa,qc,rfl,-,-,hout,-⟩:=h
   have HW3:=Hid.intro (HW2.out.trans (hw3.mono HW2.out.size))
   have HO:=Hid.intro hout
   clear hok hw3 hout HW2 HPt HEE
   generalize (reqs 2 V 8 bUser (keyP 0) (chainK 8 k)).length=R at *
   generalize meanG 2 V 8 bUser (keyP 0) (chainK 8 k)=G at *
   go_upto_region 14 with fail
   go_loopw [7,51] (fun v i wr => ∃ (j d:Nat) (g:List (Got d)) (a:Option Addr) (c:Nat),j≤k∧v = .slice a g.length c∧i = .int .i64 (j:Int)∧GotsAt wr d a g∧chainG n d (k - j) j g R=true∧Below w3.heap.size w3 wr) (fun _ i _=>k - (intOf i).toNat)
   case atStart=>exact ⟨0,8,G,va3,vc3,Nat.zero_le _,rfl,rfl,HO.out,HGG.out,Below.refl _ _⟩
   case round =>
    obtain ⟨j,d,g,a,c,hj,rfl,rfl,hGA,hC,hw⟩:=hrel
    cases d with
    | zero=>exact (chainG_none hC).elim
    | succ d =>
    by_cases hlt:j < k
    ·rw [show k - j=(k - j - 1) + 1 by omega] at hC
     obtain ⟨hg2,htx,hcase⟩:=chainG_more hC
     obtain ⟨b,o,A,C,A2,C2,ha,-,-,-,c3,-⟩:=hGA.2 0 (by omega)
     obtain ⟨b',o',A',C',A2',C2',ha',-,-,-,-,-,c5,-,-,-,hsub⟩:=hGA.2 1 (by omega)
     subst ha
     cases ha'
     obtain ⟨x,y,hxy⟩:∃ x y,kP j=⟨#[117,x,y]⟩:=⟨_,_,rfl⟩
     have hkn:nameP j=⟨#[78]⟩ ++ ⟨#[117,x,y]⟩:=by rw [← hxy]; exact (kN_eq j).symm
     rw [Nat.zero_mul,Nat.add_zero,htx,hkn] at c3
     rw [show o + 1 * 6 + 5=o + 11 by omega] at c5
     have cK:∀ d os,Calls Tryz.prog 17 #[.int .i64 (j:Int)] (grow (redrawn wr d) os) fun e w''=>e = .returned (.string ⟨#[117,x,y]⟩)∧∃ p:Regrown,w''=grow (redrawn wr p.d) p.os:=fun d os=>Calls.regrown_of (by
      have:=key_kP j (by omega) (grow (redrawn wr d) os)
      rw [hxy] at this
      exact this)
     have r3:=cell_regrown c3
     have hlt':(j:Int) < (k:Int):=by omega
     have HSUB:=Hid.intro hsub
     have HCASE:=Hid.intro hcase
     have HW:=Hid.intro hw
     rw [hg2]
     clear hGA hC hw hsub hcase htx hkn hxy
     generalize hS9:gSubs (gotN g 1)=S9 at *
     clear hS9 hg2
     go_upto_region 16 with fail
     refine wp_region_quiet_below (by kernel_rfl) (by kernel_rfl) ?_
     repeat (go_big_quiet_step (first | exact cK _ _))
     refine wpQuiet_nil ?_
     intro _ hw'
     obtain ⟨⟨dq,osq⟩,hw''⟩:=hw'
     subst hw''
     have hbq:=below_regrown wr dq osq
     have c5:=keptCell hbq c5
     have HWQ:=Hid.intro (HW.out.trans (hbq.mono HW.out.size))
     have HBQ:=Hid.intro hbq
     clear hbq r3 cK c3 HW
     generalize hQ9:grow (redrawn wr dq) osq=Q at *
     clear hQ9
     rcases HCASE.out with ⟨q1,q2,q3⟩ | ⟨q1,q2,q3⟩
     ·have hge:(n:Int)≤(j:Int) + 1:=by omega
      have hmul:=wrap_two j (by have:=HN.out; omega)
      rw [q2] at c5
      subst q3
      generalize 2 * (j + 1)=q9 at *
      have HW9:=Hid.intro (HW3.out.trans (HWQ.out.mono HW3.out.size))
      clear HCASE HSUB HBQ HWQ q2 HGG
      go_wp2_with fail
      go_ret
      exact ⟨rfl,HW9.out⟩
     ·have hge : ¬ (n:Int)≤(j:Int) + 1:=by omega
      rw [q2] at c5
      obtain ⟨b2,o2,A3,C3,hb2,c6,-,hs2⟩:=HSUB.out.2 0 (by omega)
      subst hb2
      rw [Nat.add_zero] at c6
      have c6:=keptCell HBQ.out c6
      have HNX:Hid (GotsAt Q d A3 (subN S9 0)∧chainG n d (k - (j + 1)) (j + 1) (subN S9 0) R=true):=Hid.intro ⟨hs2.kept HBQ.out,by rw [show k - (j + 1)=k - j - 1 by omega]; exact q3⟩
      clear HCASE HSUB HBQ q2 q3 hs2
      generalize subN S9 0=g9 at *
      go_wp2_with fail
      go_roundw
      case rel=>exact ⟨j + 1,d,g9,A3,C3,by omega,rfl,by go_num,HNX.out.1,HNX.out.2,HWQ.out⟩
      case measure=>simp [intOf]; omega
    ·obtain rfl:j=k:=by omega
     rw [Nat.sub_self] at hC
     obtain ⟨hg1,htx,hR⟩:=chainG_last hC
     obtain ⟨b,o,A,C,A2,C2,ha,-,-,-,c3,-⟩:=hGA.2 0 (by omega)
     subst ha
     obtain ⟨x,y,hxy⟩:∃ x y,kP j=⟨#[117,x,y]⟩:=⟨_,_,rfl⟩
     have hkn:nameP j=⟨#[78]⟩ ++ ⟨#[117,x,y]⟩:=by rw [← hxy]; exact (kN_eq j).symm
     rw [Nat.zero_mul,Nat.add_zero,htx,hkn] at c3
     have cK:∀ d os,Calls Tryz.prog 17 #[.int .i64 (j:Int)] (grow (redrawn wr d) os) fun e w''=>e = .returned (.string ⟨#[117,x,y]⟩)∧∃ p:Regrown,w''=grow (redrawn wr p.d) p.os:=fun d os=>Calls.regrown_of (by
      have:=key_kP j (by omega) (grow (redrawn wr d) os)
      rw [hxy] at this
      exact this)
     have r3:=cell_regrown c3
     have hmul:=wrap_two j (by have:=HN.out; omega)
     have HW9:=Hid.intro (HW3.out.trans (hw.mono HW3.out.size))
     rw [hg1]
     subst hR
     clear hGA hC hw htx hkn hxy hg1 HGG
     generalize 2 * (j + 1)=q9 at *
     go_upto_region 24 with fail
     refine wp_region_quiet_below (by kernel_rfl) (by kernel_rfl) ?_
     repeat (go_big_quiet_step (first | exact cK _ _))
     refine wpQuiet_nil ?_
     intro _ hw'
     obtain ⟨⟨dq,osq⟩,hw''⟩:=hw'
     subst hw''
     have hbq:=below_regrown wr dq osq
     have HWQ:=Hid.intro (HW9.out.trans (hbq.mono HW9.out.size))
     clear hbq r3 cK c3 HW9
     generalize grow (redrawn wr dq) osq=Q at *
     go_wp2_with fail
     go_ret
     exact ⟨rfl,HWQ.out⟩
end Go.Proofs.YtjjggefmmeminacGreat
