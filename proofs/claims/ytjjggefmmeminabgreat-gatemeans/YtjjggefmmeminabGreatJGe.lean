import Derived.Test.YtjjggefmmeminabGreatMnPick
namespace Go.Proofs.YtjjggefmmeminabGreat
open Go.RowKit Go.Sort Go.PlainAid
theorem Tryz.e36:∀ args w,(callFunc 36 args).run Tryz.prog w = .ok (.enter 36 args) w:=enters_of Tryz.func36 (by kernel_rfl) rfl
structure FRow (X:Nat→Prop) (base:Nat) {d:Nat} (w:World) (v:Value) (n:Nat) (fv:Nat→Value) (f:Nat→ByteArray→Got (d + 1)):Prop where
 row:Row w base 102 1 v n fv
 fn:∀ i,i < n→PickFn (fun q=>X q∨v.ownBlock=some q) w (fv i) d (f i)
theorem FRow.nil (X:Nat→Prop) (base d:Nat) (w:World) (fv:Nat→Value) (f:Nat→ByteArray→Got (d + 1)):FRow X base w (.slice none 0 0) 0 fv f:=⟨⟨rfl,.inl ⟨rfl,rfl⟩⟩,fun _ hi=>absurd hi (Nat.not_lt_zero _)⟩
theorem FRow.kept {X:Nat→Prop} {base d n:Nat} {w w':World} {v:Value} {fv:Nat→Value} {f : Nat→ByteArray→Got (d + 1)} (h:FRow X base w v n fv f) (hB:Below w.heap.size w w'):FRow X base w' v n fv f:=⟨h.row.kept hB,fun i hi=>(h.fn i hi).kept hB⟩
theorem FRow.more {X:Nat→Prop} {base d k ec be N0:Nat} {ea:Option Addr} {w w':World} {v':Value} {fv:Nat→Value} {f : Nat→ByteArray→Got (d + 1)} {g:ByteArray→Got (d + 1)} (h:FRow X base w (.slice ea k ec) k fv f) (ce:w.heap[be]? = some (.cells #[.slice ea k ec] 101 (0,0)))
  (hr:R6 w N0 d g base k fv (.slice ea k ec) v' w') (hXb:X be) (hX:∀ q,X q→mid N0 w.heap.size q) (hb:N0≤base) :
  (∃ fv',FRow X base (w'.setCell ⟨be,0,none⟩ v') v' (k + 1) fv' (fun i=>if i=k then g else f i))∧(w'.setCell ⟨be,0,none⟩ v').heap[be]? = some (.cells #[v'] 101 (0,0))∧(∃ a' c',v' = .slice a' (k + 1) c')∧KeepX (fun q=>q=be∨base≤q) w (w'.setCell ⟨be,0,none⟩ v'):=by
 obtain ⟨Y,nv,r1,r2,r3,r4,r5⟩:=hr
 have hbe:be < w.heap.size:=lt_of_block ce
 have hob:∀ q,(Value.slice ea k ec).ownBlock=some q→base≤q∧q < w.heap.size:=fun q hq=>h.row.lt hq
 have hne:(Value.slice ea k ec).ownBlock≠some be:=fun e=>by
  obtain ⟨cs,ho⟩:=h.row.obj e
  rw [ce] at ho
  simp at ho
 have cw:w'.heap[be]? = some (.cells #[.slice ea k ec] 101 (0,0)):=by rw [r4.block be (Nat.lt_of_lt_of_le hbe r1.size) (Ne.symm hne),r1.block be hbe]; exact ce
 have row':Row w' base 102 1 v' (k + 1) (fun i=>if i=k then nv else fv i):=by
  unfold Row
  have e:(List.range ((k + 1) * 1)).map (fun i=>if i=k then nv else fv i)=(List.range (k * 1)).map fv ++ [nv]:=by
   rw [Nat.mul_one,Nat.mul_one,List.range_succ,List.map_append]
   simp only [List.map_cons,List.map_nil,if_true]
   rw [range_map_congr fun j hj=>if_neg (by omega : ¬ j=k)]
  rw [e]; exact r3
 have hne':v'.ownBlock≠some be:=fun e=>by
  obtain ⟨cs,ho⟩:=row'.obj e
  rw [cw] at ho
  simp at ho
 have hkeep:∀ q,q < w.heap.size→q≠be→(Value.slice ea k ec).ownBlock≠some q→(w'.setCell ⟨be,0,none⟩ v').heap[q]? = w.heap[q]?:=fun q hq h1 h2=>by
  rw [Below.heap_setCell _ _ _ _ h1,r4.block q (Nat.lt_of_lt_of_le hq r1.size) (Ne.symm h2),r1.block q hq]
 have hos:(w'.setCell ⟨be,0,none⟩ v').os=w.os∧(w'.setCell ⟨be,0,none⟩ v').tape=w.tape∧(w'.setCell ⟨be,0,none⟩ v').output=w.output∧w.heap.size≤(w'.setCell ⟨be,0,none⟩ v').heap.size:=⟨r4.os.trans r1.os,r4.tape.trans r1.tape,r4.output.trans r1.output,by simpa using Nat.le_trans r1.size r4.size⟩
 refine ⟨⟨_,row'.set_other hne' _,fun i hi=>?_⟩,heap_setCell_same _ be 0 _ 101 _ cw,owned_slice r3,⟨hos.1,hos.2.1,hos.2.2.1,hos.2.2.2,fun q hq=>hkeep q hq.1 (fun e=>hq.2 (.inl e)) (fun e=>hq.2 (.inr (hob q e).1))⟩⟩
 by_cases hik:i=k
 ·rw [if_pos hik,if_pos hik]
  refine r2.step ⟨r4.os,r4.tape,r4.output,by simpa using r4.size,fun q hq=>?_⟩ fun q hq hy=>?_
  ·have h1:q≠be:=fun e=>hq.2 (by rw [e]; exact hX be hXb)
   rw [Below.heap_setCell _ _ _ _ h1,r4.block q hq.1 (fun e=>hq.2 ⟨Nat.le_trans hb (hob q e.symm).1,(hob q e.symm).2⟩)]
  ·rcases hy with hy | hy
   ·exact hX q hy
   ·rcases r5 with e | e
    ·rw [e] at hy; exact ⟨Nat.le_trans hb (hob q hy).1,(hob q hy).2⟩
    ·rw [e] at hy; cases hy; omega
 ·rw [if_neg hik,if_neg hik]
  refine (h.fn i (by omega)).step ⟨hos.1,hos.2.1,hos.2.2.1,hos.2.2.2,fun q hq=>hkeep q hq.1 (fun e=>hq.2 (.inl (by rw [e]; exact hXb))) (fun e=>hq.2 (.inr e))⟩ fun q hq hy=>?_
  rcases hy with hy | hy
  ·exact .inl hy
  ·rcases r5 with e | e
   ·exact .inr (by rw [← e]; exact hy)
   ·rw [e] at hy
    cases hy
    have:=r1.size
    omega
set_option maxRecDepth 100000 in
set_option maxHeartbeats 2000000 in
theorem getter1_any (d n:Nat) (V:Nat→LServ) (L:List PPart) (pa:Option Addr) (pn pc:Nat) (vv:Value) (bw bp be base hc ec:Nat) (ha9 ea:Option Addr) (p:PPart) (ps:List (Pick (d + 1))) (fv:Nat→Value) (key:ByteArray) (w:World)
  (hE:Env w (.slice pa pn pc) vv n V L) (w0:w.cell? ⟨bw,0,none⟩=some (.slice pa pn pc)) (w1:w.cell? ⟨bw,1,none⟩=some vv) (p3:w.cell? ⟨bp,3,none⟩=some (.slice ha9 p.hs.length hc)) (ce:w.cell? ⟨be,0,none⟩=some (.slice ea ps.length ec))
  (hH:OwnersAt w ha9 p.hs.length (hsN p)) (hR:PartR n V p) (hF:FRow noB base w (.slice ea ps.length ec) ps.length fv (fun i key=>gotK V L (gots V L d) p key (pickN ps i))) (hps:ps.length≤60) (hks:Small key) :
  Calls Tryz.prog 36 #[.string key,.pointer (some ⟨bw,0,none⟩),.pointer (some ⟨bp,0,none⟩),.pointer (some ⟨be,0,none⟩)] w fun e w'=>Below w.heap.size w w' ∧
   GetEnd w.heap.size (d + 1) (if thereP V p key=true then some (gots V L (d + 1) p key ps) else none) e w':=by
 obtain ⟨i0,hi0,hz0,hz1,hz2⟩:=info_parts' Tryz.info56
 obtain ⟨bm,bl,hvv,-⟩:=hE.vals
 subst hvv
 have hcl:=mthere_any n V L pa pn pc (findV bm bl) p ha9 hc key w hE hH hR hks
 unfold findV at w1 hcl
 have HF:=Hid.intro hF
 have HCE:=Hid.intro ce
 clear hE hH hR hF ce
 obtain ⟨r,hr⟩:∃ r,r=if thereP V p key=true then some (gots V L (d + 1) p key ps) else none:=⟨_,rfl⟩
 rw [← hr]
 obtain ⟨G,hG⟩:∃ G,G=gots V L (d + 1) p key ps:=⟨_,rfl⟩
 rw [← hG] at hr
 have HGL:Hid (G.length=ps.length):=Hid.intro (by rw [hG,gots_len])
 have HGT:Hid (∀ k,k < ps.length→G.take (k + 1)=G.take k ++ [gotK V L (gots V L d) p key (pickN ps k)]):=Hid.intro fun k hk=>by rw [hG,gots_succ,take_map _ _ _ hk,pickN_get hk]
 clear hG
 generalize thereP V p key=t at *
 have HRR:=Hid.intro hr
 clear hr
 go_enter Tryz.func36,Tryz.ntmps36
 go_wp2_with fail
 refine hcl.mono ?_
 clear hcl
 rintro e w2 ⟨rfl,hw2⟩
 cases t with
 | false =>
  have HR0:Hid (r=none):=Hid.intro (by rw [HRR.out]; rfl)
  clear HF HCE HGT HGL w0 w1 p3 HRR
  go_wp2_with fail
  exact bodyPost_ret (v:=.tuple #[.slice none 0 0,.bool false]) (by simp [results,Tryz.results36,go_sem]) rfl ⟨hw2,.inl ⟨HR0.out,rfl⟩⟩
 | true =>
  have HR0:Hid (r=some G):=Hid.intro (by rw [HRR.out]; rfl)
  have ce:=keptCell hw2 HCE.out
  have HF2:=Hid.intro (HF.out.kept hw2)
  have HW2:=Hid.intro hw2
  clear HF HCE w0 w1 p3 hw2 HRR
  go_wp2_with fail
  clear ce
  go_loopw [7,18] (fun v i wr => ∃ k:Nat,k≤ps.length∧i = .int .i64 k∧Below w2.heap.size w2 wr∧∃ av sv,GRow w2.heap.size wr v (G.take k) av sv) (fun _ i _=>ps.length - (intOf i).toNat)
  case atStart=>exact ⟨0,Nat.zero_le _,rfl,Below.refl _ _,fun _=>undef,fun _=>undef,GRow.nil _ _ _ _ _⟩
  case round =>
   obtain ⟨k,hk,rfl,hw,av,sv,hS⟩:=hrel
   obtain ⟨S,hSd⟩:∃ S,S=G.take k:=⟨_,rfl⟩
   rw [← hSd] at hS
   obtain ⟨va,vc,rfl,hvc⟩:=hS.slice
   by_cases hlt:k < ps.length
   ·have hFk:=HF2.out.kept hw
    have hrow:=hFk.row
    obtain ⟨ge,cp,hea,-,-⟩:∃ g cap,Value.slice ea ps.length ec = .slice (some ⟨g,0,none⟩) ps.length cap∧True∧True:=by
     rcases hrow.shape with ⟨-,h0⟩ | ⟨g,cap,hv,-,-,-⟩
     ·omega
     ·exact ⟨g,cap,hv,trivial,trivial⟩
    cases hea
    have c0:=hrow.cell (j:=k) (by omega)
    obtain ⟨KF,caps,⟨hfk,eK⟩,hfc⟩:=hFk.fn k hlt
    rw [hfk] at c0
    have hlt':(k:Int) < (ps.length:Int):=by omega
    have hk0:(0:Int)≤(k:Int):=by omega
    have hSl:S.length≤k:=by rw [hSd,List.length_take]; omega
    have HT:Hid (G.take (k + 1)=S ++ [gotK V L (gots V L d) p key (pickN ps k)]):=Hid.intro (by rw [HGT.out k hlt,← hSd])
    have hcl:Calls Tryz.prog KF (#[.string key] ++ caps) wr fun e w'=>Below wr.heap.size wr w'∧∃ A C A2 C2,e = .returned (gotA (gotK V L (gots V L d) p key (pickN ps k)) A C A2 C2)∧GotV (fun q=>q < wr.heap.size) w' (gotK V L (gots V L d) p key (pickN ps k)) A C A2 C2:=hfc wr (KeepX.refl _ _) key hks
    have HS:=Hid.intro hS
    clear hS hSd hfc hrow hFk hfk
    generalize gotK V L (gots V L d) p key (pickN ps k)=gg at *
    go_wp2_with fail
    refine hcl.mono ?_
    clear hcl
    rintro e w3 ⟨hw3,A,C,A2,C2,rfl,hgv⟩
    unfold gotA
    have hw4:Below w2.heap.size w2 w3:=hw.trans (hw3.mono hw.size)
    have HR:=Hid.intro ((HS.out.kept hw3).kept (below1 w3 (Obj.cells #[.string (gName gg),.int .i64 (gKind gg),.bool (gNull gg),.string (gText gg),.slice A (gSub gg).length C,.slice A2 (gSubs gg).length C2] 56)))
    have HGV:=Hid.intro (hgv.kept (below1 w3 (Obj.cells #[.string (gName gg),.int .i64 (gKind gg),.bool (gNull gg),.string (gText gg),.slice A (gSub gg).length C,.slice A2 (gSubs gg).length C2] 56)))
    have HW4:Hid (Below w2.heap.size w2 (w3.alloc (Obj.cells #[.string (gName gg),.int .i64 (gKind gg),.bool (gNull gg),.string (gText gg),.slice A (gSub gg).length C,.slice A2 (gSubs gg).length C2] 56))):=Hid.intro (hw4.trans ((below1 w3 _).mono hw4.size))
    have HOW:=Hid.intro HR.out.row
    have hNw:w2.heap.size≤wr.heap.size:=hw.size
    have hNa:w2.heap.size≤(w3.alloc (Obj.cells #[.string (gName gg),.int .i64 (gKind gg),.bool (gNull gg),.string (gText gg),.slice A (gSub gg).length C,.slice A2 (gSubs gg).length C2] 56)).heap.size:=HW4.out.size
    have HVB:Hid (∀ q,(Value.slice va S.length vc).ownBlock=some q→q < wr.heap.size∧w2.heap.size≤q):=Hid.intro fun q hq=>⟨(HS.out.row.lt hq).2,(HS.out.row.lt hq).1⟩
    clear hw3 hw4 HS hgv c0
    go_wp2_with (at_builtin; refine wpList_append_any _ rfl _ _ 26 rfl w2.heap.size 56 i0 _ 6 96 Tryz.underlying26 hi0 hz0 hz1 hz2 rfl (by decide) _ S.length _ rfl HOW.out (some ⟨w3.heap.size,0,none⟩) 1 1 (gotL gg (.slice A (gSub gg).length C) (.slice A2 (gSubs gg).length C2)) rfl rfl (alloc_news w3 #[.string (gName gg),.int .i64 (gKind gg),.bool (gNull gg),.string (gText gg),.slice A (gSub gg).length C,.slice A2 (gSubs gg).length C2] _) (fun h=>by cases h) (by intro u hu; simp [gotL] at hu; rcases hu with rfl | rfl | rfl | rfl | rfl | rfl <;> rfl) (by unfold maxLen; omega) (by omega) hNa ?_)
    intro v' w5 hown hgr hvb
    have HS5:Hid (∃ av' sv',GRow w2.heap.size w5 v' (G.take (k + 1)) av' sv'):=Hid.intro (by
     rw [HT.out]
     exact ⟨_,_,HR.out.app HGV.out hNw (fun q hq=>(HVB.out q hq).1) hown hgr (by simpa using hvb)⟩)
    have HW5:Hid (Below w2.heap.size w2 w5):=Hid.intro (HW4.out.grown hgr hNa (fun q hq=>(HVB.out q hq).2))
    clear hown hgr hvb HOW HR HGV HVB
    go_wp2_with fail
    go_roundw
    case rel=>exact ⟨k + 1,by omega,by go_num,HW5.out,HS5.out⟩
    case measure=>simp [intOf]; omega
   ·have hkn:k=ps.length:=by omega
    have hSG:S=G:=by rw [hSd,hkn,← HGL.out,List.take_length]
    have HFin:Hid (GotsOut w.heap.size (d + 1) wr va vc S):=Hid.intro ⟨by rw [hSG,HGL.out]; unfold maxLen; omega,av,sv,hS.base HW2.out.size⟩
    have HWF:Hid (Below w.heap.size w wr):=Hid.intro (HW2.out.trans (hw.mono HW2.out.size))
    have HSG:=Hid.intro hSG
    clear hS hw hSd hSG
    go_wp2_with fail
    exact bodyPost_ret (v:=.tuple #[.slice va S.length vc,.bool true]) (by simp [results,Tryz.results36,go_sem]) rfl ⟨HWF.out,.inr ⟨S,va,vc,by rw [HR0.out,HSG.out],rfl,hvc,HFin.out⟩⟩
end Go.Proofs.YtjjggefmmeminabGreat
namespace Go.Proofs.YtjjggefmmeminabGreat
open Go.RowKit Go.Sort Go.PlainAid
theorem FRow.congr {X:Nat→Prop} {base d n:Nat} {w:World} {v:Value} {fv:Nat→Value} {f g:Nat→ByteArray→Got (d + 1)} (h:FRow X base w v n fv f) (e:∀ i,i < n→f i=g i):FRow X base w v n fv g:=⟨h.row,fun i hi=>by rw [← e i hi]; exact h.fn i hi⟩
set_option maxRecDepth 100000 in
set_option maxHeartbeats 4000000 in
theorem getter_succ (n:Nat) (V:Nat→LServ) (L:List PPart) (hR:∀ nm,¬ partIdx L.length (lpOf L) nm < 0→PartR n V (pOf L nm)) (HK:∀ q,q ∈ L→∀ j,j < q.fs.length→(fsN q j).kind=1∨(fsN q j).kind=2∨(fsN q j).kind=3) (d:Nat) (ih:GetterOk n V L d):GetterOk n V L (d + 1):=by
 intro N0 pa pn pc vv typ a cap ps w hE _ hpi hcR hm hP
 have hmf:∀ (fn:Fn) (first cap:Array Value) (w:World),(Instr.makeFunc fn first cap).run Tryz.prog w = .ok (.func fn first cap) w:=fun _ _ _ _=>rfl
 obtain ⟨i0,hi0,hz0,hz1,hz2⟩:=info_parts' Tryz.info102
 obtain ⟨bm,bl,hvv,-⟩:=hE.now.vals
 have hPR:=hR typ hpi
 have hKp:=HK (pOf L typ) (pOf_mem hpi)
 obtain ⟨i,hi⟩:∃ i:Nat,mfind L typ=(i:Int):=⟨(mfind L typ).toNat,by have : ¬ mfind L typ < 0:=hpi; omega⟩
 have hil:i < L.length:=by
  have h1:=(idx_in (p:=fun j=>eqs (nth L j).name typ) hpi).1
  have h2:idx L.length (fun j=>eqs (nth L j).name typ)=(i:Int):=hi
  rw [h2] at h1; simpa using h1
 have hpO:pOf L typ=nth L i:=by
  unfold pOf
  rw [show idx L.length (fun i=>eqs (nth L i).name typ)=(i:Int) from hi,Int.toNat_natCast]
 rw [hpO] at hPR hKp hcR ⊢
 obtain ⟨g,cap',a1,c1,a2,c2,a3,c3,hpv,hpt⟩:=hE.part hil
 cases hpv
 have hps:ps.length≤60:=hm.1
 have hps':ps.length≤9223372036854775807:=by omega
 have hN0:N0≤w.heap.size:=hE.size
 have hAsk:∀ j,j < ps.length→¬ fieldIdx (nth L i).fs.length (fsN (nth L i)) (pfield (pickN ps j)) < 0∧AskR L d (fOf (nth L i) (pfield (pickN ps j))) (subs (pickN ps j)):=fun j hj=>ask_each hcR hj
 generalize hpd:nth L i=p at *
 have HE:=Hid.intro hE
 have HPT:=Hid.intro hpt
 have HP:=Hid.intro hP
 have HM:=Hid.intro hm
 have HPR:=Hid.intro hPR
 have HKp:=Hid.intro hKp
 have HAsk:=Hid.intro hAsk
 have HIH:=Hid.intro ih
 have HFI:Hid (∀ w1,Keep (fun k=>k < N0) w w1→Calls Tryz.prog 34 #[.slice (some ⟨g,0,none⟩) L.length pc,.string typ] w1 fun e w'=>e = .returned (.int .i64 (i:Int))∧Below w1.heap.size w1 w'):=Hid.intro fun w1 hw1=>by
  obtain ⟨Z,rv,hp⟩:=hE.parts
  have:=mfind_any Z _ L rv typ w1 (hp w1 hw1)
  rw [hi] at this
  exact this
 clear hE hpt hP hm hPR hKp hAsk ih hR HK hpi hcR hpO hpd hi
 generalize hW:w.alloc (Obj.cells #[.slice (some ⟨g,0,none⟩) L.length pc,vv] 46)=W
 have hBW:Below w.heap.size w W:=by rw [← hW]; exact below1 _ _
 have HW0:Hid (W.cell? ⟨w.heap.size,0,none⟩=some (.slice (some ⟨g,0,none⟩) L.length pc)):=Hid.intro (by rw [← hW,World.cell?_alloc_at _ _ _ _ rfl]; rfl)
 have HW1:Hid (W.cell? ⟨w.heap.size,1,none⟩=some vv):=Hid.intro (by rw [← hW,World.cell?_alloc_at _ _ _ _ rfl]; rfl)
 have HWS:Hid (w.heap.size < W.heap.size):=Hid.intro (by rw [← hW]; simp)
 have HBW:=Hid.intro hBW
 have HK0:Hid (∀ w1,Below w.heap.size w w1→Keep (fun k=>k < N0) w w1):=Hid.intro fun w1 h1=>Keep.of h1 fun _ hk=>Nat.lt_of_lt_of_le hk hN0
 clear hBW
 subst hvv
 unfold findV at hW
 unfold findV
 go_enter Tryz.func16,Tryz.ntmps16
 go_upto_region 1 with fail
 clear hW
 have hpW:=HPT.out W (HK0.out W HBW.out)
 refine getPart (bw:=w.heap.size) (g:=g) (o:=0) (i:=i) (pn:=L.length) (pc:=pc) (typ:=typ) (by kernel_rfl) rfl rfl HW0.out hil (fun w1 h1=>HFI.out w1 (HK0.out w1 (HBW.out.trans (h1.mono HBW.out.size)))) (by rw [Nat.zero_add]; exact hpW.c0) (by rw [Nat.zero_add]; exact hpW.c1) (by rw [Nat.zero_add]; exact hpW.c2) (by rw [Nat.zero_add]; exact hpW.c3) ?_
 intro s w2 bp hB2 hs7 hbp hbx
 have hB2w:Below w.heap.size w w2:=HBW.out.trans (hB2.mono HBW.out.size)
 have HW0':=Hid.intro (keptCell hB2 HW0.out)
 have HW1':=Hid.intro (keptCell hB2 HW1.out)
 have HBX:=Hid.intro hbx
 have HB2:=Hid.intro hB2w
 have hws:w.heap.size < w2.heap.size:=Nat.lt_of_lt_of_le HWS.out hB2.size
 have hbpl:bp < w2.heap.size:=lt_of_block hbx
 have hbp':w.heap.size < bp:=Nat.lt_of_lt_of_le HWS.out hbp
 clear hB2 hbx hB2w HW0 HW1 HBW HFI hpW hbp HWS
 simp only [putAll,Act.put,List.setIfInBounds_toArray,List.set_cons_succ,List.set_cons_zero,hs7]
 generalize s 11=t11
 generalize s 12=t12
 generalize s 13=t13
 generalize s 14=t14
 generalize s 15=t15
 generalize s 16=t16
 generalize s 17=t17
 generalize s 18=t18
 generalize hE2:w2.alloc (Obj.cells #[.slice none 0 0] 101)=W2
 have hBE:Below w2.heap.size w2 W2:=by rw [← hE2]; exact below1 _ _
 have hbe0:W2.heap[w2.heap.size]? = some (.cells #[.slice none 0 0] 101 (0,0)):=by rw [← hE2]; exact heap_alloc_new _ _
 have HBE:=Hid.intro hBE
 have HBE0:=Hid.intro hbe0
 clear hBE hbe0
 go_wp2_with fail
 clear hE2
 obtain ⟨be,hbe⟩:∃ be,be=w2.heap.size:=⟨_,rfl⟩
 rw [← hbe] at HBE0 ⊢
 have HBEQ:=Hid.intro hbe
 clear hbe
 go_loopw [21] (fun iv wr => ∃ k:Nat,k≤ps.length∧iv = .int .i64 k∧Below w2.heap.size w2 wr∧∃ ea ec fv,wr.heap[be]? = some (.cells #[.slice ea k ec] 101 (0,0))∧FRow (fun q=>q=be∨mid N0 w.heap.size q) w2.heap.size wr (.slice ea k ec) k fv (fun i key=>gotK V L (gots V L d) p key (pickN ps i))) (fun iv _=>ps.length - (intOf iv).toNat)
 case atStart=>exact ⟨0,Nat.zero_le _,rfl,HBE.out,none,0,fun _=>undef,HBE0.out,FRow.nil _ _ _ _ _ _⟩
 case round =>
  clear HBE HBE0
  obtain ⟨k,hk,rfl,hw,ea,ec,fv,hbe,hFR⟩:=hrel
  by_cases hlt:k < ps.length
  ·have hwr:Below w.heap.size w wr:=HB2.out.trans (hw.mono (Nat.le_of_lt hws))
   obtain ⟨b,o,A,C,hab,q0,q1,q2,hC,s0,s1,hPs⟩:=(HP.out.kept hwr).2 k hlt
   subst hab
   have hlt':(k:Int) < (ps.length:Int):=by omega
   have hk0:(0:Int)≤(k:Int):=by omega
   have hbel:be < wr.heap.size:=lt_of_block hbe
   have hbeq:w2.heap.size≤be:=Nat.le_of_eq HBEQ.out.symm
   generalize hX:wr.alloc (Obj.cells #[.string (nick (pickN ps k)),.string (pfield (pickN ps k)),.slice A (subs (pickN ps k)).length C] 72)=X1
   have hBX:Below wr.heap.size wr X1:=by rw [← hX]; exact below1 _ _
   have HP0:Hid (X1.cell? ⟨wr.heap.size,0,none⟩=some (.string (nick (pickN ps k)))):=Hid.intro (by rw [← hX,World.cell?_alloc_at _ _ _ _ rfl]; rfl)
   have HP1:Hid (X1.cell? ⟨wr.heap.size,1,none⟩=some (.string (pfield (pickN ps k)))):=Hid.intro (by rw [← hX,World.cell?_alloc_at _ _ _ _ rfl]; rfl)
   have HP2:Hid (X1.cell? ⟨wr.heap.size,2,none⟩=some (.slice A (subs (pickN ps k)).length C)):=Hid.intro (by rw [← hX,World.cell?_alloc_at _ _ _ _ rfl]; rfl)
   have hX2:Below w2.heap.size w2 X1:=hw.trans (hBX.mono hw.size)
   have HX2:=Hid.intro hX2
   have HXw:Hid (Below w.heap.size w X1):=Hid.intro (HB2.out.trans (hX2.mono (Nat.le_of_lt hws)))
   have HCE:=Hid.intro ((hBX.block _ hbel).trans hbe)
   have HFR:=Hid.intro (hFR.kept hBX)
   have HPK:=Hid.intro (hPs.kept hBX)
   have HXS:Hid (w2.heap.size≤X1.heap.size):=Hid.intro hX2.size
   clear hwr hw hFR hbe hPs hBX hX2
   go_upto_region 6 with fail
   clear hX q0 q1 q2
   have hbxX:=(HX2.out.block _ hbpl).trans HBX.out
   refine eachMore (N0:=N0) (d:=d) (be:=be) (bw:=w.heap.size) (bp:=bp) (base:=w2.heap.size) (k:=k) (g:=fun key=>gotK V L (gots V L d) p key (pickN ps k)) (vv:=findV bm bl) (nm:=p.name) (fa:=a1) (fn:=p.fs.length) (fc:=c1) (oa:=a2) (on:=p.os.length) (oc:=c2) (ha9:=a3) (hn:=p.hs.length) (hc:=c3) (i0:=i0) hi0 hz0 hz1 hz2 (by kernel_rfl) (by omega) HXS.out rfl rfl rfl rfl HCE.out (keptCell HX2.out HW0'.out) (keptCell HX2.out HW1'.out) ⟨bm,bl,rfl⟩
    (by simp [World.cell?,hbxX]) (by simp [World.cell?,hbxX]) (by simp [World.cell?,hbxX]) (by simp [World.cell?,hbxX]) HP0.out HP1.out HP2.out HFR.out.row (fun w1 h1=>?_) ?_
   ·have h1w:Below w.heap.size w w1:=HXw.out.trans (h1.mono HXw.out.size)
    have hpt1:=HPT.out w1 (HK0.out w1 h1w)
    exact picker_any n V L d HIH.out N0 (some ⟨g,0,none⟩) L.length pc (findV bm bl) p a1 a2 a3 c1 c2 p.hs.length c3 (pickN ps k) A C w1 (HE.out.kept h1w) hpt1.fields hpt1.owners HPR.out HKp.out (by have h9:=(HAsk.out k hlt).1; omega) (HAsk.out k hlt).2 (HPK.out.kept h1) (HM.out.2 k hlt)
   intro s w' v' hr6
   obtain ⟨⟨fv',hF'⟩,hbe',⟨a',c',hv'⟩,hkx⟩:=HFR.out.more HCE.out hr6 (.inl rfl) (fun q hq=>by
    rcases hq with rfl | hq
    ·exact ⟨Nat.le_trans (Nat.le_trans hN0 (Nat.le_of_lt hws)) hbeq,lt_of_block HCE.out⟩
    ·exact ⟨hq.1,Nat.lt_of_lt_of_le hq.2 (Nat.le_trans (Nat.le_of_lt hws) HXS.out)⟩) (Nat.le_trans hN0 (Nat.le_of_lt hws))
   subst hv'
   have HF':=Hid.intro (hF'.congr (g:=fun i key=>gotK V L (gots V L d) p key (pickN ps i)) fun i _=>by
    by_cases e:i=k
    ·rw [if_pos e,e]
    ·rw [if_neg e])
   have HB':Hid (Below w2.heap.size w2 (w'.setCell ⟨be,0,none⟩ (.slice a' (k + 1) c'))):=Hid.intro (HX2.out.trans ⟨hkx.os,hkx.tape,hkx.output,hkx.size,fun q hq=>hkx.block q ⟨Nat.lt_of_lt_of_le hq HXS.out,fun h=>by
    rcases h with h | h
    ·omega
    ·omega⟩⟩)
   have HBE':=Hid.intro hbe'
   clear hr6 hF' hbe' hkx HX2 HXw HCE HFR HPK HXS HP0 HP1 HP2 hbxX
   simp only [putAll,Act.put,List.setIfInBounds_toArray,List.set_cons_succ,List.set_cons_zero]
   generalize s 25=t25
   generalize s 26=t26
   generalize s 27=t27
   generalize s 28=t28
   generalize s 29=t29
   generalize s 30=t30
   generalize s 31=t31
   go_wp2_with fail
   go_roundw
   case rel=>exact ⟨k + 1,by omega,by go_num,HB'.out,a',c',fv',HBE'.out,HF'.out⟩
   case measure=>simp [intOf]; omega
  ·have hkn:k=ps.length:=by omega
   subst hkn
   have hwr:Below w.heap.size w wr:=HB2.out.trans (hw.mono (Nat.le_of_lt hws))
   have HWR:=Hid.intro hwr
   have hbeq:w2.heap.size≤be:=Nat.le_of_eq HBEQ.out.symm
   have HEND:Hid (GetFn (mid N0 w.heap.size) wr (.func (.func 36) #[] #[.pointer (some ⟨w.heap.size,0,none⟩),.pointer (some ⟨bp,0,none⟩),.pointer (some ⟨be,0,none⟩)]) (d + 1) (fun key=>if thereP V p key=true then some (gots V L (d + 1) p key ps) else none)):=Hid.intro ⟨_,_,⟨rfl,Tryz.e36⟩,fun w9 hw9 key hks=>by
    have nx:∀ q,w.heap.size≤q→¬ mid N0 w.heap.size q:=fun q hq hm=>by have:=hm.2; omega
    have hbx9:=(hw.block _ hbpl).trans HBX.out
    have cp3:wr.cell? ⟨bp,3,none⟩=some (.slice a3 p.hs.length c3):=by simp [World.cell?,hbx9]
    have ce3:wr.cell? ⟨be,0,none⟩=some (.slice ea ps.length ec):=by simp [World.cell?,hbe]
    have hE9:=(HE.out.kept hwr).x hw9
    have hK9:Keep (fun k=>k < N0) w w9:=(HK0.out wr hwr).trans (Keep.mono hw9 fun q hq=>⟨Nat.lt_of_lt_of_le hq (HE.out.kept hwr).size,fun hx=>by have:=hx.1; omega⟩)
    have hrow9:Row w9 w2.heap.size 102 1 (.slice ea ps.length ec) ps.length fv:=hFR.row.at fun q hq=>hw9.block q ⟨(hFR.row.lt hq).2,nx q (Nat.le_trans (Nat.le_of_lt hws) (hFR.row.lt hq).1)⟩
    have hF9:FRow noB w2.heap.size w9 (.slice ea ps.length ec) ps.length fv (fun i key=>gotK V L (gots V L d) p key (pickN ps i)):=⟨hrow9,fun j hj=>(hFR.fn j hj).step (Keep.mono hw9 fun q hq=>⟨hq.1,fun hx=>hq.2 (.inl (.inr hx))⟩) fun q _ hy=>by
     rcases hy with hy | hy
     ·exact hy.elim
     ·exact .inr hy⟩
    exact getter1_any d n V L (some ⟨g,0,none⟩) L.length pc (findV bm bl) w.heap.size bp be w2.heap.size c3 ec a3 ea p ps fv key w9 hE9.now (hw9.cell (keptCell hw HW0'.out) (nx _ (Nat.le_refl _))) (hw9.cell (keptCell hw HW1'.out) (nx _ (Nat.le_refl _))) (hw9.cell cp3 (nx _ (Nat.le_of_lt hbp'))) (hw9.cell ce3 (nx _ (Nat.le_trans (Nat.le_of_lt hws) hbeq))) (HPT.out w9 hK9).homes HPR.out hF9 hps hks⟩
   clear hwr hw hFR hbe
   go_wp2_with fail
   go_ret
   exact ⟨⟨_,rfl,HEND.out⟩,HWR.out⟩
theorem getter_zero (n:Nat) (V:Nat→LServ) (L:List PPart):GetterOk n V L 0:=by
 intro N0 pa pn pc vv typ a cap ps w _ hne
 exact absurd (nil0 ps) hne
theorem getter_any (n:Nat) (V:Nat→LServ) (L:List PPart) (hR:∀ nm,¬ partIdx L.length (lpOf L) nm < 0→PartR n V (pOf L nm)) (HK:∀ q,q ∈ L→∀ j,j < q.fs.length→(fsN q j).kind=1∨(fsN q j).kind=2∨(fsN q j).kind=3):∀ d,GetterOk n V L d
 | 0=>getter_zero n V L
 | d + 1=>getter_succ n V L hR HK d (getter_any n V L hR HK d)
end Go.Proofs.YtjjggefmmeminabGreat
