import Derived.Test.YtjjggefmmeminacGreatMgServ
import Derived.Test.YtjjggefmmeminacGreatJMn
namespace Go.Proofs.YtjjggefmmeminacGreat
open Go.RowKit Go.Sort Go.PlainAid
theorem Parts.plus {Z:Nat→Prop} {w:World} {v:Value} {L:List PPart} {rv:Nat→Nat→Value} (h:Parts Z w v L rv) {bp t:Nat} {c:Array Value} (hb:w.heap[bp]? = some (.cells c t (0,0))) (h1:t≠114) (h2:t≠66) (h3:t≠118):Parts (fun b=>Z b∨b=bp) w v L rv :=
 ⟨h.nmax,h.row,h.rows,h.apart,fun b hb' hz=>hz.elim (h.freeV b hb') (fun e=>h.row.box_ne (b:=bp) (by rw [hb',e]) hb h1.symm rfl),fun c' i hc hi b hb' hz=>hz.elim (h.free c' i hc hi b hb') (fun e=>(h.rows c' i hc hi).box_ne (b:=bp) (by rw [hb',e]) hb (by unfold et; split; exact h2.symm; exact h3.symm) rfl),h.good⟩
theorem svc_wf:∀ i:Nat,i≤5→(Lit.int .i64 (i:Int)).wf=true
 | 0,_=>rfl
 | 1,_=>rfl
 | 2,_=>rfl
 | 3,_=>rfl
 | 4,_=>rfl
 | 5,_=>rfl
 | i + 6,h=>absurd h (by omega)
theorem Tryz.e38:∀ args w,(callFunc 38 args).run Tryz.prog w = .ok (.enter 38 args) w:=enters_of Tryz.func38 (by kernel_rfl) rfl
set_option maxRecDepth 100000 in
set_option maxHeartbeats 1000000 in
theorem all1_any (Z:Nat→Prop) (a:Option Addr) (n cap i bp bl:Nat) (V:Nat→LServ) (va:Option Addr) (vn vc:Nat) (rv:Nat→Nat→Value) (w:World) (hS:ServsAt w a n V) (hl:w.heap[bl]? = some (.cells #[.slice a n cap] 22 (0,0))) (hp:w.heap[bp]? = some (.cells #[.slice va vn vc] 77 (0,0))) (hP:Parts Z w (.slice va vn vc) (allP (ntS V) (seenA V) i) rv) (hnz : ¬ Z bp) (hZ:∀ b,Z b→b < w.heap.size) (hi:i < n) (hn:n≤5) (hok:∀ j,j < n→(seeE (V j)).1=0) :
  Calls Tryz.prog 38 #[.int .i64 (i:Int),.pointer (some ⟨bp,0,none⟩),.pointer (some ⟨bl,0,none⟩)] w fun e w'=>e = .returned (.int .i64 (errA (ntS V) (seenA V) i))∧(∃ va vn vc,w'.heap[bp]? = some (.cells #[.slice va vn vc] 77 (0,0))∧(errA (ntS V) (seenA V) i=0→∃ rv,Parts Z w' (.slice va vn vc) (allP (ntS V) (seenA V) (i + 1)) rv))∧Keep Z w w':=by
 obtain ⟨b,o,rfl,hs⟩:=hS.2 i hi
 have c0:=hs.c0
 have c1:=hs.c1
 have c2:=hs.c2
 have hi':(i:Int) < (n:Int):=by omega
 have hi0:(0:Int)≤(i:Int):=by omega
 have l0:w.cell? ⟨bl,0,none⟩=some (.slice (some ⟨b,o,none⟩) n cap):=by simp [World.cell?,hl]
 have p0:w.cell? ⟨bp,0,none⟩=some (.slice va vn vc):=by simp [World.cell?,hp]
 have hfew:=few_all (n:=ntS V) (S:=seenA V) i (fun q hq=>(seeF_right (hok q (by omega))).few) (fun q hq j hj=>((right_run (seeF_right (hok q (by omega))) (V q).nc).fld j hj).few)
 have hcl:Calls Tryz.prog 39 #[.slice va vn vc,.int .i64 (i:Int),.agg #[.slice (V i).ta (V i).nt (V i).tcap,.slice (V i).ca (V i).nc (V i).ccap,.slice (V i).xa (V i).nx (V i).xcap]] w.drew fun e w'=>_ :=
  withService_any (fun b=>Z b∨b=bp) _ _ rv (i:Int) (V i) (8 * i) w.drew ((hP.plus hp (by decide) (by decide) (by decide)).kept' (below_drewN w 1)) (fun b hb=>hb.elim (hZ b) (fun e=>by rw [e]; exact lt_of_block hp)) (all_rise i) (hs.ok.kept (below_drewN w 1)) (hok i hi) hfew (by omega) (svc_wf i (by omega))
 have HP:=Hid.intro hp
 have HE:Hid (errA (ntS V) (seenA V) i=errV (i:Int) (allP (ntS V) (seenA V) i) (seenS (V i)) (V i).nt):=rfl
 have HA:Hid (allP (ntS V) (seenA V) (i + 1)=foldT (i:Int) (allP (ntS V) (seenA V) i) (seenS (V i)) (V i).nt):=rfl
 have HZ:=Hid.intro hZ
 have HNZ:=Hid.intro hnz
 clear hP hp hl hs hS hfew hZ
 generalize errV (i:Int) (allP (ntS V) (seenA V) i) (seenS (V i)) (V i).nt=ee at *
 generalize foldT (i:Int) (allP (ntS V) (seenA V) i) (seenS (V i)) (V i).nt=LL at *
 go_enter Tryz.func38,Tryz.ntmps38
 go_wp2_with fail
 go_region_law (go_simp; go_at_call 39; refine hcl.mono ?_; rintro e w4 ⟨xa,xn,xc,rfl,hP4,hK4⟩; have HP4:=Hid.intro hP4; have HK4:=Hid.intro hK4; have hp4:=(hK4.block bp (.inr rfl)).trans HP.out; have HB4:=Hid.intro hp4; have y0:w4.cell? ⟨bp,0,none⟩=some (.slice va vn vc):=(by simp [World.cell?,hp4]); have y1:w4.frozen? ⟨bp,0,none⟩=false:=(by simp [World.frozen?,hp4]); clear hP4 hK4 hp4)
 all_goals (
  have HFIN:Hid ((w4.setCell ⟨bp,0,none⟩ (.slice xa xn xc)).heap[bp]? = some (.cells #[.slice xa xn xc] 77 (0,0))∧(errA (ntS V) (seenA V) i=0→∃ rv,Parts Z (w4.setCell ⟨bp,0,none⟩ (.slice xa xn xc)) (.slice xa xn xc) (allP (ntS V) (seenA V) (i + 1)) rv)∧Keep Z w (w4.setCell ⟨bp,0,none⟩ (.slice xa xn xc))):=by
   refine ⟨heap_setCell_same w4 bp 0 _ 77 _ HB4.out,fun h=>?_,?_⟩
   ·rw [HE.out] at h
    obtain ⟨r,hr⟩:=HP4.out h
    rw [HA.out]
    exact ⟨r,(hr.less fun b hb=>.inl hb).other (B:=bp) (fun k _ hk=>Below.heap_setCell _ _ _ _ hk) (fun c t z hc=>by rw [HB4.out] at hc; cases hc; decide)⟩
   ·exact ((Keep.of (below_drewN w 1) HZ.out).trans (HK4.out.mono fun b hb=>.inl hb)).trans (Keep.set _ _ _ HNZ.out)
  go_wp2_with fail
  go_ret
  exact ⟨by rw [HE.out]; rfl,⟨xa,xn,xc,HFIN.out.1,HFIN.out.2.1⟩,HFIN.out.2.2⟩)
structure AllI (w0:World) (bp:Nat) (V:Nat→LServ) (Z:Nat→Prop) (i:Nat) (w1:World):Prop where
 frame:Keep (fun b=>b < w0.heap.size∧b≠bp) w0 w1
 sub:∀ b,b < w0.heap.size∧b≠bp→Z b
 nz : ¬ Z bp
 parts:∃ va vn vc rv,w1.heap[bp]? = some (.cells #[.slice va vn vc] 77 (0,0))∧Parts Z w1 (.slice va vn vc) (allP (ntS V) (seenA V) i) rv
theorem Parts.shape {Z:Nat→Prop} {w:World} {va:Option Addr} {vn vc:Nat} {L:List PPart} {rv:Nat→Nat→Value} (h:Parts Z w (.slice va vn vc) L rv):vn=L.length:=by
 obtain ⟨_,_,e,-⟩:=h.slice
 cases e; rfl
theorem AllI.box {w0:World} {bp:Nat} {V:Nat→LServ} {Z:Nat→Prop} {i:Nat} {w1 w2:World} (h:AllI w0 bp V Z i w1) (hb:Below w1.heap.size w1 w2):AllI w0 bp V (fun b=>Z b∨(w1.heap.size≤b∧b < w2.heap.size)) i w2:=by
 obtain ⟨va,vn,vc,rv,q1,q2⟩:=h.parts
 have hl:=lt_of_block q1
 exact ⟨h.frame.trans (Keep.of hb fun b hb'=>Nat.lt_of_lt_of_le hb'.1 h.frame.size),fun b hb'=>.inl (h.sub b hb'),fun h'=>h'.elim h.nz (fun h'=>by omega),va,vn,vc,rv,(hb.block _ hl).trans q1,q2.kept hb⟩
theorem AllI.less {w0:World} {bp:Nat} {V:Nat→LServ} {Z Z':Nat→Prop} {i:Nat} {w1 w2:World} {B:Nat} {u v:Int} (h:AllI w0 bp V Z i w1) (hz:∀ b,Z' b→Z b) (hs:∀ b,b < w0.heap.size∧b≠bp→Z' b) (hB:w0.heap.size≤B) (hbp:bp < w0.heap.size) (hx:Boxed w1 w2 B u v):AllI w0 bp V Z' i w2:=by
 obtain ⟨va,vn,vc,rv,q1,q2⟩:=h.parts
 have hl:=lt_of_block q1
 have hk:Keep (fun b=>b < w0.heap.size∧b≠bp) w1 w2:=⟨hx.os,hx.tape,hx.output,hx.size,fun b hb=>hx.keep b (Nat.lt_of_lt_of_le hb.1 h.frame.size) (by have:=hb.1; omega)⟩
 refine ⟨h.frame.trans hk,hs,fun h'=>h.nz (hz _ h'),va,vn,vc,rv,(hx.keep bp hl (by omega)).trans q1,(q2.less hz).other (B:=B) hx.keep fun c t z hc=>?_⟩
 obtain ⟨c',e⟩:=hx.old _ hc
 cases e; decide
set_option maxRecDepth 100000 in
set_option maxHeartbeats 2000000 in
theorem mallN_any (a:Option Addr) (n cap:Nat) (V:Nat→LServ) (w:World) (hS:ServsAt w a n V) :
  Calls Tryz.prog 22 #[.slice a n cap] w fun e w'=>(∃ va vn vc,e = .returned (.tuple #[.slice va vn vc,faultV (allF n V)])∧((allF n V).1≠0→va=none∧vn=0∧vc=0)∧((allF n V).1=0→∃ rv,Parts (fun b=>b < w.heap.size) w' (.slice va vn vc) (allP (ntS V) (seenA V) n) rv))∧Below w.heap.size w w':=by
 have hmf:∀ (fn:Fn) (first cap:Array Value) (w:World),(Instr.makeFunc fn first cap).run Tryz.prog w = .ok (.func fn first cap) w:=fun _ _ _ _=>rfl
 have hn:n≤9223372036854775807:=hS.1
 have HS:=Hid.intro hS
 clear hS
 generalize hW:(w.alloc (Obj.cells #[.slice a n cap] 22)).alloc (Obj.cells #[.int .i64 0,.int .i64 0] 45)=W
 have hBW:Below w.heap.size w W:=by rw [← hW]; exact below2 _ _ _
 have hbl:W.heap[w.heap.size]? = some (.cells #[.slice a n cap] 22 (0,0)):=by rw [← hW]; exact (Below.heap_alloc _ _ _ (by simp)).trans (heap_alloc_new _ _)
 have hbf:W.heap[w.heap.size + 1]? = some (.cells #[.int .i64 0,.int .i64 0] 45 (0,0)):=by
  rw [← hW,show w.heap.size + 1=(w.alloc (Obj.cells #[.slice a n cap] 22)).heap.size by simp]; exact heap_alloc_new _ _
 have l0:W.cell? ⟨w.heap.size,0,none⟩=some (.slice a n cap):=by simp [World.cell?,hbl]
 have hcl:=mwrong_any a n cap V W (HS.out.kept hBW)
 have HBW:=Hid.intro hBW
 have HBL:=Hid.intro hbl
 have HBF:=Hid.intro hbf
 clear hBW hbl hbf
 have HD:Hid (allF n V=if (wrongF n V).1≠0 then wrongF n V else fault n (errA (ntS V) (seenA V))):=rfl
 have HOK:=Hid.intro (wrongF_ok (n:=n) (V:=V))
 generalize wrongF n V=r at *
 unfold faultV at hcl
 go_enter Tryz.func22,Tryz.ntmps22
 go_wp2_with fail
 clear hW
 refine hcl.mono ?_
 clear hcl
 rintro e w1 ⟨rfl,hw1⟩
 generalize hX:w1.alloc (Obj.cells #[.int .i64 r.1,.int .i64 r.2] 45)=X
 have hBX:Below w1.heap.size w1 X:=by rw [← hX]; exact below1 _ _
 have d0:X.cell? ⟨w1.heap.size,0,none⟩=some (.int .i64 r.1):=by rw [← hX,World.cell?_alloc_at _ _ _ _ rfl]; rfl
 have d1:X.cell? ⟨w1.heap.size,1,none⟩=some (.int .i64 r.2):=by rw [← hX,World.cell?_alloc_at _ _ _ _ rfl]; rfl
 have hWX:Below W.heap.size W X:=hw1.trans (hBX.mono hw1.size)
 have hblX:=(hWX.block _ (lt_of_block HBL.out)).trans HBL.out
 have hbfX:=(hWX.block _ (lt_of_block HBF.out)).trans HBF.out
 have l0:=keptCell hWX l0
 have HX:Hid (Below w.heap.size w X):=HBW.out.trans (hWX.mono HBW.out.size)
 have HBLX:=Hid.intro hblX
 have HBFX:=Hid.intro hbfX
 clear hBX hWX hw1 hblX hbfX HBL HBF
 by_cases h0:r.1=0
 case neg =>
  have hb:(r.1 != 0)=true:=by simpa using h0
  have HE:Hid (allF n V=r):=by rw [HD.out,if_pos h0]; rfl
  have H0:=Hid.intro h0
  obtain ⟨x0,x1,z0,z1⟩:=box_cells HBFX.out
  have HKZ:Hid (Below w.heap.size w ((X.setCell ⟨w.heap.size + 1,0,none⟩ (.int .i64 r.1)).setCell ⟨w.heap.size + 1,1,none⟩ (.int .i64 r.2))):=(HX.out.setCell (Nat.le_succ _) _).setCell (Nat.le_succ _) _
  clear h0
  go_wp2_with fail
  clear hX
  go_region
  go_wp2_with fail
  exact bodyPost_ret (v:=.tuple #[.slice none 0 0,.agg #[.int .i64 r.1,.int .i64 r.2]]) (by simp [results,Tryz.results22,go_sem,x0,x1]) rfl ⟨⟨none,0,0,by rw [HE.out]; rfl,fun _=>⟨rfl,rfl,rfl⟩,fun h=>absurd (by rw [HE.out] at h; exact h) H0.out⟩,HKZ.out.drew⟩
 have hb:(r.1 != 0)=false:=by simpa using h0
 have HE:Hid (allF n V=fault n (errA (ntS V) (seenA V))):=by rw [HD.out,if_neg (fun h=>h h0)]; rfl
 obtain ⟨hn5,hokA⟩:=HOK.out h0
 have hok:∀ j,j < n→(seeE (V j)).1=0:=fun j hj=>(hokA j hj).1
 clear h0 HD HOK hokA
 generalize hQ:X.alloc (Obj.cells #[.slice none 0 0] 77)=Q
 have hBQ:Below X.heap.size X Q:=by rw [← hQ]; exact below1 _ _
 have hbp:Q.heap[X.heap.size]? = some (.cells #[.slice none 0 0] 77 (0,0)):=by rw [← hQ]; exact heap_alloc_new _ _
 have hblQ:=(hBQ.block _ (lt_of_block HBLX.out)).trans HBLX.out
 have hbfQ:=(hBQ.block _ (lt_of_block HBFX.out)).trans HBFX.out
 have lQ:Q.cell? ⟨w.heap.size,0,none⟩=some (.slice a n cap):=by simp [World.cell?,hblQ]
 have hwQ:Below w.heap.size w Q:=HX.out.trans (hBQ.mono HX.out.size)
 have hbX:w.heap.size + 1 < X.heap.size:=lt_of_block HBFX.out
 have hQX:X.heap.size < Q.heap.size:=lt_of_block hbp
 have hcl:=inTurn_any a n cap 38 #[.pointer (some ⟨X.heap.size,0,none⟩),.pointer (some ⟨w.heap.size,0,none⟩)] (errA (ntS V) (seenA V)) Q (AllI Q X.heap.size V) hn Tryz.e38
  (fun Z i w1 hZ hi hI=>by
   obtain ⟨va,vn,vc,rv,q1,q2⟩:=hI.parts
   have hb1:Below w.heap.size w w1:=hwQ.trans (hI.frame.below fun b hb=>⟨by omega,by omega⟩)
   refine (all1_any Z a n cap i X.heap.size w.heap.size V va vn vc rv w1 (HS.out.kept hb1) ((hI.frame.block _ ⟨by omega,by omega⟩).trans hblQ) q1 q2 hI.nz hZ hi hn5 hok).mono fun e w' h=>⟨h.1,fun h0=>?_,h.2.2⟩
   obtain ⟨va',vn',vc',q3,q4⟩:=h.2.1
   obtain ⟨rv',q5⟩:=q4 h0
   exact ⟨hI.frame.trans (h.2.2.mono hI.sub),hI.sub,hI.nz,va',vn',vc',rv',q3,q5⟩)
  (fun Z i w1 w2 hb hI=>hI.box hb) (fun b=>b < Q.heap.size∧b≠X.heap.size) (fun Y i w1 w2 B u v hz _ hB hbx hI=>hI.less hz (fun b hb=>hb) hB hQX hbx) (fun b hb=>hb.1)
  ⟨Keep.refl _ _,fun b hb=>hb,fun h=>h.2 rfl,none,0,0,fun _ _=>undef,hbp,parts_nil _ _ _⟩
 have HBP:=Hid.intro hbp
 have HBFQ:=Hid.intro hbfQ
 have HWQ:=Hid.intro hwQ
 clear hok hbp hblQ hbfQ hwQ hBQ HBFX HBLX HX
 generalize hff:fault n (errA (ntS V) (seenA V))=f at *
 have HFF:=Hid.intro hff
 clear hff
 unfold faultV at hcl
 go_wp2_with fail
 clear hX hQ
 refine hcl.mono ?_
 clear hcl
 rintro e w2 ⟨rfl,hI2,hK2⟩
 have HI2:=Hid.intro hI2
 have hbf2:=(hK2.block (w.heap.size + 1) ⟨by omega,by omega⟩).trans HBFQ.out
 have hw2:Below w.heap.size w w2:=HWQ.out.trans (hK2.below fun b hb=>⟨by omega,by omega⟩)
 have hz2:Q.heap.size≤w2.heap.size:=hK2.size
 clear hI2 hK2
 generalize hU:w2.alloc (Obj.cells #[.int .i64 f.1,.int .i64 f.2] 45)=U
 have hBU:Below w2.heap.size w2 U:=by rw [← hU]; exact below1 _ _
 have e0:U.cell? ⟨w2.heap.size,0,none⟩=some (.int .i64 f.1):=by rw [← hU,World.cell?_alloc_at _ _ _ _ rfl]; rfl
 have e1:U.cell? ⟨w2.heap.size,1,none⟩=some (.int .i64 f.2):=by rw [← hU,World.cell?_alloc_at _ _ _ _ rfl]; rfl
 have hbfU:=(hBU.block _ (lt_of_block hbf2)).trans hbf2
 obtain ⟨x0,x1,z0,z1⟩:=box_cells hbfU
 have hwU:Below w.heap.size w U:=hw2.trans (hBU.mono hw2.size)
 have HKZ:Hid (Below w.heap.size w ((U.setCell ⟨w.heap.size + 1,0,none⟩ (.int .i64 f.1)).setCell ⟨w.heap.size + 1,1,none⟩ (.int .i64 f.2))):=(hwU.setCell (Nat.le_succ _) _).setCell (Nat.le_succ _) _
 by_cases h1:f.1=0
 case neg =>
  have hb1:(f.1 != 0)=true:=by simpa using h1
  have H1:=Hid.intro h1
  clear h1 hBU hbf2 hbfU hw2 hwU
  go_wp2_with fail
  clear hU
  go_region
  go_wp2_with fail
  exact bodyPost_ret (v:=.tuple #[.slice none 0 0,.agg #[.int .i64 f.1,.int .i64 f.2]]) (by simp [results,Tryz.results22,go_sem,x0,x1]) rfl ⟨⟨none,0,0,by rw [HE.out]; rfl,fun _=>⟨rfl,rfl,rfl⟩,fun h=>absurd (by rw [HE.out] at h; exact h) H1.out⟩,HKZ.out.drew⟩
 have hb1:(f.1 != 0)=false:=by simpa using h1
 obtain ⟨va,vn,vc,rv,q1,q2⟩:=(HI2.out h1).parts
 have hq1:=(hBU.block _ (lt_of_block q1)).trans q1
 have y0:U.cell? ⟨X.heap.size,0,none⟩=some (.slice va vn vc):=by simp [World.cell?,hq1]
 have HPU:Hid (Parts (fun b=>b < w.heap.size) ((U.setCell ⟨w.heap.size + 1,0,none⟩ (.int .i64 f.1)).setCell ⟨w.heap.size + 1,1,none⟩ (.int .i64 f.2)) (.slice va vn vc) (allP (ntS V) (seenA V) n) rv):=by
  have hbx:=boxed_set (u:=f.1) (v:=f.2) hbfU
  exact ((q2.kept' hBU).less fun b (hb:b < w.heap.size)=>⟨by omega,by omega⟩).other (B:=w.heap.size + 1) hbx.keep fun c t z hc=>by rw [hbfU] at hc; cases hc; decide
 have H1:=Hid.intro h1
 clear h1 hBU hbf2 hbfU hw2 hwU q1 q2 hq1
 go_wp2_with fail
 clear hU
 go_region
 all_goals (
  go_wp2_with fail
  exact bodyPost_ret (v:=.tuple #[.slice va vn vc,.agg #[.int .i64 f.1,.int .i64 f.2]]) (by simp [results,Tryz.results22,go_sem,x0,x1]) rfl ⟨⟨va,vn,vc,by rw [HE.out]; rfl,fun h=>absurd (by rw [HE.out]; exact H1.out) h,fun _=>⟨rv,HPU.out.kept' (below_drewN _ 1)⟩⟩,HKZ.out.drew⟩)
theorem mall_any (a:Option Addr) (n cap:Nat) (V:Nat→LServ) (w:World) (hS:ServsAt w a n V) :
  Calls Tryz.prog 22 #[.slice a n cap] w fun e w'=>(∃ va vn vc,e = .returned (.tuple #[.slice va vn vc,faultV (allF n V)])∧((allF n V).1≠0→vn=0)∧((allF n V).1=0→∃ rv,Parts (fun b=>b < w.heap.size) w' (.slice va vn vc) (allP (ntS V) (seenA V) n) rv))∧Below w.heap.size w w' :=
 (mallN_any a n cap V w hS).mono fun _ _ ⟨⟨va,vn,vc,h1,h2,h3⟩,h4⟩=>⟨⟨va,vn,vc,h1,fun h=>(h2 h).2.1,h3⟩,h4⟩
end Go.Proofs.YtjjggefmmeminacGreat
