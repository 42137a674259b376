import Derived.Test.YtjjggefmmeminacGreatJMg
import Derived.Lib.Overlaps
import Derived.Lib.AppendZerosOnto
import Derived.Laws.IdiomCopy
namespace Go.Proofs.YtjjggefmmeminacGreat
open Go.RowKit Go.Sort Go.Lib
theorem run_copy_n (w:World) (dT sT ty elem:TypeId) (size b o dLen dCap:Nat) (a:Addr) (sLen sCap:Nat) (cs:List Value)
  (hu:Tryz.prog.underlying dT=some (.slice elem)) (hs:(Tryz.prog.info? elem).map (·.size)=some size) (hn:cs.length=Nat.min sLen dLen * size)
  (hsrc:∀ j v,cs[j]? = some v→w.cell? (a.add j)=some v) (hc:∀ j,j < cs.length→(w.cell? ⟨b,o + j,none⟩).isSome=true) (hf:∀ j,j < cs.length→w.frozen? ⟨b,o + j,none⟩=false) (h1:∀ v ∈ cs,v.oneCell'=true) :
  (Builtin.copy_ #[dT,sT] ty #[.slice (some ⟨b,o,none⟩) dLen dCap,.slice (some a) sLen sCap]).run Tryz.prog w = .ok (goInt (Nat.min sLen dLen)) (w.setCells b o cs):=by
 have hl:=run_loadCells_list (P:=Tryz.prog) w a cs hsrc
 have hst:=run_storeCells_cells (P:=Tryz.prog) b o cs 0 w (by simpa using hc) (by simpa using hf) h1
 cases hq:Tryz.prog.info? elem with
 | none=>simp [hq] at hs
 | some i =>
  have hi:i.size=size:=by simpa [hq] using hs
  simp [Builtin.copy_,run_underlying hu,Builtin.lenOf,Builtin.firstCells,sizeOf,typeInfo,hq,hi,← hn,hl,hst]
theorem wpList_copy_n (w:World) {ops:Array Oper} {rest:List Oper} {o:Oper} {a:Act} {Q:Exit→Act→World→Prop} (hgd:o.guard=none) (d s:Operand) (t t':TypeId)
  (ho:o.op = .call { callee:=.builtin .copy,args:=#[d,s],argTypes:=#[t,t'] }) (v u:Value) (hd:a.eval d=v) (hs:a.eval s=u) {v':Value} {w':World}
  (hr:(Builtin.copy_ #[t,t'] o.type #[v,u]).run Tryz.prog w = .ok v' w') (h:wpList Tryz.prog ops Q rest (a.put o.dst v') w'):wpList Tryz.prog ops Q (o :: rest) a w:=by
 refine wpList_plain hgd fun K hK=>?_
 unfold Oper.wp execOp
 simp only [ho,resolve,invoke,builtin,Sem.run_bind,Sem.run_pure,Result.andThen_ok,List.map_toArray,List.map_cons,List.map_nil,hd,hs,hr]
 exact hK _ _ h
theorem step_copy_n {ops:Array Oper} {o:Oper} {a:Act} {w:World} {K:Act→World→Prop} {Q:Exit→Act→World→Prop} {E:Prop}
  (hg:o.guard=none) (d x:Operand) (dT sT:TypeId) (hop:o.op=Op.call { callee:=Callee.builtin Builtin.copy,args:=#[d,x],argTypes:=#[dT,sT] })
  (v u:Value) (hd:a.eval d=v) (hx:a.eval x=u) {v':Value} {w':World} (hr:(Builtin.copy_ #[dT,sT] o.type #[v,u]).run Tryz.prog w = .ok v' w') (hK:K (a.put o.dst v') w') :
  if Region.wanted o (yielded ops a.tmps)=true then Oper.wp Tryz.prog o a w K Q else E:=by
 have hw:Region.wanted o (yielded ops a.tmps)=true:=by simp [Region.wanted,hg]
 rw [if_pos hw]
 unfold Oper.wp
 simp [execOp,hop,resolve,invoke,builtin,hd,hx,hr,Result.andThen]
 exact hK
theorem Row.stretch {w:World} {base e size n m g cap:Nat} {f : Nat→Value} (h:Row w base e size (.slice (some ⟨g,0,none⟩) n cap) n f) (hm:m≤cap):∃ f',Row w base e size (.slice (some ⟨g,0,none⟩) m cap) m f'∧∀ q,q < n * size→f' q=f q:=by
 rcases h.2 with ⟨h',_⟩ | ⟨g',cap',cur,h',hb,hg,hnc,hcm,hcs,htake⟩
 ·simp at h'
 ·cases h'
  refine ⟨fun q=>(cur.toList[q]?).getD undef,⟨by simp,.inr ⟨g,cap,cur,rfl,hb,hg,hm,hcm,hcs,?_⟩⟩,fun q hq=>?_⟩
  ·have hle:m * size≤cur.toList.length:=by rw [Array.length_toList,hcs]; exact Nat.mul_le_mul_right _ hm
   apply List.ext_getElem?
   intro i
   rw [List.getElem?_take,List.getElem?_map]
   by_cases hi:i < m * size
   ·have hl:i < cur.toList.length:=by omega
    rw [if_pos hi,List.getElem?_range hi]
    show cur.toList[i]? = some ((cur.toList[i]?).getD undef)
    rw [List.getElem?_eq_getElem hl]; rfl
   ·have hr:(List.range (m * size))[i]? = none:=List.getElem?_eq_none (by rw [List.length_range]; omega)
    rw [if_neg hi,hr]; rfl
  ·have h2:=congrArg (fun l=>l[q]?) htake
   simp only [List.getElem?_take,List.getElem?_map] at h2
   rw [if_pos hq,List.getElem?_range hq] at h2
   show (cur.toList[q]?).getD undef=f q
   rw [h2]; rfl
theorem setCells_drew (b:Nat):∀ (vs:List Value) (o:Nat) (w:World),w.drew.setCells b o vs=(w.setCells b o vs).drew
 | [],_,_=>rfl
 | v :: r,o,w=>by rw [World.setCells,World.setCells,← setCells_drew b r]; rfl
theorem grown_trans {a b c:World} {r:Option Nat} (h:a.grownBy b r) (k:b.grownBy c r):a.grownBy c r :=
 ⟨k.os.trans h.os,k.tape.trans h.tape,k.output.trans h.output,Nat.le_trans h.size k.size,fun q hq hne=>(k.block q (Nat.lt_of_lt_of_le hq h.size) hne).trans (h.block q hq hne)⟩
theorem grown_fresh {a b c:World} {r:Option Nat} {g:Nat} (h:a.grownBy b r) (k:b.grownBy c (some g)) (hg:a.heap.size≤g):a.grownBy c r :=
 ⟨k.os.trans h.os,k.tape.trans h.tape,k.output.trans h.output,Nat.le_trans h.size k.size,fun q hq hne=>(k.block q (Nat.lt_of_lt_of_le hq h.size) (fun e=>by cases e; omega)).trans (h.block q hq hne)⟩
def insCell (f:Nat→Value) (i:Nat) (xs:List Value) (q:Nat):Value:=if q < i * 4 then f q else if q < i * 4 + 4 then xs.getD (q - i * 4) undef else f (q - 4)
theorem Row.inserted {w:World} {base e n i g cap:Nat} {f f1:Nat→Value} {xs news:List Value} (h:Row w base e 4 (.slice (some ⟨g,0,none⟩) (n + 1) cap) (n + 1) f1) (hi:i < n) (hx:xs.length=4) (hf:∀ q,q < i * 4→f1 q=f q) (hn:∀ q,q < (n - i) * 4→news[q]? = some (f (i * 4 + q))) :
  (Row ((w.setCells g ((i + 1) * 4) news).setCells g (i * 4) xs) base e 4 (.slice (some ⟨g,0,none⟩) (n + 1) cap) (n + 1) (insCell f i xs)∧w.grownBy ((w.setCells g ((i + 1) * 4) news).setCells g (i * 4) xs) (some g)) ∧
  (Row ((w.setCells g (i * 4) xs).setCells g ((i + 1) * 4) news) base e 4 (.slice (some ⟨g,0,none⟩) (n + 1) cap) (n + 1) (insCell f i xs)∧w.grownBy ((w.setCells g (i * 4) xs).setCells g ((i + 1) * 4) news) (some g)):=by
 have hxg:∀ q,i * 4≤q→q < i * 4 + 4→xs[q - i * 4]? = some (xs.getD (q - i * 4) undef):=fun q h1 h2=>by rw [List.getElem?_eq_getElem (by omega)]; simp [List.getD,show q - i * 4 < xs.length by omega]
 constructor
 ·obtain ⟨fa,h1,a1,a2,a3,a4⟩:=Row.setCells news w f1 ((i + 1) * 4) h
  obtain ⟨fb,h2,b1,b2,b3,b4⟩:=Row.setCells xs _ fa (i * 4) h1
  refine ⟨h2.congr fun q hq=>?_,grown_trans a4 b4⟩
  unfold insCell
  by_cases c1:q < i * 4
  ·rw [if_pos c1,b1 q c1,a1 q (by omega),hf q c1]
  ·rw [if_neg c1]
   by_cases c2:q < i * 4 + 4
   ·rw [if_pos c2]
    have:=b3 (q - i * 4) _ (hxg q (by omega) c2)
    rwa [show i * 4 + (q - i * 4)=q by omega] at this
   ·rw [if_neg c2,b2 q (by omega)]
    have:=a3 (q - (i + 1) * 4) _ (hn _ (by omega))
    rw [show (i + 1) * 4 + (q - (i + 1) * 4)=q by omega] at this
    rw [this]; congr 1; omega
 ·obtain ⟨fa,h1,a1,a2,a3,a4⟩:=Row.setCells xs w f1 (i * 4) h
  obtain ⟨fb,h2,b1,b2,b3,b4⟩:=Row.setCells news _ fa ((i + 1) * 4) h1
  refine ⟨h2.congr fun q hq=>?_,grown_trans a4 b4⟩
  unfold insCell
  by_cases c1:q < i * 4
  ·rw [if_pos c1,b1 q (by omega),a1 q c1,hf q c1]
  ·rw [if_neg c1]
   by_cases c2:q < i * 4 + 4
   ·rw [if_pos c2,b1 q (by omega)]
    have:=a3 (q - i * 4) _ (hxg q (by omega) c2)
    rwa [show i * 4 + (q - i * 4)=q by omega] at this
   ·rw [if_neg c2]
    have:=b3 (q - (i + 1) * 4) _ (hn _ (by omega))
    rw [show (i + 1) * 4 + (q - (i + 1) * 4)=q by omega] at this
    rw [this]; congr 1; omega
theorem Tryz.info114:(Tryz.prog.info? 114).map (fun i=>(i.zero,i.size,i.bytes))=some (some (.agg #[.string ⟨#[]⟩,.slice none 0 0,.slice none 0 0,.slice none 0 0]),4,88):=by kernel_rfl
set_option maxRecDepth 100000 in
set_option maxHeartbeats 2000000 in
theorem insert_end (n vb:Nat) (v:Value) (f:Nat→Value) (xs:List Value) (hx:xs.length=4) (w:World) (h:Row w 0 114 4 v n f) (hm:n≤1000) (hvb:w.heap[vb]? = some (.cells xs.toArray 114 (0,0))) (h1:∀ u ∈ xs,u.oneCell'=true) :
  Calls Tryz.prog 90 #[v,.int .i64 (n:Int),.slice (some ⟨vb,0,none⟩) 1 1] w fun e w' => ∃ v',e = .returned v'∧Row w' 0 114 4 v' (n + 1) (insCell f n xs)∧w.grownBy w' v.ownBlock∧(v'.ownBlock=v.ownBlock∨∃ b,v'.ownBlock=some b∧w.heap.size≤b):=by
 obtain ⟨i0,hi0,hz0,hz1,hz2⟩:=info_parts' Tryz.info114
 obtain ⟨a,cap,rfl,hcap⟩:=h.slice
 have H:=Hid.intro h
 have HX:Hid (∀ ad,some (⟨vb,0,none⟩:Addr)=some ad→∀ j u,xs[j]? = some u→w.cell? (ad.add j)=some u):=fun ad had j u hu=>by
  cases had
  rw [WideShapes.add_plain]
  simp [World.cell?,hvb,hu]
 have HFIN:Hid ((List.range (n * 4)).map f ++ xs=(List.range ((n + 1) * 4)).map (insCell f n xs)):=by
  apply List.ext_getElem?
  intro q
  unfold insCell
  by_cases c1:q < n * 4
  ·rw [List.getElem?_append_left (by simpa using c1)]
   simp [c1,show q < (n + 1) * 4 by omega]
  ·rw [List.getElem?_append_right (by simp; omega)]
   simp only [List.length_map,List.length_range]
   by_cases c2:q < (n + 1) * 4
   ·rw [List.getElem?_map,List.getElem?_range c2,List.getElem?_eq_getElem (by omega)]
    simp [c1,show q < n * 4 + 4 by omega,List.getD,show q - n * 4 < xs.length by omega]
   ·rw [List.getElem?_eq_none (by omega),List.getElem?_eq_none (by simp; omega)]
 clear h hvb
 have hob:∀ c,(Value.slice a n c).ownBlock=(Value.slice a n cap).ownBlock:=fun c=>by cases a <;> rfl
 have hz : ¬ ((n:Int) < 0):=by omega
 go_enter Tryz.func90,Tryz.ntmps90
 go_wp2_with (at_builtin; refine wpList_append_any _ rfl _ _ 77 rfl 0 114 i0 _ 4 88 Tryz.underlying77 hi0 hz0 hz1 hz2 rfl (by decide) _ n _ rfl H.out (some ⟨vb,0,none⟩) 1 1 xs rfl hx HX.out (fun h=>by cases h) h1 (by unfold maxLen; omega) (by omega) (Nat.zero_le _) ?_)
 all_goals (
  intro v' w' hown hg hat
  rw [hob] at hg hat
  have HR:Hid (Row w' 0 114 4 v' (n + 1) (insCell f n xs)):=by
   unfold Row
   rw [← HFIN.out]; exact hown
  have HG:=Hid.intro hg
  have HA:=Hid.intro (hat.imp id fun e=>(⟨_,e,Nat.le_refl _⟩:∃ b,v'.ownBlock=some b∧w.heap.size≤b))
  clear hown hg hat
  go_wp2_with fail
  go_ret
  exact ⟨_,rfl,HR.out,HG.out,HA.out⟩)
set_option maxRecDepth 100000 in
set_option maxHeartbeats 4000000 in
theorem insert_shift (n i g cap vb:Nat) (f:Nat→Value) (xs:List Value) (hx:xs.length=4) (w:World) (h:Row w 0 114 4 (.slice (some ⟨g,0,none⟩) n cap) n f) (hf:∀ q,q < n * 4→(f q).oneCell'=true) (hi:i < n) (hr:n + 1≤cap) (hc63:cap≤9223372036854775807) (hvb:w.heap[vb]? = some (.cells xs.toArray 114 (0,0))) (hne:vb≠g) (h1:∀ u ∈ xs,u.oneCell'=true) :
  Calls Tryz.prog 90 #[.slice (some ⟨g,0,none⟩) n cap,.int .i64 (i:Int),.slice (some ⟨vb,0,none⟩) 1 1] w fun e w'=>e = .returned (.slice (some ⟨g,0,none⟩) (n + 1) cap)∧Row w' 0 114 4 (.slice (some ⟨g,0,none⟩) (n + 1) cap) (n + 1) (insCell f i xs)∧w.grownBy w' (some g):=by
 obtain ⟨i0,hi0,hz0,hz1,hz2⟩:=info_parts' Tryz.info114
 have hsz:(Tryz.prog.info? 114).map (·.size)=some 4:=by rw [hi0]; simp [hz1]
 have hzz:∀ w,(Go.sizeOf 114).run Tryz.prog w = .ok 4 w:=fun w=>by kernel_rfl
 obtain ⟨f1,hs1,hq1⟩:=h.stretch (m:=n + 1) hr
 obtain ⟨cur,hcur⟩:=h.obj (k:=g) rfl
 have hcs:cur.size≠0:=fun e=>by
  have:=h.cell (j:=0) (by omega)
  simp [World.cell?,hcur,Array.eq_empty_of_size_eq_zero e] at this
 have hov:∀ lb cb,(callFunc 119 #[.slice (some ⟨vb,0,none⟩) 1 1,.slice (some ⟨g,(i + 1) * 4,none⟩) lb cb]).run Tryz.prog w = .ok (.value (.bool false)) w:=fun lb cb=>by
  rw [run_callFunc_extern Tryz.func119 (by kernel_rfl) (by kernel_rfl) (by kernel_rfl) (e:=Extern.SlicesOverlaps.overlaps #[77,77] #[4]) (by kernel_rfl),
   Lib.run_overlaps_apart w 77 4 114 Tryz.underlying77 4 hzz ⟨vb,0,none⟩ ⟨g,(i + 1) * 4,none⟩ 1 1 lb cb hne 114 114 xs.toArray.size cur.size (by simp [World.shape?,hvb]) (by simp [World.shape?,hcur]) hcs (by simp [World.frozen?,hvb]) (by simp [World.frozen?,hvb])]
  rfl
 obtain ⟨news,hnews⟩:∃ news,news=(List.range ((n - i) * 4)).map (fun q=>f (i * 4 + q)):=⟨_,rfl⟩
 have hlen:news.length=(n - i) * 4:=by rw [hnews]; simp
 have hget:∀ q,q < (n - i) * 4→news[q]? = some (f (i * 4 + q)):=fun q hq=>by rw [hnews]; simp [hq]
 have hcp1:∀ ty dc sc,(Builtin.copy_ #[77,77] ty #[.slice (some ⟨g,(i + 1) * 4,none⟩) (n - i) dc,.slice (some ⟨g,i * 4,none⟩) (n + 1 - i) sc]).run Tryz.prog w.drew = .ok (goInt (Nat.min (n + 1 - i) (n - i))) (w.drew.setCells g ((i + 1) * 4) news):=fun ty dc sc =>
  run_copy_n w.drew _ _ ty 114 4 g ((i + 1) * 4) _ dc ⟨g,i * 4,none⟩ _ sc news Tryz.underlying77 hsz (by rw [hlen]; congr 1; simp only [Nat.min_def]; split <;> omega)
   (fun j u hj=>by
    have hjl:j < (n - i) * 4:=by have:=(List.getElem?_eq_some_iff.1 hj).1; rwa [hlen] at this
    rw [hget j hjl] at hj
    rw [WideShapes.add_plain]
    exact (h.cell (j:=i * 4 + j) (by omega)).trans hj)
   (fun j hj=>by rw [hlen] at hj; show (w.cell? _).isSome=true; rw [hs1.cell (j:=(i + 1) * 4 + j) (by omega)]; rfl) (fun j _=>hs1.free _)
   (fun u hu=>by
    rw [hnews] at hu
    obtain ⟨q,hq,rfl⟩:=List.mem_map.1 hu
    have:q < (n - i) * 4:=by simpa using hq
    exact hf _ (by omega))
 have hd:Row w.drew 0 114 4 (.slice (some ⟨g,0,none⟩) (n + 1) cap) (n + 1) f1:=hs1.at fun k _=>rfl
 have hins:=(Row.inserted hd hi hx (fun q hq=>hq1 q (by omega)) hget).1
 obtain ⟨W1,hW1⟩:∃ W1,W1=w.drew.setCells g ((i + 1) * 4) news:=⟨_,rfl⟩
 rw [← hW1] at hcp1 hins
 obtain ⟨f2,hr2,-,-,-,hg2⟩:=Row.setCells news w.drew f1 ((i + 1) * 4) hd
 rw [← hW1] at hr2 hg2
 have hvb2:W1.heap[vb]? = some (.cells xs.toArray 114 (0,0)):=(hg2.block vb (lt_of_block hvb) (fun e=>hne (by cases e; rfl))).trans hvb
 have hcp2:∀ ty dc,(Builtin.copy_ #[77,77] ty #[.slice (some ⟨g,i * 4,none⟩) (n + 1 - i) dc,.slice (some ⟨vb,0,none⟩) 1 1]).run Tryz.prog W1 = .ok (goInt (Nat.min 1 (n + 1 - i))) (W1.setCells g (i * 4) xs):=fun ty dc =>
  run_copy_n W1 _ _ ty 114 4 g (i * 4) _ dc ⟨vb,0,none⟩ _ 1 xs Tryz.underlying77 hsz (by rw [hx,show Nat.min 1 (n + 1 - i)=1 by simp only [Nat.min_def]; split <;> omega])
   (fun j u hj=>by rw [WideShapes.add_plain]; simp [World.cell?,hvb2,hj])
   (fun j hj=>by rw [hr2.cell (j:=i * 4 + j) (by omega)]; rfl) (fun j _=>hr2.free _) h1
 have HI:=Hid.intro hins
 clear h hs1 hd hr2 hg2 hvb hvb2 hins hW1 hnews hlen hget hcur hcs hz0 hz1 hz2 hi0 hsz hzz
 have a1:(0:Int)≤(i:Int):=by omega
 have a2:(i:Int)≤(n:Int):=by omega
 have a3:i≤n:=by omega
 have a4 : ¬ ((i:Int)=(n:Int)):=by omega
 have a5 : ¬ ((cap:Int) < (n:Int) + 1):=by omega
 have a6:(0:Int)≤(n:Int) + 1:=by omega
 have a7:(n:Int) + 1≤(cap:Int):=by omega
 have a8:((n:Int) + 1).toNat=n + 1:=by omega
 have a9:((i:Int) + 1).toNat=i + 1:=by omega
 have hw1:IntKind.i64.wrap ((i:Int) + 1)=(i:Int) + 1:=by rw [IntKind.wrap_i64]; omega
 have b1:(0:Int)≤(i:Int) + 1:=by omega
 have b2:(i:Int) + 1≤(n:Int) + 1:=by omega
 have b3 : ¬ cap=i + 1:=by omega
 have b4 : ¬ cap=i:=by omega
 have b5:(i:Int)≤(n:Int) + 1:=by omega
 go_enter Tryz.func90,Tryz.ntmps90
 go_wp2_with (simp only [hov])
 go_region_law (refine step_copy_n rfl (.tmp 73) (.tmp 76) 77 77 rfl (.slice (some ⟨g,(i + 1) * 4,none⟩) (n - i) (cap - (i + 1))) (.slice (some ⟨g,i * 4,none⟩) (n + 1 - i) (cap - i)) (by simp [Act.eval,Act.put]) (by simp [Act.eval,Act.put]) (hcp1 _ _ _) ?_)
 go_wp2_with (at_builtin; refine wpList_copy_n _ rfl _ _ 77 77 rfl _ _ rfl rfl (hcp2 _ _) ?_)
 go_ret
 exact ⟨rfl,HI.out.1,⟨HI.out.2.os,HI.out.2.tape,HI.out.2.output,HI.out.2.size,HI.out.2.block⟩⟩
set_option maxRecDepth 100000 in
set_option maxHeartbeats 4000000 in
theorem insert_grow (n i g cap vb:Nat) (f:Nat→Value) (xs:List Value) (hx:xs.length=4) (w:World) (h:Row w 0 114 4 (.slice (some ⟨g,0,none⟩) n cap) n f) (hf:∀ q,q < n * 4→(f q).oneCell'=true) (hi:i < n) (hm:n≤1000) (hr:cap < n + 1) (hvb:w.heap[vb]? = some (.cells xs.toArray 114 (0,0))) (h1:∀ u ∈ xs,u.oneCell'=true) :
  Calls Tryz.prog 90 #[.slice (some ⟨g,0,none⟩) n cap,.int .i64 (i:Int),.slice (some ⟨vb,0,none⟩) 1 1] w fun e w' => ∃ c',e = .returned (.slice (some ⟨w.heap.size,0,none⟩) (n + 1) c')∧Row w' 0 114 4 (.slice (some ⟨w.heap.size,0,none⟩) (n + 1) c') (n + 1) (insCell f i xs)∧w.grownBy w' (some g):=by
 obtain ⟨i0,hi0,hz0,hz1,hz2⟩:=info_parts' Tryz.info114
 have hsz:(Tryz.prog.info? 114).map (·.size)=some 4:=by rw [hi0]; simp [hz1]
 have hnc:n≤cap:=by
  obtain ⟨_,_,e,hc⟩:=h.slice
  cases e; exact hc
 have hcn:cap=n:=by omega
 subst hcn
 have hgw:g < w.heap.size:=(h.lt (k:=g) rfl).2
 have hvw:vb < w.heap.size:=lt_of_block hvb
 obtain ⟨olds,holds⟩:∃ olds,olds=(List.range (i * 4)).map f:=⟨_,rfl⟩
 have hol:olds.length=i * 4:=by rw [holds]; simp
 have hold:(Builtin.firstCells i0.size i (.slice (some ⟨g,0,none⟩) i cap)).run Tryz.prog w.drew = .ok olds.toArray w.drew:=by
  rw [hz1]
  exact run_firstCells_some w.drew 4 i ⟨g,0,none⟩ i cap olds hol (fun j u hj=>by
   have hjl:j < i * 4:=by have:=(List.getElem?_eq_some_iff.1 hj).1; rwa [hol] at this
   rw [holds,List.getElem?_map,List.getElem?_range hjl] at hj
   rw [WideShapes.add_plain,Nat.zero_add]
   exact (h.cell (j:=j) (by omega)).trans hj)
 obtain ⟨G,hG⟩:∃ G,G=grownCap w (cap + 1) cap 114:=⟨_,rfl⟩
 obtain ⟨ROW,hROW⟩:∃ ROW:Array Value,ROW=olds.toArray ++ Builtin.zeroCells (Value.agg #[.string ⟨#[]⟩,.slice none 0 0,.slice none 0 0,.slice none 0 0]).cells (cap + 1 - i) ++ Builtin.zeroCells (Value.agg #[.string ⟨#[]⟩,.slice none 0 0,.slice none 0 0,.slice none 0 0]).cells (G - (cap + 1)):=⟨_,rfl⟩
 have hrz:∀ ty,(Builtin.append_ #[77,3] ty #[.slice (some ⟨g,0,none⟩) i cap,.int .i64 ((cap:Int) + 1 - (i:Int))]).run Tryz.prog w = .ok (.slice (some ⟨w.heap.size,0,none⟩) (cap + 1) G) (w.drew.alloc (.cells ROW 114)):=fun ty=>by
  have hik:i + (cap + 1 - i)=cap + 1:=by omega
  have h':=Lib.run_append_grow_zeros w 77 3 ty 114 i0 _ .i64 .i64 Tryz.underlying77 Tryz.underlying3 hi0 hz0 (some ⟨g,0,none⟩) i cap olds hold (cap + 1 - i) (by omega) (by omega) (by omega) (by omega) (by rw [hz2]; omega) (by rw [hz2,hik]; exact growslice_fits (by omega) (by omega))
  rw [hik,← hG,← hROW] at h'
  rw [show (cap:Int) + 1 - (i:Int)=((cap + 1 - i:Nat):Int) by omega]
  exact h'
 have hGn:cap + 1≤G:=by rw [hG]; exact grownCap_ge w _ _ _
 have hGm:G≤maxLen:=by rw [hG]; exact grownCap_le_maxLen w _ _ _ (by unfold maxLen; omega)
 have hRl:ROW.size=G * 4:=by
  rw [hROW]
  simp only [Array.size_append,List.size_toArray,hol,Builtin.zeroCells,Array.size_map,Array.size_range,Value.cells]
  simp
  omega
 have hRg:∀ q,q < i * 4→ROW.toList[q]? = some (f q):=fun q hq=>by
  rw [hROW]
  simp only [Array.toList_append,List.append_assoc]
  rw [List.getElem?_append_left (by simpa [hol] using hq),holds]
  simp [hq]
 obtain ⟨W1,hW1⟩:∃ W1,W1=w.drew.alloc (.cells ROW 114):=⟨_,rfl⟩
 have hrow:∃ f1,Row W1 0 114 4 (.slice (some ⟨w.heap.size,0,none⟩) (cap + 1) G) (cap + 1) f1∧∀ q,q < i * 4→f1 q=f q:=by
  refine ⟨fun q=>(ROW.toList[q]?).getD undef,⟨by simp,.inr ⟨w.heap.size,G,ROW,rfl,Nat.zero_le _,by rw [hW1]; exact heap_alloc_new w.drew _,hGn,hGm,hRl,?_⟩⟩,fun q hq=>by show (ROW.toList[q]?).getD undef=f q; rw [hRg q hq]; rfl⟩
  have hle:(cap + 1) * 4≤ROW.toList.length:=by rw [Array.length_toList,hRl]; omega
  apply List.ext_getElem?
  intro q
  rw [List.getElem?_take,List.getElem?_map]
  by_cases hq:q < (cap + 1) * 4
  ·have hl:q < ROW.toList.length:=by omega
   rw [if_pos hq,List.getElem?_range hq]
   show ROW.toList[q]? = some ((ROW.toList[q]?).getD undef)
   rw [List.getElem?_eq_getElem hl]; rfl
  ·have hr':(List.range ((cap + 1) * 4))[q]? = none:=List.getElem?_eq_none (by rw [List.length_range]; omega)
   rw [if_neg hq,hr']; rfl
 obtain ⟨f1,hd1,hq1⟩:=hrow
 have hgr1:w.grownBy W1 (some g):=⟨by rw [hW1]; rfl,by rw [hW1]; rfl,by rw [hW1]; rfl,by rw [hW1]; have h0:=(below1 w.drew (Obj.cells ROW 114)).size; exact h0,fun k hk _=>by rw [hW1]; exact Below.heap_alloc w.drew _ _ hk⟩
 obtain ⟨news,hnews⟩:∃ news,news=(List.range ((cap - i) * 4)).map (fun q=>f (i * 4 + q)):=⟨_,rfl⟩
 have hlen:news.length=(cap - i) * 4:=by rw [hnews]; simp
 have hget:∀ q,q < (cap - i) * 4→news[q]? = some (f (i * 4 + q)):=fun q hq=>by rw [hnews]; simp [hq]
 have hsrc:∀ (W:World),W.heap[g]? = w.heap[g]?→∀ j u,news[j]? = some u→W.cell? ((⟨g,i * 4,none⟩:Addr).add j)=some u:=fun W hWg j u hj=>by
  have hjl:j < (cap - i) * 4:=by have:=(List.getElem?_eq_some_iff.1 hj).1; rwa [hlen] at this
  rw [hget j hjl] at hj
  rw [WideShapes.add_plain]
  exact ((World.cell?_of_block (a:=⟨g,i * 4 + j,none⟩) hWg).trans (h.cell (j:=i * 4 + j) (by omega))).trans hj
 have hone:∀ u ∈ news,u.oneCell'=true:=fun u hu=>by
  rw [hnews] at hu
  obtain ⟨q,hq,rfl⟩:=List.mem_map.1 hu
  have:q < (cap - i) * 4:=by simpa using hq
  exact hf _ (by omega)
 have hvb1:W1.heap[vb]? = some (.cells xs.toArray 114 (0,0)):=by rw [hW1]; exact (Below.heap_alloc w.drew _ _ hvw).trans hvb
 have hg1:W1.heap[g]? = w.heap[g]?:=by rw [hW1]; exact Below.heap_alloc w.drew _ _ hgw
 have hcpA:∀ ty dc,(Builtin.copy_ #[77,77] ty #[.slice (some ⟨w.heap.size,i * 4,none⟩) (cap + 1 - i) dc,.slice (some ⟨vb,0,none⟩) 1 1]).run Tryz.prog W1 = .ok (goInt (Nat.min 1 (cap + 1 - i))) (W1.setCells w.heap.size (i * 4) xs):=fun ty dc =>
  run_copy_n W1 _ _ ty 114 4 w.heap.size (i * 4) _ dc ⟨vb,0,none⟩ _ 1 xs Tryz.underlying77 hsz (by rw [hx,show Nat.min 1 (cap + 1 - i)=1 by simp only [Nat.min_def]; split <;> omega])
   (fun j u hj=>by rw [WideShapes.add_plain]; simp [World.cell?,hvb1,hj])
   (fun j hj=>by rw [hd1.cell (j:=i * 4 + j) (by omega)]; rfl) (fun j _=>hd1.free _) h1
 obtain ⟨f2,hr2,-,-,-,hg2⟩:=Row.setCells xs W1 f1 (i * 4) hd1
 have hins:=(Row.inserted hd1 hi hx hq1 hget).2
 obtain ⟨W2,hW2⟩:∃ W2,W2=W1.setCells w.heap.size (i * 4) xs:=⟨_,rfl⟩
 rw [← hW2] at hcpA hins hr2 hg2
 have hg2':W2.heap[g]? = w.heap[g]?:=(hg2.block g (Nat.lt_of_lt_of_le hgw hgr1.size) (fun e=>by cases e; omega)).trans hg1
 have hcpB:∀ ty dc sc,(Builtin.copy_ #[77,77] ty #[.slice (some ⟨w.heap.size,(i + 1) * 4,none⟩) (cap - i) dc,.slice (some ⟨g,i * 4,none⟩) (cap - i) sc]).run Tryz.prog W2.drew = .ok (goInt (Nat.min (cap - i) (cap - i))) (W2.drew.setCells w.heap.size ((i + 1) * 4) news):=fun ty dc sc =>
  run_copy_n W2.drew _ _ ty 114 4 w.heap.size ((i + 1) * 4) _ dc ⟨g,i * 4,none⟩ _ sc news Tryz.underlying77 hsz (by rw [hlen]; congr 1; simp only [Nat.min_def]; split <;> omega)
   (hsrc W2.drew hg2') (fun j hj=>by rw [hlen] at hj; show (W2.cell? _).isSome=true; rw [hr2.cell (j:=(i + 1) * 4 + j) (by omega)]; rfl) (fun j _=>hr2.free _) hone
 obtain ⟨W3,hW3⟩:∃ W3,W3=W2.drew.setCells w.heap.size ((i + 1) * 4) news:=⟨_,rfl⟩
 have hW3':∀ k:Nat,W3.heap[k]? = (W2.setCells w.heap.size ((i + 1) * 4) news).heap[k]?:=fun k=>by rw [hW3,show W2.drew.setCells w.heap.size ((i + 1) * 4) news=(W2.setCells w.heap.size ((i + 1) * 4) news).drew from (setCells_drew _ _ _ _)]; rfl
 rw [← hW3] at hcpB
 rw [← hW1] at hrz
 have HI:Hid (Row W3 0 114 4 (.slice (some ⟨w.heap.size,0,none⟩) (cap + 1) G) (cap + 1) (insCell f i xs)∧w.grownBy W3 (some g)):=by
  refine ⟨hins.1.at fun k _=>hW3' k,?_⟩
  have hgg:=grown_fresh hgr1 hins.2 (Nat.le_refl _)
  rw [hW3,show W2.drew.setCells w.heap.size ((i + 1) * 4) news=(W2.setCells w.heap.size ((i + 1) * 4) news).drew from (setCells_drew _ _ _ _)]
  exact ⟨hgg.os,hgg.tape,hgg.output,hgg.size,hgg.block⟩
 clear h hd1 hr2 hg2 hvb hvb1 hins hW1 hW2 hW3 hW3' hnews hlen hget hsz hz0 hz1 hz2 hi0 hold hol holds hROW hRl hRg hgr1 hg1 hg2' hsrc hone hG
 have a1:(0:Int)≤(i:Int):=by omega
 have a2:(i:Int)≤(cap:Int):=by omega
 have a3:i≤cap:=by omega
 have a4 : ¬ ((i:Int)=(cap:Int)):=by omega
 have a5:(cap:Int) < (cap:Int) + 1:=by omega
 have a9:((i:Int) + 1).toNat=i + 1:=by omega
 have hw1:IntKind.i64.wrap ((i:Int) + 1)=(i:Int) + 1:=by rw [IntKind.wrap_i64]; omega
 have b1:(0:Int)≤(i:Int) + 1:=by omega
 have b2:(i:Int) + 1≤(cap:Int) + 1:=by omega
 have b3 : ¬ G=i + 1:=by omega
 have b4 : ¬ G=i:=by omega
 have b6 : ¬ cap=i:=by omega
 have b5:(i:Int)≤(cap:Int) + 1:=by omega
 have b7:G≤9223372036854775807:=hGm
 go_enter Tryz.func90,Tryz.ntmps90
 go_wp2_with (first
  | (at_builtin; refine Lib.wpList_append_run _ rfl _ _ _ _ rfl _ _ rfl rfl _ _ (hrz _) ?_)
  | (at_builtin; refine wpList_copy_n _ rfl _ _ 77 77 rfl _ _ rfl rfl (hcpA _ _) ?_))
 go_region_law (refine step_copy_n rfl (.tmp 50) (.tmp 53) 77 77 rfl (.slice (some ⟨w.heap.size,(i + 1) * 4,none⟩) (cap - i) (G - (i + 1))) (.slice (some ⟨g,i * 4,none⟩) (cap - i) (cap - i)) (by simp [Act.eval,Act.put]) (by simp [Act.eval,Act.put]) (hcpB _ _ _) ?_)
 go_wp2
 go_ret
 exact ⟨G,rfl,HI.out.1,HI.out.2⟩
theorem insert_any (n i vb:Nat) (v:Value) (f:Nat→Value) (xs:List Value) (hx:xs.length=4) (w:World) (h:Row w 0 114 4 v n f) (hf:∀ q,q < n * 4→(f q).oneCell'=true) (hi:i≤n) (hm:n≤1000) (hvb:w.heap[vb]? = some (.cells xs.toArray 114 (0,0))) (hne:v.ownBlock≠some vb) (h1:∀ u ∈ xs,u.oneCell'=true) :
  Calls Tryz.prog 90 #[v,.int .i64 (i:Int),.slice (some ⟨vb,0,none⟩) 1 1] w fun e w' => ∃ v',e = .returned v'∧Row w' 0 114 4 v' (n + 1) (insCell f i xs)∧w.grownBy w' v.ownBlock∧(v'.ownBlock=v.ownBlock∨∃ b,v'.ownBlock=some b∧w.heap.size≤b):=by
 by_cases hin:i=n
 ·rw [hin]; exact insert_end n vb v f xs hx w h hm hvb h1
 ·rcases h.shape with ⟨-,h0⟩ | ⟨g,cap,rfl,-,hc,hcm⟩
  ·omega
  ·by_cases hr:n + 1≤cap
   ·refine (insert_shift n i g cap vb f xs hx w h hf (by omega) hr hcm hvb (fun e=>hne (by rw [e]; rfl)) h1).mono fun e w' hh=>?_
    exact ⟨_,hh.1,hh.2.1,hh.2.2,.inl rfl⟩
   ·refine (insert_grow n i g cap vb f xs hx w h hf (by omega) hm (by omega) hvb h1).mono fun e w' hh=>?_
    obtain ⟨c',q1,q2,q3⟩:=hh
    exact ⟨_,q1,q2,q3,.inr ⟨_,rfl,Nat.le_refl _⟩⟩
end Go.Proofs.YtjjggefmmeminacGreat
