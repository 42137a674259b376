import Derived.Test.YtjjggefmmeminacGreatJPl
import Derived.Deep.RegionLaw
import Derived.Lib.SliceRun
import Derived.Test.YtjjggefmmeminacGreatJBase
import Derived.Deep.RegionWith
namespace Go.Proofs.YtjjggefmmeminacGreat
open Go.RowKit Go.Sort
theorem Row.setCells {base e size n g cap:Nat} : ∀ (vs:List Value) (w:World) (f:Nat→Value) (o:Nat),Row w base e size (.slice (some ⟨g,0,none⟩) n cap) n f →
  ∃ f',Row (w.setCells g o vs) base e size (.slice (some ⟨g,0,none⟩) n cap) n f'∧(∀ q,q < o→f' q=f q)∧(∀ q,o + vs.length≤q→f' q=f q)∧(∀ j u,vs[j]? = some u→f' (o + j)=u)∧w.grownBy (w.setCells g o vs) (some g)
 | [],w,f,o,h=>⟨f,h,fun _ _=>rfl,fun _ _=>rfl,fun j u hu=>by simp at hu,⟨rfl,rfl,rfl,Nat.le_refl _,fun _ _ _=>rfl⟩⟩
 | v :: r,w,f,o,h=>by
  obtain ⟨f',h1,h2,h3,h4,h5⟩:=Row.setCells r _ _ (o + 1) (h.set o v)
  have hg:=(World.ownsRow.stored h o v).2
  refine ⟨f',h1,fun q hq=>?_,fun q hq=>?_,fun j u hu=>?_,⟨h5.os.trans hg.os,h5.tape.trans hg.tape,h5.output.trans hg.output,Nat.le_trans hg.size h5.size,fun k hk hne=>(h5.block k (Nat.lt_of_lt_of_le hk hg.size) hne).trans (hg.block k hk hne)⟩⟩
  ·rw [h2 q (by omega),if_neg (by omega)]
  ·simp at hq
   rw [h3 q (by omega),if_neg (by omega)]
  ·cases j with
   | zero =>
    simp at hu
    subst hu
    rw [Nat.add_zero,h2 o (by omega),if_pos rfl]
   | succ j =>
    have:=h4 j u (by simpa using hu)
    rw [show o + (j + 1)=o + 1 + j by omega]; exact this
theorem Row.cut {w:World} {base e size n m g cap:Nat} {f : Nat→Value} (h:Row w base e size (.slice (some ⟨g,0,none⟩) n cap) n f) (hm:m≤n):Row w base e size (.slice (some ⟨g,0,none⟩) m cap) m f:=by
 refine ⟨by simp,?_⟩
 rcases h.2 with ⟨h',_⟩ | ⟨g',cap',cur,h',hb,hg,hnc,hcm,hcs,htake⟩
 ·simp at h'
 ·cases h'
  refine .inr ⟨g,cap,cur,rfl,hb,hg,Nat.le_trans hm hnc,hcm,hcs,?_⟩
  have hle:m * size≤n * size:=Nat.mul_le_mul_right _ hm
  have e:cur.toList.take (m * size)=(cur.toList.take (n * size)).take (m * size):=by rw [List.take_take,Nat.min_eq_left hle]
  rw [e,htake]
  apply List.ext_getElem?
  intro i
  rw [List.getElem?_take]
  by_cases hi:i < m * size
  ·rw [if_pos hi,List.getElem?_map,List.getElem?_map,List.getElem?_range (by omega),List.getElem?_range (by omega)]
  ·have hr:(List.range (m * size))[i]? = none:=List.getElem?_eq_none (by rw [List.length_range]; omega)
   rw [if_neg hi,List.getElem?_map,hr]; rfl
theorem skip_cell {i size q:Nat} (hs:0 < size):(if q < i * size then q else q + size) / size=skip i (q / size)∧(if q < i * size then q else q + size) % size=q % size:=by
 unfold skip
 by_cases h:q < i * size
 ·rw [if_pos h,if_pos ((Nat.div_lt_iff_lt_mul hs).2 h)]; exact ⟨rfl,rfl⟩
 ·rw [if_neg h,if_neg (fun h'=>h ((Nat.div_lt_iff_lt_mul hs).1 h'))]
  exact ⟨Nat.add_div_right _ hs,Nat.add_mod_right _ _⟩
theorem Row.deleted {w:World} {base e size n g cap i:Nat} {f : Nat→Value} {news zs:List Value} (h:Row w base e size (.slice (some ⟨g,0,none⟩) n cap) n f) (hi:i < n) (hn:∀ q,q < (n - (i + 1)) * size→news[q]? = some (f ((i + 1) * size + q))) :
  Row ((w.setCells g (i * size) news).setCells g ((n - 1) * size) zs) base e size (.slice (some ⟨g,0,none⟩) (n - 1) cap) (n - 1) (fun q=>f (if q < i * size then q else q + size))∧w.grownBy ((w.setCells g (i * size) news).setCells g ((n - 1) * size) zs) (some g):=by
 obtain ⟨f1,h1,a1,a2,a3,a4⟩:=Row.setCells news w f (i * size) h
 obtain ⟨f2,h2,b1,b2,b3,b4⟩:=Row.setCells zs _ f1 ((n - 1) * size) h1
 refine ⟨(h2.cut (by omega)).congr fun q hq=>?_,⟨b4.os.trans a4.os,b4.tape.trans a4.tape,b4.output.trans a4.output,Nat.le_trans a4.size b4.size,fun k hk hne=>(b4.block k (Nat.lt_of_lt_of_le hk a4.size) hne).trans (a4.block k hk hne)⟩⟩
 rw [b1 q hq]
 by_cases hqi:q < i * size
 ·rw [if_pos hqi,a1 q hqi]
 ·rw [if_neg hqi]
  have hq2:q - i * size < (n - (i + 1)) * size:=by
   have:(n - 1) * size=i * size + (n - (i + 1)) * size:=by rw [← Nat.add_mul]; congr 1; omega
   omega
  have:=a3 (q - i * size) _ (hn _ hq2)
  rw [show i * size + (q - i * size)=q by omega] at this
  rw [this]
  congr 1
  rw [Nat.add_mul]; omega
theorem Tryz.info66:(Tryz.prog.info? 66).map (fun i=>(i.zero,i.size,i.bytes))=some (some (.agg #[.string ⟨#[]⟩,.int .i64 0,.string ⟨#[]⟩]),3,40):=by kernel_rfl
theorem Tryz.zero66:∀ w,(zeroValue 66).run Tryz.prog w = .ok (.agg #[.string ⟨#[]⟩,.int .i64 0,.string ⟨#[]⟩]) w:=fun w=>by kernel_rfl
theorem Tryz.zero9:∀ w,(zeroValue 9).run Tryz.prog w = .ok (.string ⟨#[]⟩) w:=fun w=>by kernel_rfl
theorem run_clear_one (w:World) (t e ty:TypeId) (z:Value) (zs:List Value) (ht:Tryz.prog.underlying t=some (.slice e)) (hv:∀ w,(zeroValue e).run Tryz.prog w = .ok z w) (hz:(Builtin.zeroCells z.cells 1).toList=zs) (h1:∀ u ∈ zs,u.oneCell'=true) (b o c:Nat)
  (hc:∀ j,j < zs.length→(w.cell? ⟨b,o + j,none⟩).isSome=true) (hf:∀ j,j < zs.length→w.frozen? ⟨b,o + j,none⟩=false) :
  (Builtin.clear_ #[t] ty #[.slice (some ⟨b,o,none⟩) 1 c]).run Tryz.prog w = .ok (.tuple #[]) (w.setCells b o zs):=by
 have hst:=run_storeCells_cells (P:=Tryz.prog) b o zs 0 w (by simpa using hc) (by simpa using hf) h1
 simp only [Nat.add_zero] at hst
 simp [Builtin.clear_,run_underlying ht,hv,hz,hst]
set_option maxRecDepth 100000 in
set_option maxHeartbeats 1000000 in
theorem delete_fields (base n i g cap:Nat) (f:Nat→Value) (w:World) (h:Row w base 66 3 (.slice (some ⟨g,0,none⟩) n cap) n f) (hf:∀ q,q < n * 3→(f q).oneCell'=true) (hi:i < n) (hm:n≤maxLen) :
  Calls Tryz.prog 137 #[.slice (some ⟨g,0,none⟩) n cap,.int .i64 (i:Int),.int .i64 ((i:Int) + 1)] w fun e w'=>e = .returned (.slice (some ⟨g,0,none⟩) (n - 1) cap)∧Row w' base 66 3 (.slice (some ⟨g,0,none⟩) (n - 1) cap) (n - 1) (fun q=>f (if q < i * 3 then q else q + 3))∧w.grownBy w' (some g):=by
 obtain ⟨i0,hi0,hz0,hz1,hz2⟩:=info_parts' Tryz.info66
 have hcap:n≤cap:=by
  rcases h.shape with ⟨h',_⟩ | ⟨g',c',h',_,hc,_⟩
  ·cases h'
  ·cases h'; exact hc
 have hm':n≤9223372036854775807:=hm
 obtain ⟨news,hnews⟩:∃ news,news=(List.range ((n - (i + 1)) * 3)).map (fun q=>f ((i + 1) * 3 + q)):=⟨_,rfl⟩
 have hlen:news.length=(n - (i + 1)) * 3:=by rw [hnews]; simp
 have hget:∀ q,q < (n - (i + 1)) * 3→news[q]? = some (f ((i + 1) * 3 + q)):=fun q hq=>by rw [hnews]; simp [hq]
 obtain ⟨A,hA,hsrc⟩:∃ A:Addr,(if cap=i + 1 then some (⟨g,0,none⟩:Addr) else some ⟨g,(i + 1) * 3,none⟩)=some A∧Hid (∀ t u,news[t]? = some u→w.drew.cell? (A.add t)=some u):=by
  by_cases hc:cap=i + 1
  ·refine ⟨⟨g,0,none⟩,by simp [hc],fun t u hu=>?_⟩
   have h0:news.length=0:=by rw [hlen]; omega
   rw [List.length_eq_zero_iff.1 h0] at hu
   simp at hu
  ·refine ⟨⟨g,(i + 1) * 3,none⟩,by simp [hc],fun t u hu=>?_⟩
   have ht:t < (n - (i + 1)) * 3:=by
    have:=(List.getElem?_eq_some_iff.1 hu).1
    rwa [hlen] at this
   rw [hget t ht] at hu
   rw [WideShapes.add_plain]
   exact (h.cell (j:=(i + 1) * 3 + t) (by omega)).trans hu
 have s1:Hid (news.length=(n - (i + 1)) * 3):=hlen
 have s2:Hid (∀ u ∈ news,u.oneCell'=true):=by
  intro u hu
  rw [hnews] at hu
  obtain ⟨q,hq,rfl⟩:=List.mem_map.1 hu
  have:q < (n - (i + 1)) * 3:=by simpa using hq
  exact hf _ (by omega)
 have s3:Hid (∀ t,t < news.length→(w.drew.cell? ⟨g,0 + i * 3 + t,none⟩).isSome=true∧w.drew.frozen? ⟨g,0 + i * 3 + t,none⟩=false):=by
  intro t ht
  rw [hlen] at ht
  rw [Nat.zero_add]
  exact ⟨by show (w.cell? _).isSome=true; rw [h.cell (j:=i * 3 + t) (by omega)]; rfl,h.free _⟩
 have hd:Row w.drew base 66 3 (.slice (some ⟨g,0,none⟩) n cap) n f:=h.at fun k _=>rfl
 obtain ⟨W1,hW1⟩:∃ W1,W1=w.drew.setCells g (0 + i * 3) news:=⟨_,rfl⟩
 have hW:Hid (W1=w.drew.setCells g (0 + i * 3) news):=hW1
 obtain ⟨f1,q1,-⟩:=Row.setCells news w.drew f (0 + i * 3) hd
 rw [← hW1] at q1
 have hcl:∀ ty,(Builtin.clear_ #[68] ty #[.slice (some ⟨g,(i + (n - (i + 1))) * 3,none⟩) (n - (i + (n - (i + 1)))) (cap - (i + (n - (i + 1))))]).run Tryz.prog W1 = .ok (.tuple #[]) (W1.setCells g ((n - 1) * 3) [.string ⟨#[]⟩,.int .i64 0,.string ⟨#[]⟩]):=by
  intro ty
  rw [show i + (n - (i + 1))=n - 1 by omega,show n - (n - 1)=1 by omega]
  exact run_clear_one W1 _ _ ty _ _ Tryz.underlying68 Tryz.zero66 (by kernel_rfl) (by intro u hu; simp at hu; rcases hu with rfl | rfl | rfl <;> rfl) g _ _ (fun j hj=>by have hj':j < 3:=hj; rw [q1.cell (j:=(n - 1) * 3 + j) (by omega)]; rfl) (fun j hj=>q1.free _)
 have hend:Hid (Row (W1.setCells g ((n - 1) * 3) [.string ⟨#[]⟩,.int .i64 0,.string ⟨#[]⟩]) base 66 3 (.slice (some ⟨g,0,none⟩) (n - 1) cap) (n - 1) (fun q=>f (if q < i * 3 then q else q + 3))∧w.grownBy (W1.setCells g ((n - 1) * 3) [.string ⟨#[]⟩,.int .i64 0,.string ⟨#[]⟩]) (some g)):=by
  have hh:=Row.deleted (zs:=[.string ⟨#[]⟩,.int .i64 0,.string ⟨#[]⟩]) hd hi hget
  rw [hW1,Nat.zero_add]
  exact ⟨hh.1,⟨hh.2.os,hh.2.tape,hh.2.output,hh.2.size,hh.2.block⟩⟩
 clear h hd q1 hW1 hget hnews hlen
 have hj0:(0:Int)≤(i:Int) + 1:=by omega
 have hj1:(i:Int) + 1≤(n:Int):=by omega
 have hL : ¬ cap=i + (n - (i + 1)):=by omega
 have hic:i≤cap:=by omega
 have hjc:i + 1≤cap:=by omega
 go_enter Tryz.func137,Tryz.ntmps137
 go_wp2_with fail
 go_region_law (refine step_append_room rfl (.tmp 22) (.tmp 25) 68 rfl 66 i0 3 Tryz.underlying68 hi0 hz1 g 0 i cap (by simp [Act.eval,Act.put]) A (n - (i + 1)) (cap - (i + 1)) news (by simp [Act.eval,Act.put]) s1.out hsrc.out s2.out (by omega) s3.out ?_; rw [← hW.out])
 go_wp2
 go_ret
 exact ⟨by rw [show n - 1=i + (n - (i + 1)) by omega]; rfl,hend.out⟩
set_option maxRecDepth 100000 in
set_option maxHeartbeats 1000000 in
theorem delete_texts (base n i g cap:Nat) (f:Nat→Value) (w:World) (h:Row w base 9 1 (.slice (some ⟨g,0,none⟩) n cap) n f) (hf:∀ q,q < n * 1→(f q).oneCell'=true) (hi:i < n) (hm:n≤maxLen) :
  Calls Tryz.prog 138 #[.slice (some ⟨g,0,none⟩) n cap,.int .i64 (i:Int),.int .i64 ((i:Int) + 1)] w fun e w'=>e = .returned (.slice (some ⟨g,0,none⟩) (n - 1) cap)∧Row w' base 9 1 (.slice (some ⟨g,0,none⟩) (n - 1) cap) (n - 1) (fun q=>f (if q < i * 1 then q else q + 1))∧w.grownBy w' (some g):=by
 obtain ⟨i0,hi0,hz0,hz1,hz2⟩:=info_parts' Tryz.info9
 have hcap:n≤cap:=by
  rcases h.shape with ⟨h',_⟩ | ⟨g',c',h',_,hc,_⟩
  ·cases h'
  ·cases h'; exact hc
 have hm':n≤9223372036854775807:=hm
 obtain ⟨news,hnews⟩:∃ news,news=(List.range ((n - (i + 1)) * 1)).map (fun q=>f ((i + 1) * 1 + q)):=⟨_,rfl⟩
 have hlen:news.length=(n - (i + 1)) * 1:=by rw [hnews]; simp
 have hget:∀ q,q < (n - (i + 1)) * 1→news[q]? = some (f ((i + 1) * 1 + q)):=fun q hq=>by rw [hnews,List.getElem?_map,List.getElem?_range hq]; rfl
 obtain ⟨A,hA,hsrc⟩:∃ A:Addr,(if cap=i + 1 then some (⟨g,0,none⟩:Addr) else some ⟨g,i + 1,none⟩)=some A∧Hid (∀ t u,news[t]? = some u→w.drew.cell? (A.add t)=some u):=by
  by_cases hc:cap=i + 1
  ·refine ⟨⟨g,0,none⟩,by simp [hc],fun t u hu=>?_⟩
   have h0:news.length=0:=by rw [hlen]; omega
   rw [List.length_eq_zero_iff.1 h0] at hu
   simp at hu
  ·refine ⟨⟨g,i + 1,none⟩,by simp [hc],fun t u hu=>?_⟩
   have ht:t < (n - (i + 1)) * 1:=by
    have:=(List.getElem?_eq_some_iff.1 hu).1
    rwa [hlen] at this
   rw [hget t ht] at hu
   rw [WideShapes.add_plain]
   rw [← Nat.mul_one (i + 1)]; exact (h.cell (j:=(i + 1) * 1 + t) (by omega)).trans hu
 have s1:Hid (news.length=(n - (i + 1)) * 1):=hlen
 have s2:Hid (∀ u ∈ news,u.oneCell'=true):=by
  intro u hu
  rw [hnews] at hu
  obtain ⟨q,hq,rfl⟩:=List.mem_map.1 hu
  have:q < (n - (i + 1)) * 1:=by simpa using hq
  exact hf _ (by omega)
 have s3:Hid (∀ t,t < news.length→(w.drew.cell? ⟨g,0 + i * 1 + t,none⟩).isSome=true∧w.drew.frozen? ⟨g,0 + i * 1 + t,none⟩=false):=by
  intro t ht
  rw [hlen] at ht
  rw [Nat.zero_add]
  exact ⟨by show (w.cell? _).isSome=true; rw [h.cell (j:=i * 1 + t) (by omega)]; rfl,h.free _⟩
 have hd:Row w.drew base 9 1 (.slice (some ⟨g,0,none⟩) n cap) n f:=h.at fun k _=>rfl
 obtain ⟨W1,hW1⟩:∃ W1,W1=w.drew.setCells g (0 + i * 1) news:=⟨_,rfl⟩
 have hW:Hid (W1=w.drew.setCells g (0 + i * 1) news):=hW1
 obtain ⟨f1,q1,-⟩:=Row.setCells news w.drew f (0 + i * 1) hd
 rw [← hW1] at q1
 have hcl:∀ ty,(Builtin.clear_ #[33] ty #[.slice (some ⟨g,i + (n - (i + 1)),none⟩) (n - (i + (n - (i + 1)))) (cap - (i + (n - (i + 1))))]).run Tryz.prog W1 = .ok (.tuple #[]) (W1.setCells g ((n - 1) * 1) [.string ⟨#[]⟩]):=by
  intro ty
  rw [show i + (n - (i + 1))=(n - 1) * 1 by omega,show n - (n - 1) * 1=1 by omega]
  exact run_clear_one W1 _ _ ty _ _ Tryz.underlying33 Tryz.zero9 (by kernel_rfl) (by intro u hu; simp at hu; subst hu; rfl) g _ _ (fun j hj=>by have hj':j < 1:=hj; rw [q1.cell (j:=(n - 1) * 1 + j) (by omega)]; rfl) (fun j hj=>q1.free _)
 have hend:Hid (Row (W1.setCells g ((n - 1) * 1) [.string ⟨#[]⟩]) base 9 1 (.slice (some ⟨g,0,none⟩) (n - 1) cap) (n - 1) (fun q=>f (if q < i * 1 then q else q + 1))∧w.grownBy (W1.setCells g ((n - 1) * 1) [.string ⟨#[]⟩]) (some g)):=by
  have hh:=Row.deleted (zs:=[.string ⟨#[]⟩]) hd hi hget
  rw [hW1,Nat.zero_add]
  exact ⟨hh.1,⟨hh.2.os,hh.2.tape,hh.2.output,hh.2.size,hh.2.block⟩⟩
 clear h hd q1 hW1 hget hnews hlen
 have hj0:(0:Int)≤(i:Int) + 1:=by omega
 have hj1:(i:Int) + 1≤(n:Int):=by omega
 have hL : ¬ cap=i + (n - (i + 1)):=by omega
 have hic:i≤cap:=by omega
 have hjc:i + 1≤cap:=by omega
 go_enter Tryz.func138,Tryz.ntmps138
 go_wp2_with fail
 go_region_law (refine step_append_room rfl (.tmp 22) (.tmp 25) 33 rfl 9 i0 1 Tryz.underlying33 hi0 hz1 g 0 i cap (by simp [Act.eval,Act.put]) A (n - (i + 1)) (cap - (i + 1)) news (by simp [Act.eval,Act.put]) s1.out hsrc.out s2.out (by omega) s3.out ?_; rw [← hW.out])
 go_wp2
 go_ret
 exact ⟨by rw [show n - 1=i + (n - (i + 1)) by omega]; rfl,by simpa only [Nat.mul_one] using hend.out⟩
end Go.Proofs.YtjjggefmmeminacGreat
namespace Go.Proofs.YtjjggefmmeminacGreat
open Go.RowKit Go.Sort
theorem step_append_any {P:Program} {ops:Array Oper} {o:Oper} {a:Act} {w:World} {K:Act→World→Prop} {Q:Exit→Act→World→Prop} {E:Prop}
  (hgd:o.guard=none) (s x:Operand) (t:TypeId) (ho:o.op=Op.call { callee:=Callee.builtin Builtin.append,args:=#[s,x],argTypes:=#[t,t] })
  (base:Nat) (e:TypeId) (i:TypeInfo) (z:Value) (size bytes:Nat) (ht:P.underlying t=some (.slice e)) (hi:P.info? e=some i) (hz:i.zero=some z)
  (hsize:i.size=size) (hby:i.bytes=bytes) (hzs:z.cells.size=size) (hsz:0 < size)
  (v:Value) (n:Nat) (xs:List Value) (hs:a.eval s=v) (hown:w.ownsRow base e size v n xs)
  (src:Option Addr) (m c:Nat) (news:List Value) (hx:a.eval x = .slice src m c) (hl:news.length=m * size) (hnews:∀ ad,src=some ad→∀ j u,news[j]? = some u→w.cell? (ad.add j)=some u) (hnil:src=none→m=0) (h1:∀ u ∈ news,u.oneCell'=true)
  (h63:n + m≤maxLen) (hbytes:(n + m) * bytes≤140737488355328) (hbase:base≤w.heap.size)
  (hK:∀ v' w',w'.ownsRow base e size v' (n + m) (xs ++ news)→w.grownBy w' v.ownBlock→K (a.put o.dst v') w') :
  if Region.wanted o (yielded ops a.tmps)=true then Oper.wp P o a w K Q else E:=by
 have hw:Region.wanted o (yielded ops a.tmps)=true:=by simp [Region.wanted,hgd]
 rw [if_pos hw]
 obtain ⟨v',w',hr,h2,h3,h5⟩:=run_append_any (P:=P) w base t o.type e i z size bytes ht hi hz hsize hby hzs hsz v n xs hown src m c news hl hnews hnil h1 h63 hbytes hbase
 unfold Oper.wp
 simp [execOp,ho,resolve,invoke,builtin,hs,hx,hr,Result.andThen]
 exact hK v' w' h2 h3
theorem FieldsAt.news {w:World} {a:Option Addr} {n:Nat} {F:Nat→LField} (h:FieldsAt w a n F):∀ ad,a=some ad→∀ j u,((List.range (n * 3)).map (fieldCell F))[j]? = some u→w.cell? (ad.add j)=some u:=by
 intro ad ha j u hu
 by_cases hj:j < n * 3
 ·rw [List.getElem?_map,List.getElem?_range hj] at hu
  injection hu with hu
  subst hu
  obtain ⟨b,o,ha',h0,h1,h2,-⟩:=h.2 (j / 3) (by omega)
  rw [ha] at ha'
  cases ha'
  rw [WideShapes.add_plain]
  unfold fieldCell
  have e:j % 3=0∨j % 3=1∨j % 3=2:=by omega
  rcases e with e | e | e
  ·rw [if_pos e,show o + j=o + j / 3 * 3 by omega]; exact h0
  ·rw [if_neg (by omega),if_pos e,show o + j=o + j / 3 * 3 + 1 by omega]; exact h1
  ·rw [if_neg (by omega),if_neg (by omega),show o + j=o + j / 3 * 3 + 2 by omega]; exact h2
 ·rw [List.getElem?_eq_none (by simp; omega)] at hu
  cases hu
theorem FieldsAt.nil {w:World} {n:Nat} {F:Nat→LField} (h:FieldsAt w none n F):n=0:=by
 rcases Nat.eq_zero_or_pos n with h0 | h0
 ·exact h0
 ·obtain ⟨b,o,e,_⟩:=h.2 0 h0
  cases e
theorem fieldCells_one (F:Nat→LField) (n:Nat):∀ u ∈ (List.range n).map (fieldCell F),u.oneCell'=true:=by
 intro u hu
 obtain ⟨j,-,rfl⟩:=List.mem_map.1 hu
 unfold fieldCell
 split
 ·rfl
 ·split <;> rfl
theorem copy_ne {w w':World} {base e size n k t:Nat} {v:Value} {f : Nat→Value} {c:Array Value} (h:Row w' base e size v n f) (hb:w'.heap[k]? = w.heap[k]?) (hk:w.heap[k]? = some (.cells c t (0,0))) (he:e≠t:=by decide):v.ownBlock≠some k:=fun e'=>h.box_ne e' (hb.trans hk) he rfl
set_option maxRecDepth 100000 in
set_option maxHeartbeats 1000000 in
theorem copyType_any (name:ByteArray) (fa:Option Addr) (nf fcap:Nat) (F:Nat→LField) (w:World) (hF:FieldsAt w fa nf F) (hnf:nf≤1000) :
  Calls Tryz.prog 112 #[.agg #[.string name,.slice fa nf fcap]] w fun e w'=>(∃ a cap,e = .returned (.agg #[.string name,.slice a nf cap])∧nf≤cap∧Row w' w.heap.size 66 3 (.slice a nf cap) nf (fieldCell F))∧Below w.heap.size w w':=by
 obtain ⟨i0,hi,hz0,hz1,hz2⟩:=info_parts' Tryz.info66
 have HF:Hid (FieldsAt w fa nf F):=hF
 clear hF
 go_enter Tryz.func112,Tryz.ntmps112
 go_wp2_with fail
 generalize hW:(w.alloc (Obj.cells #[.string name,.slice fa nf fcap] 70)).alloc (Obj.cells #[.string ⟨#[]⟩,.slice none 0 0] 70)=W
 have hB:Below w.heap.size w W:=by rw [← hW]; exact below2 _ _ _
 have c0:W.cell? ⟨w.heap.size,0,none⟩=some (.string name):=by rw [← hW,World.cell?_alloc_past _ _ _ (by simp),World.cell?_alloc_at _ _ _ _ rfl]; rfl
 have c1:W.cell? ⟨w.heap.size,1,none⟩=some (.slice fa nf fcap):=by rw [← hW,World.cell?_alloc_past _ _ _ (by simp),World.cell?_alloc_at _ _ _ _ rfl]; rfl
 have d0:W.cell? ⟨w.heap.size + 1,0,none⟩=some (.string ⟨#[]⟩):=by rw [← hW,World.cell?_alloc_at _ _ _ _ (by simp)]; rfl
 have d1:W.cell? ⟨w.heap.size + 1,1,none⟩=some (.slice none 0 0):=by rw [← hW,World.cell?_alloc_at _ _ _ _ (by simp)]; rfl
 have z0:W.frozen? ⟨w.heap.size + 1,0,none⟩=false:=by rw [← hW]; exact World.frozen?_alloc_at _ _ _ _ (by simp)
 have z1:W.frozen? ⟨w.heap.size + 1,1,none⟩=false:=by rw [← hW]; exact World.frozen?_alloc_at _ _ _ _ (by simp)
 have hz:w.heap.size + 1 < W.heap.size:=by rw [← hW]; simp
 have hbx:Hid (W.heap[w.heap.size + 1]? = some (.cells #[.string ⟨#[]⟩,.slice none 0 0] 70 (0,0))):=by rw [← hW]; exact (show w.heap.size + 1=(w.alloc (Obj.cells #[.string name,.slice fa nf fcap] 70)).heap.size by simp) ▸ heap_alloc_new _ _
 have HN:Hid (∀ ad,fa=some ad→∀ j u,((List.range (nf * 3)).map (fieldCell F))[j]? = some u→W.drew.cell? (ad.add j)=some u):=(HF.out.kept hB).news
 have HNil:Hid (fa=none→nf=0):=fun h=>by have h2:=HF.out; rw [h] at h2; exact h2.nil
 have HO:Hid (∀ u ∈ (List.range (nf * 3)).map (fieldCell F),u.oneCell'=true):=fieldCells_one F _
 have HB:Hid (Below w.heap.size w W.drew):=hB.drew
 have hend:Hid (∀ (w1:World) (v:Value),w1.ownsRow w.heap.size 66 3 v (0 + nf) ([] ++ (List.range (nf * 3)).map (fieldCell F))→W.drew.grownBy w1 none→(∃ a cap,v = .slice a nf cap∧nf≤cap∧Row w1 w.heap.size 66 3 (.slice a nf cap) nf (fieldCell F))∧Below w.heap.size w w1∧Below W.heap.size W w1):=by
  intro w1 v h1 h2
  rw [Nat.zero_add,List.nil_append] at h1
  have hr:Row w1 w.heap.size 66 3 v nf (fieldCell F):=h1
  refine ⟨?_,hB.drew.grown h2 hB.size (fun k hk=>by cases hk),⟨h2.os,h2.tape,h2.output,h2.size,fun k hk=>h2.block k hk (by simp)⟩⟩
  rcases hr.shape with ⟨rfl,rfl⟩ | ⟨g,cap,rfl,-,hc,-⟩
  ·exact ⟨_,_,rfl,Nat.le_refl _,hr⟩
  ·exact ⟨_,_,rfl,hc,hr⟩
 clear hW HF hB
 go_region_law (refine step_append_any rfl (.const (.slice none 0 0)) (.tmp 6) 68 rfl w.heap.size 66 i0 _ 3 40 Tryz.underlying68 hi hz0 hz1 hz2 rfl (by decide) _ 0 [] rfl (World.ownsRow_nil _ _ _ _) fa nf fcap _ (by simp [Act.eval]) (by simp) HN.out HNil.out HO.out (by unfold maxLen; omega) (by omega) HB.out.size ?_; intro v w1 hown hgr; obtain ⟨⟨a',c',rfl,hc',hr⟩,hb,hb2⟩:=hend.out w1 v hown hgr; have c0':=keptCell hb2 c0; have d0':=keptCell hb2 d0; have d1':=keptCell hb2 d1; have z0':=(hb2.frozen (p:=⟨w.heap.size + 1,0,none⟩) hz).trans z0; have z1':=(hb2.frozen (p:=⟨w.heap.size + 1,1,none⟩) hz).trans z1; have HR:Hid (Row w1 w.heap.size 66 3 (.slice a' nf c') nf (fieldCell F)):=hr; have HB3:Hid (Below w.heap.size w w1):=hb; have HNE:Hid ((Value.slice a' nf c').ownBlock≠some (w.heap.size + 1)):=copy_ne hr (hb2.block _ hz) hbx.out; clear hown hgr hr hb hb2)
 all_goals (
  go_wp2_with fail
  exact bodyPost_ret (v:=.agg #[.string name,.slice a' nf c']) (by simp [results,Tryz.results112,go_sem,d0',d1']) rfl ⟨⟨a',c',rfl,hc',(HR.out.set_other (p:=⟨w.heap.size + 1,0,none⟩) HNE.out _).set_other (p:=⟨w.heap.size + 1,1,none⟩) HNE.out _⟩,(HB3.out.setCell (by simp) _).setCell (by simp) _⟩)
theorem textCell_snoc (O:Nat→ByteArray) (k:Nat):(List.range ((k + 1) * 1)).map (textCell O)=(List.range (k * 1)).map (textCell O) ++ [.string (O k)]:=by
 rw [Nat.mul_one,Nat.mul_one,List.range_succ,List.map_append]; rfl
set_option maxRecDepth 100000 in
set_option maxHeartbeats 1000000 in
theorem names_any (fa:Option Addr) (nf fcap:Nat) (F:Nat→LField) (w:World) (hF:FieldsAt w fa nf F) (hnf:nf≤1000) :
  Calls Tryz.prog 113 #[.slice fa nf fcap] w fun e w'=>(∃ a cap,e = .returned (.slice a nf cap)∧nf≤cap∧Row w' w.heap.size 9 1 (.slice a nf cap) nf (textCell (fun j=>(F j).name)))∧Below w.heap.size w w':=by
 obtain ⟨i0,hi,hz0,hz1,hz2⟩:=info_parts' Tryz.info9
 have HF:Hid (FieldsAt w fa nf F):=hF
 have hn:nf≤9223372036854775807:=hF.1
 clear hF
 go_enter Tryz.func113,Tryz.ntmps113
 go_wp2_with fail
 go_loopw [3,8] (fun v i wr => ∃ k:Nat,k≤nf∧i = .int .i64 k∧Row wr w.heap.size 9 1 v k (textCell (fun j=>(F j).name))∧Below w.heap.size w wr) (fun _ i _=>nf - (intOf i).toNat)
 case atStart=>exact ⟨0,Nat.zero_le _,rfl,World.ownsRow_nil _ _ _ _,Below.refl _ _⟩
 case round =>
  obtain ⟨k,hk,rfl,hrow,hw⟩:=hrel
  by_cases hlt:k < nf
  ·obtain ⟨b,o,rfl,f0,f1,f2,-⟩:=(HF.out.kept hw).2 k hlt
   have hlt':(k:Int) < (nf:Int):=by omega
   have hk0:(0:Int)≤(k:Int):=by omega
   generalize hW:wr.alloc (Obj.cells #[.string (F k).name,.int .i64 (F k).kind,.string (F k).type] 66)=W
   have hB:Below wr.heap.size wr W:=by rw [← hW]; exact below1 _ _
   have k0:W.cell? ⟨wr.heap.size,0,none⟩=some (.string (F k).name):=by rw [← hW,World.cell?_alloc_at _ _ _ _ rfl]; rfl
   have hrow1:Row (W.alloc (Obj.cells #[.string (F k).name] 9)) w.heap.size 9 1 _ k (textCell (fun j=>(F j).name)):=(hrow.kept hB).kept (below1 _ _)
   have HO:Hid (Row (W.alloc (Obj.cells #[.string (F k).name] 9)) w.heap.size 9 1 _ k (textCell (fun j=>(F j).name))):=hrow1
   have HBW:Hid (Below w.heap.size w W):=hw.trans (hB.mono hw.size)
   have HL:Hid (∀ k',Value.ownBlock _=some k'→w.heap.size≤k'):=fun k' hk'=>(hrow.lt hk').1
   have hzw:w.heap.size≤W.heap.size:=HBW.out.size
   clear hrow1 hrow hw hB
   go_wp2_with (at_builtin; refine wpList_append_any _ rfl _ _ 33 rfl w.heap.size 9 i0 _ 1 16 Tryz.underlying33 hi hz0 hz1 hz2 rfl (by decide) _ k _ rfl HO.out (some ⟨W.heap.size,0,none⟩) 1 1 [.string (F k).name] rfl rfl ?c1 (fun h=>by cases h) ?c2 (by unfold maxLen; omega) (by omega) (by simp; omega) ?_)
   case c1 =>
    intro ad had j u hu
    cases had
    rw [WideShapes.add_plain]
    match j,hu with
    | 0,hu=>simp at hu; subst hu; rw [World.cell?_alloc_at _ _ _ _ rfl]; rfl
   case c2 =>
    intro u hu
    simp at hu
    subst hu; rfl
   intro v2 w6 hown2 hg2 _
   have HR:Hid (Row w6 w.heap.size 9 1 v2 (k + 1) (textCell (fun j=>(F j).name))):=by unfold Hid Row; rw [textCell_snoc,Nat.mul_one]; exact hown2
   have HB6:Hid (Below w.heap.size w w6):=(HBW.out.trans ((below1 W _).mono hzw)).grown hg2 (by simp; omega) (fun k' hk'=>HL.out k' hk')
   clear hown2 hg2 HO HL HBW hW k0 f0 f1 f2
   go_wp2_with fail
   go_roundw
   case rel=>exact ⟨k + 1,by omega,by go_num,HR.out,HB6.out⟩
   case measure=>simp [intOf]; omega
  ·have hkn:k=nf:=by omega
   subst hkn
   have HR:=hrow
   obtain ⟨a,cap,hv,hc⟩:=hrow.slice
   subst hv
   have HR2:Hid (Row wr w.heap.size 9 1 (.slice a k cap) k (textCell (fun j=>(F j).name))):=HR
   have HBW:Hid (Below w.heap.size w wr):=hw
   clear HR hrow hw
   go_wp2_with fail
   go_ret
   exact ⟨⟨a,cap,rfl,hc,HR2.out⟩,HBW.out⟩
end Go.Proofs.YtjjggefmmeminacGreat
namespace Go.Proofs.YtjjggefmmeminacGreat
open Go.RowKit Go.Sort
theorem Row.base {w:World} {base base' e size n:Nat} {v:Value} {f : Nat→Value} (h:Row w base e size v n f) (hb:base'≤base):Row w base' e size v n f:=by
 refine ⟨h.1,?_⟩
 rcases h.2 with h | ⟨g,cap,cur,rfl,hg,r⟩
 ·exact .inl h
 ·exact .inr ⟨g,cap,cur,rfl,Nat.le_trans hb hg,r⟩
end Go.Proofs.YtjjggefmmeminacGreat
namespace Go.Proofs.YtjjggefmmeminacGreat
open Go.RowKit Go.Sort
theorem part_callT {w:World} {base n g cap:Nat} {fv ov:Nat→Value} {S:Nat→PSeen} {t : Nat} {to:ByteArray} (h:Seens w base (.slice (some ⟨g,0,none⟩) n cap) n fv ov (part (fun i => { S i with name:=if i=t then to else (S i).name }) (S t).name to n 0)):Seens w base (.slice (some ⟨g,0,none⟩) n cap) n fv ov (callT S t to):=by
 refine h.congr fun i hi=>⟨rfl,rfl,rfl,fun j hj=>?_,fun j hj=>rfl⟩
 show retype (S t).name to ((S i).F j)=if i < n∨(i=n∧j < 0) then _ else _
 rw [if_pos (.inl hi)]
set_option maxRecDepth 100000 in
set_option maxHeartbeats 1000000 in
theorem callType_any (base n t:Nat) (v:Value) (fv ov:Nat→Value) (S:Nat→PSeen) (to:ByteArray) (w:World) (hS:Seens w base v n fv ov S) (ht:t < n) (hto:Small to) (hbase:base≤w.heap.size) :
  Calls Tryz.prog 115 #[v,.int .i64 (t:Int),.string to] w fun e w'=>e = .returned (.int .i64 (callTS n S t to).1)∧Seens w' base v n fv ov (callTS n S t to).2∧Below base w w':=by
 have hmf:∀ (fn:Fn) (first cap:Array Value) (w:World),(Instr.makeFunc fn first cap).run Tryz.prog w = .ok (.func fn first cap) w:=fun _ _ _ _=>rfl
 have hn:n≤9223372036854775807:=hS.nmax
 obtain ⟨g,cap,rfl,hg,hcap⟩:=hS.ptr ht
 have HS:Hid (Seens w base (.slice (some ⟨g,0,none⟩) n cap) n fv ov S):=hS
 clear hS
 have ht':(t:Int) < (n:Int):=by omega
 have ht0:(0:Int)≤(t:Int):=by omega
 go_enter Tryz.func115,Tryz.ntmps115
 go_wp2_with fail
 generalize hW:w.alloc (Obj.cells #[Value.string to] 9)=W
 have hB:Below w.heap.size w W:=by rw [← hW]; exact below1 _ _
 have hbt:W.heap[w.heap.size]? = some (.cells #[.string to] 9 (0,0)):=by rw [← hW]; exact heap_alloc_new _ _
 clear hW
 generalize hbtw:w.heap.size=bt at *
 have HZ:Hid (w.heap.size=bt):=hbtw
 clear hbtw
 have ct:=cell_of_one hbt
 refine (named_any to W hto).mono ?_
 rintro e w1 ⟨rfl,hw1⟩
 have hB1:Below bt w w1:=hB.trans (hw1.mono (by have:=lt_of_block hbt; omega))
 have hbt1:=(hw1.block _ (lt_of_block hbt)).trans hbt
 have ct1:=cell_of_one hbt1
 clear hw1 hB hbt ct
 cases hna:named to
 ·have hfin:Hid (callTS n S t to=(6,S)):=by unfold callTS Hid; simp [hna]
  have HS1:Hid (Seens w1 base (.slice (some ⟨g,0,none⟩) n cap) n fv ov S):=HS.out.kept (by rw [HZ.out]; exact hB1)
  go_wp2_with fail
  go_ret
  exact ⟨by rw [hfin.out]; rfl,by rw [hfin.out]; exact HS1.out,hB1.mono hbase⟩
 have HS1:Hid (Seens w1 base (.slice (some ⟨g,0,none⟩) n cap) n fv ov S):=HS.out.kept (by rw [HZ.out]; exact hB1)
 have hcl:=cfind_any base n _ fv ov S to w1 HS1.out
 go_wp2_with fail
 refine hcl.mono ?_
 clear hcl
 rintro e w2 ⟨rfl,hw2⟩
 have hB2:Below bt w w2:=hB1.trans (hw2.mono (by have:=lt_of_block hbt1; omega))
 have hbt2:=(hw2.block _ (lt_of_block hbt1)).trans hbt1
 have ct2:=cell_of_one hbt2
 have HS2:Hid (Seens w2 base (.slice (some ⟨g,0,none⟩) n cap) n fv ov S):=HS1.out.kept hw2
 clear hw2 hB1 hbt1 ct1 HS1
 by_cases hpf:0≤pfind n S to
 ·have hfin:Hid (callTS n S t to=(6,S)):=by unfold callTS Hid; simp [hna,hpf]
  go_wp2_with fail
  go_ret
  exact ⟨by rw [hfin.out]; rfl,by rw [hfin.out]; exact HS2.out,hB2.mono hbase⟩
 have hfin:Hid (callTS n S t to=(0,callT S t to)):=by unfold callTS Hid; simp [hna,hpf]
 obtain ⟨k0,-,-,-⟩:=HS2.out.cells ht
 have kz:=HS2.out.row.free (t * 4)
 have hgl:g < w2.heap.size:=block_lt_of_cell k0
 have hbl:bt < w2.heap.size:=lt_of_block hbt2
 go_wp2_with fail
 have hS3:=HS2.out.setName (t:=t) hto
 have hne:bt≠g:=HS2.out.row.box_ne (k:=g) rfl hbt2 (by decide)
 have hb3:(w2.setCell ⟨g,t * 4,none⟩ (.string to)).heap[bt]? = some (.cells #[.string to] 9 (0,0)):=by rw [Below.heap_setCell _ _ _ _ hne]; exact hbt2
 have hB3:Below base w (w2.setCell ⟨g,t * 4,none⟩ (.string to)):=(hB2.mono hbase).setCell hg _
 have hz3:(w2.setCell ⟨g,t * 4,none⟩ (.string to)).heap.size=w2.heap.size:=by simp
 generalize (w2.setCell ⟨g,t * 4,none⟩ (.string to))=W3 at *
 have hW2:=below1 W3 (Obj.cells #[Value.string (S t).name] 9)
 have hS4:=hS3.kept hW2
 have hbx:Boxes (W3.alloc (Obj.cells #[Value.string (S t).name] 9)) w2.heap.size bt (S t).name to:=⟨by rw [← hz3]; exact heap_alloc_new _ _,(hW2.block _ (by omega)).trans hb3⟩
 have hB4:Below base w (W3.alloc (Obj.cells #[Value.string (S t).name] 9)):=hB3.trans (hW2.mono (by omega))
 have hsz:base≤(W3.alloc (Obj.cells #[Value.string (S t).name] 9)).heap.size:=by simp; omega
 refine (eachField_any base n w2.heap.size bt _ fv ov _ (S t).name to _ hS4 hbx hto hsz).mono ?_
 rintro e w5 ⟨rfl,hS5,hB5⟩
 have HS5:Hid (Seens w5 base (.slice (some ⟨g,0,none⟩) n cap) n fv ov (callT S t to)):=part_callT hS5
 have HB5:Hid (Below base w w5):=hB4.trans hB5
 clear hS3 hS4 hbx hB4 hsz hS5 hB5 hW2 hne hb3 hB3 hz3
 go_wp2_with fail
 go_ret
 exact ⟨by rw [hfin.out]; rfl,by rw [hfin.out]; exact HS5.out,HB5.out⟩
theorem callF_set {w:World} {base n:Nat} {v:Value} {fv ov:Nat→Value} {S:Nat→PSeen} (h:Seens w base v n fv ov S) {t f fb cap:Nat} (ht:t < n) (hfv:fv t = .slice (some ⟨fb,0,none⟩) (S t).nf cap) {to:ByteArray} (hs:Small to) :
  Seens (w.setCell ⟨fb,f * 3,none⟩ (.string to)) base v n fv ov (callF S t f to):=by
 refine h.setField ht hfv (.string to) (f * 3) (fun j=>if j=f then { (S t).F j with name:=to } else (S t).F j) ?_ ?_
 ·intro q hq
  by_cases hqf:q=f * 3
  ·subst hqf
   rw [if_pos rfl,fieldCell0,if_pos rfl]
  ·rw [if_neg hqf]
   unfold fieldCell
   by_cases hd:q / 3=f
   ·simp [hd,show ¬ q % 3=0 by omega]
   ·simp [hd]
 ·intro j hj
  obtain ⟨q1,q2,q3⟩:=(h.good t ht).2.2.2.1 j hj
  by_cases hd:j=f
  ·rw [if_pos hd]; exact ⟨hs,q2,q3⟩
  ·rw [if_neg hd]; exact ⟨q1,q2,q3⟩
set_option maxRecDepth 100000 in
set_option maxHeartbeats 1000000 in
theorem callField_any (base n t f:Nat) (v:Value) (fv ov:Nat→Value) (S:Nat→PSeen) (to:ByteArray) (w:World) (hS:Seens w base v n fv ov S) (ht:t < n) (hf:f < (S t).nf) (hto:Small to) (hbase:base≤w.heap.size) :
  Calls Tryz.prog 116 #[fv t,.int .i64 (f:Int),.string to] w fun e w'=>e = .returned (.int .i64 (callFS S t f to).1)∧Seens w' base v n fv ov (callFS S t f to).2∧Below base w w':=by
 have hgood:=hS.good t ht
 have hrow:=hS.fields t ht
 rcases hrow.shape with ⟨-,h0⟩ | ⟨fb,cap,hfv,hfb,hcap,-⟩
 ·omega
 have HS:Hid (Seens w base v n fv ov S):=hS
 have HFV:Hid (fv t = .slice (some ⟨fb,0,none⟩) (S t).nf cap):=hfv
 obtain ⟨a,cap',hv',-,hFA⟩:=hrow.fieldsAt hgood.2.2.1 hgood.2.2.2.1
 rw [hfv] at hv'
 cases hv'
 have HFA:Hid (FieldsAt w (some ⟨fb,0,none⟩) (S t).nf (S t).F):=hFA
 have hnf:(S t).nf≤9223372036854775807:=hgood.2.2.1
 rw [hfv]
 clear hS hgood hrow hFA hfv
 have hf':(f:Int) < ((S t).nf:Int):=by omega
 have hf0:(0:Int)≤(f:Int):=by omega
 go_enter Tryz.func116,Tryz.ntmps116
 go_wp2_with fail
 refine (named_any to w hto).mono ?_
 rintro e w1 ⟨rfl,hw1⟩
 cases hna:named to
 ·have hfin:Hid (callFS S t f to=(6,S)):=by unfold callFS Hid; simp [hna]
  have HS1:Hid (Seens w1 base v n fv ov S):=HS.out.kept hw1
  go_wp2_with fail
  go_ret
  exact ⟨by rw [hfin.out]; rfl,by rw [hfin.out]; exact HS1.out,hw1.mono hbase⟩
 have hcl:=field_any (some ⟨fb,0,none⟩) (S t).nf cap (S t).F to w1 (HFA.out.kept hw1)
 go_wp2_with fail
 refine hcl.mono ?_
 clear hcl
 rintro e w2 ⟨rfl,hw2⟩
 have hB2:Below w.heap.size w w2:=hw1.trans (hw2.mono hw1.size)
 clear hw1 hw2
 have HS2:Hid (Seens w2 base v n fv ov S):=HS.out.kept hB2
 by_cases hpf:0≤fieldIdx (S t).nf (S t).F to
 ·have hfin:Hid (callFS S t f to=(6,S)):=by unfold callFS Hid; simp [hna,hpf]
  go_wp2_with fail
  go_ret
  exact ⟨by rw [hfin.out]; rfl,by rw [hfin.out]; exact HS2.out,hB2.mono hbase⟩
 have hfin:Hid (callFS S t f to=(0,callF S t f to)):=by unfold callFS Hid; simp [hna,hpf]
 have hrow2:=HS2.out.fields t ht
 rw [HFV.out] at hrow2
 have k0:=hrow2.cell (j:=f * 3) (by omega)
 have kz:=hrow2.free (f * 3)
 have hB3:Hid (Below base w (w2.setCell ⟨fb,f * 3,none⟩ (.string to))):=(hB2.mono hbase).setCell hfb _
 have HS3:Hid (Seens (w2.setCell ⟨fb,f * 3,none⟩ (.string to)) base v n fv ov (callF S t f to)):=callF_set HS2.out ht HFV.out hto
 rw [fieldCell0] at k0
 clear hrow2
 go_wp2_with fail
 go_ret
 exact ⟨by rw [hfin.out]; rfl,by rw [hfin.out]; exact HS3.out,hB3.out⟩
end Go.Proofs.YtjjggefmmeminacGreat
namespace Go.Proofs.YtjjggefmmeminacGreat
open Go.RowKit Go.Sort
theorem fieldCell_one (F:Nat→LField) (q:Nat):(fieldCell F q).oneCell'=true:=by
 unfold fieldCell
 split
 ·rfl
 ·split <;> rfl
theorem textCell_one (O:Nat→ByteArray) (q:Nat):(textCell O q).oneCell'=true:=rfl
theorem hide_set {w w1 w3:World} {base n g cap t f fb fc ob oc:Nat} {fv ov:Nat→Value} {S:Nat→PSeen} (h:Seens w base (.slice (some ⟨g,0,none⟩) n cap) n fv ov S) (ht:t < n) (hf:f < (S t).nf)
  (hfv:fv t = .slice (some ⟨fb,0,none⟩) (S t).nf fc) (hov:ov t = .slice (some ⟨ob,0,none⟩) (S t).nf oc)
  (h1:Row w1 base 66 3 (.slice (some ⟨fb,0,none⟩) ((S t).nf - 1) fc) ((S t).nf - 1) (fun q=>fieldCell (S t).F (if q < f * 3 then q else q + 3))) (g1:w.grownBy w1 (some fb))
  (h3:Row w3 base 9 1 (.slice (some ⟨ob,0,none⟩) ((S t).nf - 1) oc) ((S t).nf - 1) (fun q=>textCell (S t).O (if q < f * 1 then q else q + 1))) (g3:(w1.setCell ⟨g,t * 4 + 1,none⟩ (.slice (some ⟨fb,0,none⟩) ((S t).nf - 1) fc)).grownBy w3 (some ob)) :
  Seens (w3.setCell ⟨g,t * 4 + 3,none⟩ (.slice (some ⟨ob,0,none⟩) ((S t).nf - 1) oc)) base (.slice (some ⟨g,0,none⟩) n cap) n (fun i=>if i=t then .slice (some ⟨fb,0,none⟩) ((S t).nf - 1) fc else fv i) (fun i=>if i=t then .slice (some ⟨ob,0,none⟩) ((S t).nf - 1) oc else ov i) (hideF S t f):=by
 have hbf:(fv t).ownBlock=some fb:=by rw [hfv]; rfl
 have hbo:(ov t).ownBlock=some ob:=by rw [hov]; rfl
 have rf:=h.fields t ht
 have ro:=h.owns t ht
 have ngf:(Value.slice (some ⟨g,0,none⟩) n cap).ownBlock≠some fb:=rf.ne h.row (by decide) hbf
 have ngo:(Value.slice (some ⟨g,0,none⟩) n cap).ownBlock≠some ob:=ro.ne h.row (by decide) hbo
 have nfo:fb≠ob:=fun e=>rf.ne ro (by decide) hbf (by rw [hbo,e])
 have ngf':g≠fb:=fun e=>ngf (by rw [e]; rfl)
 have ngo':g≠ob:=fun e=>ngo (by rw [e]; rfl)
 have lf:=(rf.lt hbf).2
 have lo:=(ro.lt hbo).2
 have lg:g < w.heap.size:=(h.row.lt (k:=g) rfl).2
 have keep:∀ k,k < w.heap.size→k≠fb→k≠ob→k≠g→(w3.setCell ⟨g,t * 4 + 3,none⟩ (.slice (some ⟨ob,0,none⟩) ((S t).nf - 1) oc)).heap[k]? = w.heap[k]?:=fun k hk n1 n2 n3=>by
  rw [Below.heap_setCell _ _ _ _ n3,g3.block k (by simpa using Nat.lt_of_lt_of_le hk g1.size) (by simpa using n2),Below.heap_setCell _ _ _ _ n3,g1.block k hk (by simpa using n1)]
 have r1:Row w1 base 147 4 (.slice (some ⟨g,0,none⟩) n cap) n (seenCell S fv ov):=h.row.grown g1 (fun k hk e=>ngf (by rw [hk]; exact e.symm ▸ rfl))
 have r2:=r1.set (t * 4 + 1) (.slice (some ⟨fb,0,none⟩) ((S t).nf - 1) fc)
 have r3:=(r2.grown g3 (fun k hk e=>ngo (by rw [hk]; exact e.symm ▸ rfl))).set (t * 4 + 3) (.slice (some ⟨ob,0,none⟩) ((S t).nf - 1) oc)
 have hnf:∀ i,i≠t→hideF S t f i=S i:=fun i hi=>by unfold hideF; rw [if_neg hi]
 have htt:hideF S t f t = { S t with nf:=(S t).nf - 1,F:=fun j=>(S t).F (skip f j),O:=fun j=>(S t).O (skip f j) }:=by unfold hideF; rw [if_pos rfl]
 refine ⟨h.nmax,r3.congr ?_,fun i hi=>?_,fun i hi=>?_,fun i j hi hj hij k hk=>?_,fun i j hi hj hij k hk=>?_,fun i hi=>?_⟩
 ·intro q hq
  have hname:(hideF S t f (q / 4)).name=(S (q / 4)).name∧(hideF S t f (q / 4)).own=(S (q / 4)).own:=by
   by_cases e:q / 4=t
   ·rw [e,htt]; exact ⟨rfl,rfl⟩
   ·rw [hnf _ e]; exact ⟨rfl,rfl⟩
  unfold seenCell
  rw [hname.1,hname.2]
  by_cases e:q / 4=t
  ·have e3:(q=t * 4 + 3)=(q % 4=3):=by rw [eq_iff_iff]; omega
   have e1:(q=t * 4 + 1)=(q % 4=1):=by rw [eq_iff_iff]; omega
   have hm:q % 4=0∨q % 4=1∨q % 4=2∨q % 4=3:=by omega
   rcases hm with hm | hm | hm | hm <;> simp [e3,e1,hm,e]
  ·rw [if_neg (by omega),if_neg (by omega)]
   simp [e]
 ·by_cases e:i=t
  ·subst e
   rw [if_pos rfl,htt]
   have r:Row (w3.setCell ⟨g,i * 4 + 3,none⟩ (.slice (some ⟨ob,0,none⟩) ((S i).nf - 1) oc)) base 66 3 (.slice (some ⟨fb,0,none⟩) ((S i).nf - 1) fc) ((S i).nf - 1) (fun q=>fieldCell (S i).F (if q < f * 3 then q else q + 3)):=h1.at fun k hk=>by
    have:k=fb:=by simpa [Value.ownBlock,eq_comm] using hk
    subst this
    rw [Below.heap_setCell _ _ _ _ (Ne.symm ngf'),g3.block k (by simpa using Nat.lt_of_lt_of_le lf g1.size) (by simpa using nfo),Below.heap_setCell _ _ _ _ (Ne.symm ngf')]
   refine r.congr fun q hq=>?_
   obtain ⟨s1,s2⟩:=skip_cell (i:=f) (q:=q) (size:=3) (by decide)
   unfold fieldCell
   rw [s1,s2]
  ·rw [if_neg e,hnf i e]
   refine (h.fields i hi).at fun k hk=>keep k ((h.fields i hi).lt hk).2 (fun e'=>h.fapart t i ht hi (Ne.symm e) fb hbf (by rw [hk,e'])) (fun e'=>(h.fields i hi).ne ro (by decide) hk (by rw [hbo,e'])) (fun e'=>(h.fields i hi).ne h.row (by decide) hk (by rw [e']; rfl))
 ·by_cases e:i=t
  ·subst e
   rw [if_pos rfl,htt]
   refine (h3.set_other (p:=⟨g,i * 4 + 3,none⟩) (fun e'=>ngo' (by simpa [Value.ownBlock,eq_comm] using e')) _).congr fun q hq=>?_
   show Value.string ((S i).O (if q < f * 1 then q else q + 1))=Value.string ((S i).O (if q < f then q else q + 1))
   rw [Nat.mul_one]
  ·rw [if_neg e,hnf i e]
   refine (h.owns i hi).at fun k hk=>keep k ((h.owns i hi).lt hk).2 (fun e'=>rf.ne (h.owns i hi) (by decide) hbf (by rw [hk,e'])) (fun e'=>h.oapart t i ht hi (Ne.symm e) ob hbo (by rw [hk,e'])) (fun e'=>(h.owns i hi).ne h.row (by decide) hk (by rw [e']; rfl))
 ·have bl:∀ i,i < n→(if i=t then Value.slice (some ⟨fb,0,none⟩) ((S t).nf - 1) fc else fv i).ownBlock=(fv i).ownBlock:=fun i hi=>by
   by_cases e:i=t
   ·rw [if_pos e,e,hbf]; rfl
   ·rw [if_neg e]
  rw [bl i hi] at hk
  rw [bl j hj]
  exact h.fapart i j hi hj hij k hk
 ·have bl:∀ i,i < n→(if i=t then Value.slice (some ⟨ob,0,none⟩) ((S t).nf - 1) oc else ov i).ownBlock=(ov i).ownBlock:=fun i hi=>by
   by_cases e:i=t
   ·rw [if_pos e,e,hbo]; rfl
   ·rw [if_neg e]
  rw [bl i hi] at hk
  rw [bl j hj]
  exact h.oapart i j hi hj hij k hk
 ·by_cases e:i=t
  ·subst e
   obtain ⟨q1,q2,q3,q4,q5⟩:=h.good i hi
   rw [htt]
   have hsk:∀ j,j < (S i).nf - 1→skip f j < (S i).nf:=fun j hj=>by unfold skip; split <;> omega
   exact ⟨q1,q2,Nat.le_trans (Nat.sub_le _ _) q3,fun j hj=>q4 _ (hsk j hj),fun j hj=>q5 _ (hsk j hj)⟩
  ·rw [hnf i e]; exact h.good i hi
set_option maxRecDepth 100000 in
set_option maxHeartbeats 1000000 in
theorem hide_any (base n t f g cap:Nat) (fv ov:Nat→Value) (S:Nat→PSeen) (w:World) (hS:Seens w base (.slice (some ⟨g,0,none⟩) n cap) n fv ov S) (ht:t < n) (hf:f < (S t).nf) (hbase:base≤w.heap.size) :
  Calls Tryz.prog 117 #[.pointer (some ⟨g,t * 4,none⟩),.int .i64 (f:Int)] w fun e w'=>e = .returned (.tuple #[])∧(∃ fv' ov',Seens w' base (.slice (some ⟨g,0,none⟩) n cap) n fv' ov' (hideF S t f))∧Below base w w':=by
 have hgood:=hS.good t ht
 have rf:=hS.fields t ht
 have ro:=hS.owns t ht
 rcases rf.shape with ⟨-,h0⟩ | ⟨fb,fc,hfv,hfb,-,-⟩
 ·omega
 rcases ro.shape with ⟨-,h0⟩ | ⟨ob,oc,hov,hob,-,-⟩
 ·omega
 obtain ⟨k0,k1,k2,k3⟩:=hS.cells ht
 have z1:=hS.row.free (t * 4 + 1)
 have hgb:base≤g:=(hS.row.lt (k:=g) rfl).1
 have ngf:g≠fb:=fun e=>rf.ne hS.row (by decide) (k:=fb) (by rw [hfv]; rfl) (by rw [e]; rfl)
 have ngo:g≠ob:=fun e=>ro.ne hS.row (by decide) (k:=ob) (by rw [hov]; rfl) (by rw [e]; rfl)
 have nfo:fb≠ob:=fun e=>rf.ne ro (by decide) (k:=fb) (by rw [hfv]; rfl) (by rw [hov,e]; rfl)
 rw [hfv] at k1 rf
 rw [hov] at k3 ro
 have hnf:(S t).nf≤9223372036854775807:=hgood.2.2.1
 have HS:Hid (Seens w base (.slice (some ⟨g,0,none⟩) n cap) n fv ov S):=hS
 have HFV:Hid (fv t = .slice (some ⟨fb,0,none⟩) (S t).nf fc):=hfv
 have HOV:Hid (ov t = .slice (some ⟨ob,0,none⟩) (S t).nf oc):=hov
 have HRO:Hid (Row w base 9 1 (.slice (some ⟨ob,0,none⟩) (S t).nf oc) (S t).nf (textCell (S t).O)):=ro
 have hcl:=delete_fields base (S t).nf f fb fc (fieldCell (S t).F) w rf (fun q _=>fieldCell_one _ _) hf hgood.2.2.1
 have hm:(S t).nf≤maxLen:=hgood.2.2.1
 have lob:=(ro.lt (k:=ob) rfl).2
 clear hS hfv hov hgood rf ro
 have hf':(f:Int) < ((S t).nf:Int):=by omega
 go_enter Tryz.func117,Tryz.ntmps117
 go_wp2_with fail
 refine hcl.mono ?_
 clear hcl
 rintro e w1 ⟨rfl,hr1,hg1⟩
 have c1:w1.cell? ⟨g,t * 4 + 1,none⟩=some (.slice (some ⟨fb,0,none⟩) (S t).nf fc):=hg1.cell k1 (by simpa using ngf)
 have c3:w1.cell? ⟨g,t * 4 + 3,none⟩=some (.slice (some ⟨ob,0,none⟩) (S t).nf oc):=hg1.cell k3 (by simpa using ngf)
 have hgl:g < w.heap.size:=block_lt_of_cell k1
 have y1:w1.frozen? ⟨g,t * 4 + 1,none⟩=false:=(World.frozen?_of_block (w:=w) (hg1.block g hgl (by simpa using ngf))).trans z1
 have hz1:w.heap.size≤w1.heap.size:=hg1.size
 have HG1:Hid (w.grownBy w1 (some fb)):=hg1
 have HR1:Hid (Row w1 base 66 3 (.slice (some ⟨fb,0,none⟩) ((S t).nf - 1) fc) ((S t).nf - 1) (fun q=>fieldCell (S t).F (if q < f * 3 then q else q + 3))):=hr1
 have hro2:Row (w1.setCell ⟨g,t * 4 + 1,none⟩ (.slice (some ⟨fb,0,none⟩) ((S t).nf - 1) fc)) base 9 1 (.slice (some ⟨ob,0,none⟩) (S t).nf oc) (S t).nf (textCell (S t).O) :=
  (HRO.out.grown hg1 (fun k hk e=>nfo (by simp [Value.ownBlock] at hk e; omega))).set_other (p:=⟨g,t * 4 + 1,none⟩) (fun e=>ngo (by simpa [Value.ownBlock,eq_comm] using e)) _
 have hcl:=delete_texts base (S t).nf f ob oc (textCell (S t).O) _ hro2 (fun q _=>textCell_one _ _) hf hm
 clear hg1 hr1 hro2 k0 k1 k2 k3 z1 lob
 go_wp2_with fail
 refine hcl.mono ?_
 clear hcl
 rintro e w3 ⟨rfl,hr3,hg3⟩
 have hgl3:g < (w1.setCell ⟨g,t * 4 + 1,none⟩ (.slice (some ⟨fb,0,none⟩) ((S t).nf - 1) fc)).heap.size:=by simp; omega
 have c3':w3.cell? ⟨g,t * 4 + 3,none⟩=some (.slice (some ⟨ob,0,none⟩) (S t).nf oc):=hg3.cell (by rw [World.cell?_setCell_other _ _ _ _ (by simp)]; exact c3) (by simpa using ngo)
 have y3:w3.frozen? ⟨g,t * 4 + 3,none⟩=false:=by
  have hrow:=(HS.out.row.grown HG1.out (fun k hk e=>ngf (by simp [Value.ownBlock] at hk e; omega))).set (t * 4 + 1) (.slice (some ⟨fb,0,none⟩) ((S t).nf - 1) fc)
  exact (hrow.grown hg3 (fun k hk e=>ngo (by simp [Value.ownBlock] at hk e; omega))).free _
 have HB:Hid (Below base w (w3.setCell ⟨g,t * 4 + 3,none⟩ (.slice (some ⟨ob,0,none⟩) ((S t).nf - 1) oc))):=((((Below.refl base w).grown HG1.out hbase (fun k hk=>by simp at hk; omega)).setCell hgb _).grown hg3 (by simp; omega) (fun k hk=>by simp at hk; omega)).setCell hgb _
 have HF:Hid (Seens (w3.setCell ⟨g,t * 4 + 3,none⟩ (.slice (some ⟨ob,0,none⟩) ((S t).nf - 1) oc)) base (.slice (some ⟨g,0,none⟩) n cap) n _ _ (hideF S t f)):=hide_set HS.out ht hf HFV.out HOV.out HR1.out HG1.out hr3 hg3
 clear hr3 hg3 c1 c3 y1
 go_wp2_with fail
 go_end0
 exact ⟨rfl,⟨_,_,HF.out⟩,HB.out⟩
end Go.Proofs.YtjjggefmmeminacGreat
namespace Go.Proofs.YtjjggefmmeminacGreat
open Go.RowKit Go.Sort
def changeV (c:PChange):Value:=.agg #[.int .i64 c.kind,.string c.type,.string c.field,.string c.to]
theorem app_kind {n:Nat} {S:Nat→PSeen} {c:PChange} (h1:c.kind≠1) (h2:c.kind≠2) (h3:c.kind≠3):appS n S c=(1,S):=by unfold appS; rw [if_pos ⟨h1,h2,h3⟩]
theorem app_none {n:Nat} {S:Nat→PSeen} {c:PChange} (h:c.kind=1∨c.kind=2∨c.kind=3) (h2:pfind n S c.type < 0):appS n S c=(5,S):=by unfold appS; rw [if_neg (by omega),if_pos h2]
theorem app_type {n:Nat} {S:Nat→PSeen} {c:PChange} (h:c.kind=1) (h2 : ¬ pfind n S c.type < 0):appS n S c=callTS n S (pfind n S c.type).toNat c.to:=by unfold appS; rw [if_neg (by omega),if_neg h2,if_pos h]
theorem app_field {n:Nat} {S:Nat→PSeen} {c:PChange} (h:c.kind=2∨c.kind=3) (h2 : ¬ pfind n S c.type < 0):appS n S c=fieldS S (pfind n S c.type).toNat c:=by unfold appS; rw [if_neg (by omega),if_neg h2,if_neg (by omega)]
set_option maxRecDepth 100000 in
set_option maxHeartbeats 2000000 in
theorem apply_any (base n:Nat) (v:Value) (fv ov:Nat→Value) (S:Nat→PSeen) (c:PChange) (w:World) (hS:Seens w base v n fv ov S) (hto:Small c.to) (hbase:base≤w.heap.size) :
  Calls Tryz.prog 86 #[v,changeV c] w fun e w'=>e = .returned (.int .i64 (appS n S c).1)∧(∃ fv' ov',Seens w' base v n fv' ov' (appS n S c).2)∧Below base w w':=by
 have hn:n≤9223372036854775807:=hS.nmax
 obtain ⟨a,cap,rfl,hcap⟩:=hS.slice
 have HS:Hid (Seens w base (.slice a n cap) n fv ov S):=hS
 clear hS
 unfold changeV
 generalize hW:w.alloc (Obj.cells #[.int .i64 c.kind,.string c.type,.string c.field,.string c.to] 72)=W
 have hB:Below w.heap.size w W:=by rw [← hW]; exact below1 _ _
 have c0:W.cell? ⟨w.heap.size,0,none⟩=some (.int .i64 c.kind):=by rw [← hW,World.cell?_alloc_at _ _ _ _ rfl]; rfl
 have c1:W.cell? ⟨w.heap.size,1,none⟩=some (.string c.type):=by rw [← hW,World.cell?_alloc_at _ _ _ _ rfl]; rfl
 have c2:W.cell? ⟨w.heap.size,2,none⟩=some (.string c.field):=by rw [← hW,World.cell?_alloc_at _ _ _ _ rfl]; rfl
 have c3:W.cell? ⟨w.heap.size,3,none⟩=some (.string c.to):=by rw [← hW,World.cell?_alloc_at _ _ _ _ rfl]; rfl
 have HSW:Hid (Seens W base (.slice a n cap) n fv ov S):=HS.out.kept hB
 have HBW:Hid (Below base w W):=hB.mono hbase
 have hzW:base≤W.heap.size:=Nat.le_trans hbase hB.size
 clear HS hB
 by_cases hk1:c.kind=1
 ·rw [hk1] at c0 hW ⊢
  go_enter Tryz.func86,Tryz.ntmps86
  go_wp2_with fail
  clear hW
  generalize w.heap.size=bc at *
  refine (cfind_any base n _ fv ov S c.type W HSW.out).mono ?_
  rintro e w1 ⟨rfl,hw1⟩
  have d0:=keptCell hw1 c0
  have d3:=keptCell hw1 c3
  have HS1:Hid (Seens w1 base (.slice a n cap) n fv ov S):=HSW.out.kept hw1
  have HB1:Hid (Below base w w1):=HBW.out.trans (hw1.mono hzW)
  have hz1:base≤w1.heap.size:=Nat.le_trans hzW hw1.size
  clear hw1 c0 c1 c2 c3 HSW HBW hzW
  by_cases hp:pfind n S c.type < 0
  ·have hfin:Hid (appS n S c=(5,S)):=app_none (.inl hk1) hp
   clear hk1
   go_wp2_with fail
   go_ret
   exact ⟨by rw [hfin.out]; rfl,by rw [hfin.out]; exact ⟨_,_,HS1.out⟩,HB1.out⟩
  ·have hfin:Hid (appS n S c=callTS n S (pfind n S c.type).toNat c.to):=app_type hk1 hp
   obtain ⟨t1,-,t3⟩:=pfind_hit hp
   generalize htn:(pfind n S c.type).toNat=t at *
   have HT:Hid (t < n):=t1
   rw [t3]
   clear hk1 hp t3 htn t1
   have hcl:=callType_any base n t _ fv ov S c.to w1 HS1.out HT.out hto hz1
   go_wp2_with fail
   refine hcl.mono ?_
   clear hcl
   rintro e w2 ⟨rfl,hS2,hB2⟩
   have HS2:Hid (Seens w2 base (.slice a n cap) n fv ov (callTS n S t c.to).2):=hS2
   have HB2:Hid (Below base w w2):=HB1.out.trans hB2
   clear hS2 hB2 d0 d3
   generalize callTS n S t c.to=r at *
   go_wp2_with fail
   go_ret
   exact ⟨by rw [hfin.out]; rfl,by rw [hfin.out]; exact ⟨_,_,HS2.out⟩,HB2.out⟩
 by_cases hk23:c.kind=2∨c.kind=3
 case neg =>
  have hfin:Hid (appS n S c=(1,S)):=app_kind hk1 (by omega) (by omega)
  have e1:(c.kind != 1)=true:=by simpa using hk1
  have e2:(c.kind != 2)=true:=by simp; omega
  have e3:(c.kind != 3)=true:=by simp; omega
  clear hk1 hk23
  go_enter Tryz.func86,Tryz.ntmps86
  go_wp2_with fail
  go_ret
  exact ⟨by rw [hfin.out]; rfl,by rw [hfin.out]; exact ⟨_,_,HSW.out⟩,HBW.out⟩
 rcases hk23 with hk2 | hk3
 ·have hk:=hk2
  rw [hk] at c0 hW ⊢
  go_enter Tryz.func86,Tryz.ntmps86
  go_wp2_with fail
  clear hW
  generalize w.heap.size=bc at *
  refine (cfind_any base n _ fv ov S c.type W HSW.out).mono ?_
  rintro e w1 ⟨rfl,hw1⟩
  have d0:=keptCell hw1 c0
  have d2:=keptCell hw1 c2
  have d3:=keptCell hw1 c3
  have hS1:Seens w1 base (.slice a n cap) n fv ov S:=HSW.out.kept hw1
  have HB1:Hid (Below base w w1):=HBW.out.trans (hw1.mono hzW)
  have hz1:base≤w1.heap.size:=Nat.le_trans hzW hw1.size
  clear hw1 c0 c1 c2 c3 HSW HBW hzW
  by_cases hp:pfind n S c.type < 0
  ·have hfin:Hid (appS n S c=(5,S)):=app_none (by omega) hp
   have HS1:Hid (Seens w1 base (.slice a n cap) n fv ov S):=hS1
   clear hk hk1 hS1
   go_wp2_with fail
   go_ret
   exact ⟨by rw [hfin.out]; rfl,by rw [hfin.out]; exact ⟨_,_,HS1.out⟩,HB1.out⟩
  have hfin:Hid (appS n S c=fieldS S (pfind n S c.type).toNat c):=app_field (by omega) hp
  obtain ⟨t1,-,t3⟩:=pfind_hit hp
  have HK:Hid (c.kind=2):=hk
  generalize htn:(pfind n S c.type).toNat=t at *
  rw [t3]
  clear hk hk1 hp t3 htn
  obtain ⟨g,cap',hv,hgb,-⟩:=hS1.ptr t1
  cases hv
  obtain ⟨-,k1,-,-⟩:=hS1.cells t1
  have hgood:=hS1.good t t1
  obtain ⟨fa,fc,hfv,hfc,hFA⟩:=(hS1.fields t t1).fieldsAt hgood.2.2.1 hgood.2.2.2.1
  rw [hfv] at k1
  have HFV:Hid (fv t = .slice fa (S t).nf fc):=hfv
  have cF:∀ d os,Calls Tryz.prog 66 #[.slice fa (S t).nf fc,.string c.field] (grow (redrawn w1 d) os) fun e w''=>e = .returned (.int .i64 (fieldIdx (S t).nf (S t).F c.field))∧∃ p:Regrown,w''=grow (redrawn w1 p.d) p.os:=fun d os=>Calls.regrown_of (field_any _ _ _ (S t).F _ _ (hFA.kept (below_regrown w1 d os)))
  have r1:=cell_regrown k1
  have r2:=cell_regrown d2
  have HS1:Hid (Seens w1 base (.slice (some ⟨g,0,none⟩) n cap) n fv ov S):=hS1
  have HT:Hid (t < n):=t1
  have t1':(t:Int) < (n:Int):=by omega
  have t0':(0:Int)≤(t:Int):=by omega
  clear hS1 hgood hFA hfv
  go_wp2_with fail
  refine wp_region_quiet_below (by kernel_rfl) (by kernel_rfl) ?_
  repeat (go_big_quiet_step (first | exact cF _ _))
  refine wpQuiet_nil ?_
  intro _ hw'
  obtain ⟨⟨dq,osq⟩,hw''⟩:=hw'
  subst hw''
  have hb2:=below_regrown w1 dq osq
  have HS2:Hid (Seens (grow (redrawn w1 dq) osq) base (.slice (some ⟨g,0,none⟩) n cap) n fv ov S):=HS1.out.kept hb2
  have HB2:Hid (Below base w (grow (redrawn w1 dq) osq)):=HB1.out.trans (hb2.mono hz1)
  have hz2:base≤(grow (redrawn w1 dq) osq).heap.size:=Nat.le_trans hz1 hb2.size
  have f0:=keptCell hb2 d0
  have f1:=keptCell hb2 k1
  have f3:=keptCell hb2 d3
  clear hb2 r1 r2 cF d0 d2 d3 k1 hz1 HS1 HB1
  generalize grow (redrawn w1 dq) osq=w2 at *
  by_cases hq:fieldIdx (S t).nf (S t).F c.field < 0
  ·have hfin2:Hid (appS n S c=(5,S)):=by unfold Hid; rw [hfin.out]; unfold fieldS; rw [if_pos hq]
   go_wp2_with fail
   go_ret
   exact ⟨by rw [hfin2.out]; rfl,by rw [hfin2.out]; exact ⟨_,_,HS2.out⟩,HB2.out⟩
  obtain ⟨q1,-,q3⟩:=fidx_hit hq
  have hfin2:Hid (appS n S c=callFS S t (fieldIdx (S t).nf (S t).F c.field).toNat c.to):=by unfold Hid; rw [hfin.out]; unfold fieldS; rw [if_neg hq,if_pos HK.out]
  generalize hfx:(fieldIdx (S t).nf (S t).F c.field).toNat=f at *
  rw [q3]
  have HF:Hid (f < (S t).nf):=q1
  clear hq q3 hfx q1
  have hcl:∀ w3:World,Below w2.heap.size w2 w3→Calls Tryz.prog 116 #[.slice fa (S t).nf fc,.int .i64 (f:Int),.string c.to] w3 fun e w'=>e = .returned (.int .i64 (callFS S t f c.to).1)∧Seens w' base (.slice (some ⟨g,0,none⟩) n cap) n fv ov (callFS S t f c.to).2∧Below base w w':=by
   intro w3 hb
   have:=callField_any base n t f _ fv ov S c.to w3 (HS2.out.kept hb) HT.out HF.out hto (Nat.le_trans hz2 hb.size)
   rw [HFV.out] at this
   refine this.mono ?_
   rintro e w' ⟨h5,h6,h7⟩
   exact ⟨h5,h6,(HB2.out.trans (hb.mono hz2)).trans h7⟩
  have hb0:Below w2.heap.size w2 w2.drew:=(Below.refl _ _).drew
  have hcl2:=hcl w2.drew hb0
  clear hcl hb0
  go_wp2_with fail
  go_region_with (go_at_call 116; refine hcl2.mono ?_; rintro e w4 ⟨rfl,hS4,hB4⟩)
  all_goals (
   have HS4:Hid (Seens w4 base (.slice (some ⟨g,0,none⟩) n cap) n fv ov (callFS S t f c.to).2):=hS4
   have HB4:Hid (Below base w w4):=hB4
   clear hS4 hB4 f0 f1 f3
   generalize callFS S t f c.to=r at *
   go_wp2_with fail
   go_ret
   exact ⟨by rw [hfin2.out]; rfl,by rw [hfin2.out]; exact ⟨_,_,HS4.out⟩,HB4.out⟩)
 ·have hk:=hk3
  rw [hk] at c0 hW ⊢
  go_enter Tryz.func86,Tryz.ntmps86
  go_wp2_with fail
  clear hW
  generalize w.heap.size=bc at *
  refine (cfind_any base n _ fv ov S c.type W HSW.out).mono ?_
  rintro e w1 ⟨rfl,hw1⟩
  have d0:=keptCell hw1 c0
  have d2:=keptCell hw1 c2
  have d3:=keptCell hw1 c3
  have hS1:Seens w1 base (.slice a n cap) n fv ov S:=HSW.out.kept hw1
  have HB1:Hid (Below base w w1):=HBW.out.trans (hw1.mono hzW)
  have hz1:base≤w1.heap.size:=Nat.le_trans hzW hw1.size
  clear hw1 c0 c1 c2 c3 HSW HBW hzW
  by_cases hp:pfind n S c.type < 0
  ·have hfin:Hid (appS n S c=(5,S)):=app_none (by omega) hp
   have HS1:Hid (Seens w1 base (.slice a n cap) n fv ov S):=hS1
   clear hk hk1 hS1
   go_wp2_with fail
   go_ret
   exact ⟨by rw [hfin.out]; rfl,by rw [hfin.out]; exact ⟨_,_,HS1.out⟩,HB1.out⟩
  have hfin:Hid (appS n S c=fieldS S (pfind n S c.type).toNat c):=app_field (by omega) hp
  obtain ⟨t1,-,t3⟩:=pfind_hit hp
  have HK:Hid (c.kind=3):=hk
  generalize htn:(pfind n S c.type).toNat=t at *
  rw [t3]
  clear hk hk1 hp t3 htn
  obtain ⟨g,cap',hv,hgb,-⟩:=hS1.ptr t1
  cases hv
  obtain ⟨-,k1,-,-⟩:=hS1.cells t1
  have hgood:=hS1.good t t1
  obtain ⟨fa,fc,hfv,hfc,hFA⟩:=(hS1.fields t t1).fieldsAt hgood.2.2.1 hgood.2.2.2.1
  rw [hfv] at k1
  have HFV:Hid (fv t = .slice fa (S t).nf fc):=hfv
  have cF:∀ d os,Calls Tryz.prog 66 #[.slice fa (S t).nf fc,.string c.field] (grow (redrawn w1 d) os) fun e w''=>e = .returned (.int .i64 (fieldIdx (S t).nf (S t).F c.field))∧∃ p:Regrown,w''=grow (redrawn w1 p.d) p.os:=fun d os=>Calls.regrown_of (field_any _ _ _ (S t).F _ _ (hFA.kept (below_regrown w1 d os)))
  have r1:=cell_regrown k1
  have r2:=cell_regrown d2
  have HS1:Hid (Seens w1 base (.slice (some ⟨g,0,none⟩) n cap) n fv ov S):=hS1
  have HT:Hid (t < n):=t1
  have t1':(t:Int) < (n:Int):=by omega
  have t0':(0:Int)≤(t:Int):=by omega
  clear hS1 hgood hFA hfv
  go_wp2_with fail
  refine wp_region_quiet_below (by kernel_rfl) (by kernel_rfl) ?_
  repeat (go_big_quiet_step (first | exact cF _ _))
  refine wpQuiet_nil ?_
  intro _ hw'
  obtain ⟨⟨dq,osq⟩,hw''⟩:=hw'
  subst hw''
  have hb2:=below_regrown w1 dq osq
  have HS2:Hid (Seens (grow (redrawn w1 dq) osq) base (.slice (some ⟨g,0,none⟩) n cap) n fv ov S):=HS1.out.kept hb2
  have HB2:Hid (Below base w (grow (redrawn w1 dq) osq)):=HB1.out.trans (hb2.mono hz1)
  have hz2:base≤(grow (redrawn w1 dq) osq).heap.size:=Nat.le_trans hz1 hb2.size
  have f0:=keptCell hb2 d0
  have f1:=keptCell hb2 k1
  have f3:=keptCell hb2 d3
  clear hb2 r1 r2 cF d0 d2 d3 k1 hz1 HS1 HB1
  generalize grow (redrawn w1 dq) osq=w2 at *
  by_cases hq:fieldIdx (S t).nf (S t).F c.field < 0
  ·have hfin2:Hid (appS n S c=(5,S)):=by unfold Hid; rw [hfin.out]; unfold fieldS; rw [if_pos hq]
   go_wp2_with fail
   go_ret
   exact ⟨by rw [hfin2.out]; rfl,by rw [hfin2.out]; exact ⟨_,_,HS2.out⟩,HB2.out⟩
  obtain ⟨q1,-,q3⟩:=fidx_hit hq
  have hfin2:Hid (appS n S c=(0,hideF S t (fieldIdx (S t).nf (S t).F c.field).toNat)):=by unfold Hid; rw [hfin.out]; unfold fieldS; rw [if_neg hq,if_neg (by rw [HK.out]; decide)]
  generalize hfx:(fieldIdx (S t).nf (S t).F c.field).toNat=f at *
  rw [q3]
  have HF:Hid (f < (S t).nf):=q1
  clear hq q3 hfx q1
  have hcl:=hide_any base n t f g cap fv ov S w2 HS2.out HT.out HF.out hz2
  go_wp2_with fail
  refine hcl.mono ?_
  clear hcl
  rintro e w4 ⟨rfl,hS4,hB4⟩
  have HS4:Hid (∃ fv' ov',Seens w4 base (.slice (some ⟨g,0,none⟩) n cap) n fv' ov' (hideF S t f)):=hS4
  have HB4:Hid (Below base w w4):=HB2.out.trans hB4
  clear hS4 hB4 f0 f1 f3
  go_wp2_with fail
  go_ret
  exact ⟨by rw [hfin2.out]; rfl,by rw [hfin2.out]; exact HS4.out,HB4.out⟩
end Go.Proofs.YtjjggefmmeminacGreat
