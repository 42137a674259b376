import Derived.Test.YtjjggefmmeminacGreatJBase
import Derived.WalkKit
import Derived.WalkSpells
import Derived.Laws.BytesArg
import Derived.Deep.CutRange
namespace Go.Proofs.YtjjggefmmeminacGreat
open Go.RowKit Go.Sort Go.PlainAid
theorem key_conv (n:Nat) (w:World):(convert 100 9 (.slice (some ⟨w.heap.size,0,none⟩) 2 2)).run Tryz.prog (w.alloc (Obj.cells #[.int .u8 (97 + (n:Int) / 20),.int .u8 (97 + (n:Int) % 20)] 5)) = .ok (.string ⟨#[UInt8.ofNat (97 + n / 20),UInt8.ofNat (97 + n % 20)]⟩) (w.alloc (Obj.cells #[.int .u8 (97 + (n:Int) / 20),.int .u8 (97 + (n:Int) % 20)] 5)):=by
 have h:=run_convert_bytes_arg (P:=Tryz.prog) (w.alloc (Obj.cells #[.int .u8 (97 + (n:Int) / 20),.int .u8 (97 + (n:Int) % 20)] 5)) 100 5 Tryz.underlying100 Tryz.underlying5 w.heap.size 0 2 2 [97 + (n:Int) / 20,97 + (n:Int) % 20] rfl (fun i hi=>by
  have hi':i=0∨i=1:=by omega
  rcases hi' with rfl | rfl
  all_goals (rw [World.cell?_alloc_at _ _ _ _ rfl]; rfl)) 9 Tryz.underlying9
 rw [h]
 have e1:(97 + (n:Int) / 20).toNat=97 + n / 20:=by omega
 have e2:(97 + (n:Int) % 20).toNat=97 + n % 20:=by omega
 simp [strOfNums,e1,e2]
set_option maxRecDepth 100000 in
set_option maxHeartbeats 1000000 in
theorem key_any (n:Nat) (hn:n≤40) (w:World):Calls Tryz.prog 17 #[.int .i64 (n:Int)] w fun e w'=>e = .returned (.string ⟨#[117,UInt8.ofNat (97 + n / 20),UInt8.ofNat (97 + n % 20)]⟩)∧Below w.heap.size w w':=by
 have hc:=key_conv n w
 generalize UInt8.ofNat (97 + n / 20)=x at *
 generalize UInt8.ofNat (97 + n % 20)=y at *
 have HA:Hid ((⟨#[117]⟩:ByteArray) ++ ⟨#[x,y]⟩=⟨#[117,x,y]⟩):=Hid.intro (ByteArray.ext (by simp [ByteArray.data_append]))
 go_enter Tryz.func17,Tryz.ntmps17
 go_wp2_with fail
 go_ret
 exact ⟨by rw [← HA.out]; rfl,below1 _ _⟩
set_option maxRecDepth 100000 in
set_option maxHeartbeats 1000000 in
theorem word_any (s:ByteArray) (w:World):Calls Tryz.prog 20 #[.string s] w fun e w'=>e = .returned (.agg #[.string s,.int .i64 1,.string ⟨#[]⟩])∧Below w.heap.size w w':=by
 go_enter Tryz.func20,Tryz.ntmps20
 go_wp2_with fail
 obtain ⟨r0,r1,r2⟩:(w.alloc (Obj.cells #[.string s,.int .i64 1,.string ⟨#[]⟩] 66)).cell? ⟨w.heap.size,0,none⟩=some (.string s)∧(w.alloc (Obj.cells #[.string s,.int .i64 1,.string ⟨#[]⟩] 66)).cell? ⟨w.heap.size,1,none⟩=some (.int .i64 1)∧(w.alloc (Obj.cells #[.string s,.int .i64 1,.string ⟨#[]⟩] 66)).cell? ⟨w.heap.size,2,none⟩=some (.string ⟨#[]⟩):=by
  refine ⟨?_,?_,?_⟩
  all_goals (rw [World.cell?_alloc_at _ _ _ _ rfl]; rfl)
 exact bodyPost_ret (v:=.agg #[.string s,.int .i64 1,.string ⟨#[]⟩]) (by simp [results,Tryz.results20,go_sem,r0,r1,r2]) rfl ⟨rfl,below1 _ _⟩
end Go.Proofs.YtjjggefmmeminacGreat
namespace Go.Proofs.YtjjggefmmeminacGreat
open Go.RowKit Go.Sort Go.PlainAid
def kP (i:Nat):ByteArray:=⟨#[117,UInt8.ofNat (97 + i / 20),UInt8.ofNat (97 + i % 20)]⟩
def kN (i:Nat):ByteArray:=⟨#[78,117,UInt8.ofNat (97 + i / 20),UInt8.ofNat (97 + i % 20)]⟩
theorem kN_eq (i:Nat):(⟨#[78]⟩:ByteArray) ++ kP i=kN i:=ByteArray.ext (by simp [kP,kN,ByteArray.data_append])
def tcell (nm:ByteArray) (p:Nat→Nat) (j:Nat):Value:=if j % 3=0 then .string nm else if j % 3=1 then .string (kP (j / 3)) else .slice (some ⟨p (j / 3),0,none⟩) 1 1
theorem tcell0 (nm:ByteArray) (p:Nat→Nat) (i:Nat):tcell nm p (i * 3) = .string nm:=by unfold tcell; rw [if_pos (by omega)]
theorem tcell1 (nm:ByteArray) (p:Nat→Nat) (i:Nat):tcell nm p (i * 3 + 1) = .string (kP i):=by unfold tcell; rw [if_neg (by omega),if_pos (by omega),show (i * 3 + 1) / 3=i by omega]
theorem tcell2 (nm:ByteArray) (p:Nat→Nat) (i:Nat):tcell nm p (i * 3 + 2) = .slice (some ⟨p i,0,none⟩) 1 1:=by unfold tcell; rw [if_neg (by omega),if_neg (by omega),show (i * 3 + 2) / 3=i by omega]
def upd (p:Nat→Nat) (k b i:Nat):Nat:=if i=k then b else p i
theorem tcells_snoc (nm:ByteArray) (p:Nat→Nat) (k b:Nat):(List.range ((k + 1) * 3)).map (tcell nm (upd p k b))=(List.range (k * 3)).map (tcell nm p) ++ [.string nm,.string (kP k),.slice (some ⟨b,0,none⟩) 1 1]:=by
 rw [show (k + 1) * 3=k * 3 + 1 + 1 + 1 by omega,List.range_succ,List.range_succ,List.range_succ]
 simp only [List.map_append,List.map_cons,List.map_nil,List.append_assoc]
 rw [tcell0,tcell1,show k * 3 + 1 + 1=k * 3 + 2 by omega,tcell2]
 have e:(List.range (k * 3)).map (tcell nm (upd p k b))=(List.range (k * 3)).map (tcell nm p):=List.map_congr_left fun j hj=>by
  have hj':j < k * 3:=by simpa using hj
  unfold tcell upd
  rw [if_neg (show ¬ j / 3=k by omega)]
 rw [e]
 simp [upd]
theorem Tryz.info62:(Tryz.prog.info? 62).map (fun i=>(i.zero,i.size,i.bytes))=some (some (.agg #[.string ⟨#[]⟩,.string ⟨#[]⟩,.slice none 0 0]),3,56):=by kernel_rfl
def keyV (n:Nat) (r:Nat→Nat) (i:Nat):Value:=if i + 1 < n then .slice (some ⟨r i,0,none⟩) 1 1 else .slice none 0 0
structure Ev (w w':World):Prop where
 size:w.heap.size≤w'.heap.size
 keep:∀ (b:Nat) (cs:Array Value) (t:TypeId),w.heap[b]? = some (.cells cs t (0,0))→t≠62→t≠40→w'.heap[b]? = some (.cells cs t (0,0))
theorem Ev.refl (w:World):Ev w w:=⟨Nat.le_refl _,fun _ _ _ h _ _=>h⟩
theorem Ev.trans {w w1 w2:World} (h:Ev w w1) (h':Ev w1 w2):Ev w w2:=⟨Nat.le_trans h.size h'.size,fun b cs t hb h1 h2=>h'.keep b cs t (h.keep b cs t hb h1 h2) h1 h2⟩
theorem Ev.of {w w':World} (h:Below w.heap.size w w'):Ev w w':=⟨h.size,fun b _ _ hb _ _=>(h.block b (lt_of_block hb)).trans hb⟩
theorem Ev.grown {w w':World} {N k:Nat} {v:Value} {f : Nat→Value} (hg:w.grownBy w' v.ownBlock) (hr:Row w N 62 3 v k f):Ev w w':=⟨hg.size,fun b cs t hb h1 _=>by
 refine (hg.block b (lt_of_block hb) (fun e=>?_)).trans hb
 obtain ⟨cs',ho⟩:=hr.obj e.symm
 rw [hb] at ho
 cases ho
 exact h1 rfl⟩
theorem Ev.set {w:World} {b o:Nat} {cs:Array Value} (hb:w.heap[b]? = some (.cells cs 40 (0,0))) (v:Value):Ev w (w.setCell ⟨b,o,none⟩ v):=⟨by simp,fun q cs' t hq _ h2=>by
 have hne:q≠b:=fun e=>by subst e; rw [hb] at hq; cases hq; exact h2 rfl
 rw [Below.heap_setCell _ _ _ _ (by show q≠b; exact hne)]
 exact hq⟩
structure PpT (ta fa tb fb tc:Nat) (w:World):Prop where
 ta:w.heap[ta]? = some (.cells #[.string ⟨#[117,115,101,114]⟩,.slice (some ⟨fa,0,none⟩) 1 1] 70 (0,0))
 fa:w.heap[fa]? = some (.cells #[.string ⟨#[110,97,109,101]⟩,.int .i64 1,.string ⟨#[]⟩] 66 (0,0))
 tb:w.heap[tb]? = some (.cells #[.string ⟨#[109,97,110]⟩,.slice (some ⟨fb,0,none⟩) 1 1] 70 (0,0))
 fb:w.heap[fb]? = some (.cells #[.string ⟨#[117,110,100,101,114]⟩,.int .i64 3,.string ⟨#[109,97,110]⟩] 66 (0,0))
 tc:w.heap[tc]? = some (.cells #[.int .i64 1,.string ⟨#[109,97,110]⟩,.string ⟨#[]⟩,.string ⟨#[117,115,101,114]⟩] 72 (0,0))
theorem PpT.ev {ta fa tb fb tc:Nat} {w w':World} (h:PpT ta fa tb fb tc w) (e:Ev w w'):PpT ta fa tb fb tc w' :=
 ⟨e.keep _ _ _ h.ta (by decide) (by decide),e.keep _ _ _ h.fa (by decide) (by decide),e.keep _ _ _ h.tb (by decide) (by decide),e.keep _ _ _ h.fb (by decide) (by decide),e.keep _ _ _ h.tc (by decide) (by decide)⟩
structure PpF (n k:Nat) (p q r:Nat→Nat) (w:World):Prop where
 a:∀ i,i < k→w.heap[p i]? = some (.cells #[.string ⟨#[110,97,109,101]⟩,.string (kN i),.slice none 0 0] 59 (0,0))
 b:∀ i,i < k→w.heap[q i]? = some (.cells #[.string ⟨#[117,110,100,101,114]⟩,.string ⟨#[]⟩,keyV n r i] 59 (0,0))
 c:∀ i,i < k→i + 1 < n→w.heap[r i]? = some (.cells #[.string (kP (i + 1))] 9 (0,0))
theorem PpF.ev {n k:Nat} {p q r:Nat→Nat} {w w':World} (h:PpF n k p q r w) (e:Ev w w'):PpF n k p q r w' :=
 ⟨fun i hi=>e.keep _ _ _ (h.a i hi) (by decide) (by decide),fun i hi=>e.keep _ _ _ (h.b i hi) (by decide) (by decide),fun i hi h1=>e.keep _ _ _ (h.c i hi h1) (by decide) (by decide)⟩
theorem PpF.snoc {n k:Nat} {p q r:Nat→Nat} {w:World} (h:PpF n k p q r w) {b1 b2 b3:Nat} (h1:w.heap[b1]? = some (.cells #[.string ⟨#[110,97,109,101]⟩,.string (kN k),.slice none 0 0] 59 (0,0)))
  (h2:w.heap[b2]? = some (.cells #[.string ⟨#[117,110,100,101,114]⟩,.string ⟨#[]⟩,if k + 1 < n then .slice (some ⟨b3,0,none⟩) 1 1 else .slice none 0 0] 59 (0,0)))
  (h3:k + 1 < n→w.heap[b3]? = some (.cells #[.string (kP (k + 1))] 9 (0,0))):PpF n (k + 1) (upd p k b1) (upd q k b2) (upd r k b3) w:=by
 refine ⟨fun i hi=>?_,fun i hi=>?_,fun i hi h4=>?_⟩
 ·by_cases e:i=k
  ·subst e; simp only [upd,if_true]; exact h1
  ·simp only [upd,if_neg e]; exact h.a i (by omega)
 ·by_cases e:i=k
  ·subst e; simp only [upd,if_true,keyV]; exact h2
  ·have:=h.b i (by omega)
   simp only [upd,if_neg e,keyV] at this ⊢
   exact this
 ·by_cases e:i=k
  ·subst e; simp only [upd,if_true]; exact h3 h4
  ·simp only [upd,if_neg e]; exact h.c i (by omega) h4
structure Two (N:Nat) (w:World) (b1 b2:Nat) (x1 y1 x2 y2 v u:Value) (k m:Nat) (f g:Nat→Value):Prop where
 s1:w.heap[b1]? = some (.cells #[x1,y1,v] 40 (0,0))
 s2:w.heap[b2]? = some (.cells #[x2,y2,u] 40 (0,0))
 r1:Row w N 62 3 v k f
 r2:Row w N 62 3 u m g
 apart:∀ b,v.ownBlock=some b→u.ownBlock≠some b
 ne:b1≠b2
theorem Two.swap {N:Nat} {w:World} {b1 b2:Nat} {x1 y1 x2 y2 v u:Value} {k m:Nat} {f g:Nat→Value} (h:Two N w b1 b2 x1 y1 x2 y2 v u k m f g):Two N w b2 b1 x2 y2 x1 y1 u v m k g f:=⟨h.s2,h.s1,h.r2,h.r1,fun b hb hb'=>h.apart b hb' hb,fun e=>h.ne e.symm⟩
theorem Two.kept {N:Nat} {w w':World} {b1 b2:Nat} {x1 y1 x2 y2 v u:Value} {k m:Nat} {f g:Nat→Value} (h:Two N w b1 b2 x1 y1 x2 y2 v u k m f g) (hB:Below w.heap.size w w'):Two N w' b1 b2 x1 y1 x2 y2 v u k m f g :=
 ⟨(hB.block _ (lt_of_block h.s1)).trans h.s1,(hB.block _ (lt_of_block h.s2)).trans h.s2,h.r1.kept hB,h.r2.kept hB,h.apart,h.ne⟩
theorem alloc_old {w:World} {o:Obj} {b:Nat} {x:Obj} (h:w.heap[b]? = some x):(w.alloc o).heap[b]? = some x:=((below1 w o).block b (lt_of_block h)).trans h
theorem alloc_new_at {w:World} {o:Obj} {b:Nat} (h:b=w.heap.size):(w.alloc o).heap[b]? = some o:=h ▸ heap_alloc_new w o
theorem Two.one {N:Nat} {w w':World} {b1 b2:Nat} {x1 y1 x2 y2 v u v':Value} {k m:Nat} {f f' g:Nat→Value} (h:Two N w b1 b2 x1 y1 x2 y2 v u k m f g)
  (hrow:Row w' N 62 3 v' (k + 1) f') (hg:w.grownBy w' v.ownBlock) (hv:v'.ownBlock=v.ownBlock∨v'.ownBlock=some w.heap.size) :
  Two N (w'.setCell ⟨b1,2,none⟩ v') b1 b2 x1 y1 x2 y2 v' u (k + 1) m f' g∧Ev w (w'.setCell ⟨b1,2,none⟩ v'):=by
 have serv:∀ {b:Nat} {cs:Array Value},w.heap[b]? = some (.cells cs 40 (0,0))→w'.heap[b]? = some (.cells cs 40 (0,0)):=fun {b cs} hb=>by
  refine (hg.block b (lt_of_block hb) (fun e=>?_)).trans hb
  obtain ⟨cs',ho⟩:=h.r1.obj e.symm
  rw [hb] at ho
  cases ho
 have ha':=serv h.s1
 have hrb:Row w' N 62 3 u m g:=h.r2.at fun b hb=>hg.block b (h.r2.lt hb).2 (fun e=>h.apart b e.symm hb)
 have nb:∀ {M:Nat} {v:Value} {f : Nat→Value},Row w' N 62 3 v M f→v.ownBlock≠some b1:=fun hr e=>by
  obtain ⟨cs',ho⟩:=hr.obj e
  rw [ha'] at ho
  cases ho
 refine ⟨⟨?_,?_,hrow.set_other (p:=⟨b1,2,none⟩) (nb hrow) _,hrb.set_other (p:=⟨b1,2,none⟩) (nb hrb) _,fun b hb hb'=>?_,h.ne⟩,(Ev.grown hg h.r1).trans (Ev.set ha' _)⟩
 ·exact heap_setCell_same _ b1 2 _ 40 v' ha'
 ·rw [Below.heap_setCell _ _ _ _ (by show b2≠b1; exact fun e'=>h.ne e'.symm)]
  exact serv h.s2
 ·rcases hv with hv | hv
  ·exact h.apart b (hv ▸ hb) hb'
  ·rw [hv] at hb
   cases hb
   have:=(h.r2.lt hb').2
   omega
theorem Below.one {N k:Nat} {w w1 w':World} {v v':Value} {b:Nat} {f : Nat→Value} (h:Below N w w1) (hr:Row w1 N 62 3 v k f) (hg:w1.grownBy w' v.ownBlock) (hN:N≤w1.heap.size) (hb:N≤b):Below N w (w'.setCell ⟨b,2,none⟩ v') :=
 (h.grown hg hN (fun _ hk=>(hr.lt hk).1)).setCell hb _
theorem key_kP (n:Nat) (hn:n≤40) (w:World):Calls Tryz.prog 17 #[.int .i64 (n:Int)] w fun e w'=>e = .returned (.string (kP n))∧Below w.heap.size w w':=key_any n hn w
set_option maxRecDepth 100000 in
set_option maxHeartbeats 4000000 in
theorem people_lo (n:Nat) (hn:n≤40) (w:World):Calls Tryz.prog 18 #[.int .i64 (n:Int)] w fun e w'=>(∃ ba bb ta fa tb fb tc p q r va vb lb,e = .returned (.slice (some ⟨lb,0,none⟩) 2 2)∧PpT ta fa tb fb tc w'∧PpF n n p q r w'∧Two w.heap.size w' ba bb (.slice (some ⟨ta,0,none⟩) 1 1) (.slice none 0 0) (.slice (some ⟨tb,0,none⟩) 1 1) (.slice (some ⟨tc,0,none⟩) 1 1) va vb n n (tcell ⟨#[117,115,101,114]⟩ p) (tcell ⟨#[109,97,110]⟩ q)∧w'.heap[lb]? = some (.cells #[.slice (some ⟨ta,0,none⟩) 1 1,.slice none 0 0,va,.slice (some ⟨tb,0,none⟩) 1 1,.slice (some ⟨tc,0,none⟩) 1 1,vb] 40 (0,0))∧(∀ i,i < n→w.heap.size≤q i)∧w.heap.size≤lb)∧Below w.heap.size w w':=by
 obtain ⟨i0,hi0,hz0,hz1,hz2⟩:=info_parts' Tryz.info62
 have hcl:=word_any ⟨#[110,97,109,101]⟩ w
 go_enter Tryz.func18,Tryz.ntmps18
 go_wp2_with fail
 refine hcl.mono ?_
 clear hcl
 rintro e w1 ⟨rfl,hw1⟩
 go_upto_region 4 with fail
 generalize hX:(((((((w1.alloc (Obj.cells #[.string ⟨#[110,97,109,101]⟩,.int .i64 1,.string ⟨#[]⟩] 66)).alloc (Obj.cells #[.string ⟨#[117,115,101,114]⟩,.slice (some ⟨w1.heap.size,0,none⟩) 1 1] 70)).alloc (Obj.cells #[.slice (some ⟨w1.heap.size + 1,0,none⟩) 1 1,.slice none 0 0,.slice none 0 0] 40)).alloc (Obj.cells #[.string ⟨#[117,110,100,101,114]⟩,.int .i64 3,.string ⟨#[109,97,110]⟩] 66)).alloc (Obj.cells #[.string ⟨#[109,97,110]⟩,.slice (some ⟨w1.heap.size + 1 + 1 + 1,0,none⟩) 1 1] 70)).alloc (Obj.cells #[.int .i64 1,.string ⟨#[109,97,110]⟩,.string ⟨#[]⟩,.string ⟨#[117,115,101,114]⟩] 72)).alloc (Obj.cells #[.slice (some ⟨w1.heap.size + 1 + 1 + 1 + 1,0,none⟩) 1 1,.slice (some ⟨w1.heap.size + 1 + 1 + 1 + 1 + 1,0,none⟩) 1 1,.slice none 0 0] 40))=X
 have HT:Hid (PpT (w1.heap.size + 1) w1.heap.size (w1.heap.size + 1 + 1 + 1 + 1) (w1.heap.size + 1 + 1 + 1) (w1.heap.size + 1 + 1 + 1 + 1 + 1) X):=Hid.intro (by
  rw [← hX]
  exact ⟨alloc_old (alloc_old (alloc_old (alloc_old (alloc_old (alloc_new_at (by simp)))))),alloc_old (alloc_old (alloc_old (alloc_old (alloc_old (alloc_old (alloc_new_at rfl)))))),alloc_old (alloc_old (alloc_new_at (by simp))),alloc_old (alloc_old (alloc_old (alloc_new_at (by simp)))),alloc_old (alloc_new_at (by simp))⟩)
 have HW:Hid (Two w.heap.size X (w1.heap.size + 1 + 1) (w1.heap.size + 1 + 1 + 1 + 1 + 1 + 1) (.slice (some ⟨w1.heap.size + 1,0,none⟩) 1 1) (.slice none 0 0) (.slice (some ⟨w1.heap.size + 1 + 1 + 1 + 1,0,none⟩) 1 1) (.slice (some ⟨w1.heap.size + 1 + 1 + 1 + 1 + 1,0,none⟩) 1 1) (.slice none 0 0) (.slice none 0 0) 0 0 (tcell ⟨#[117,115,101,114]⟩ (fun _=>0)) (tcell ⟨#[109,97,110]⟩ (fun _=>0))):=Hid.intro (by
  rw [← hX]
  exact ⟨alloc_old (alloc_old (alloc_old (alloc_old (alloc_new_at (by simp))))),alloc_new_at (by simp),World.ownsRow_nil _ _ _ _,World.ownsRow_nil _ _ _ _,(fun b h=>by cases h),by omega⟩)
 have HB:Hid (Below w.heap.size w X):=Hid.intro (by
  rw [← hX]
  exact hw1.trans (Below.mono (Below.alloc (Below.alloc (Below.alloc (Below.alloc (Below.alloc (Below.alloc (below1 w1 _) (by simp) _) (by simp; omega) _) (by simp; omega) _) (by simp; omega) _) (by simp; omega) _) (by simp; omega) _) hw1.size))
 have hba:w.heap.size≤w1.heap.size + 1 + 1:=by have:=hw1.size; omega
 have hbb:w.heap.size≤w1.heap.size + 1 + 1 + 1 + 1 + 1 + 1:=by have:=hw1.size; omega
 clear hX hw1
 generalize w1.heap.size + 1 + 1 + 1 + 1 + 1 + 1=bb at *
 generalize w1.heap.size + 1 + 1 + 1 + 1 + 1=tc at *
 generalize w1.heap.size + 1 + 1 + 1 + 1=tb at *
 generalize w1.heap.size + 1 + 1 + 1=fb at *
 generalize w1.heap.size + 1 + 1=ba at *
 generalize w1.heap.size + 1=ta at *
 generalize w1.heap.size=fa at *
 go_loopw [21] (fun i wr => ∃ (k:Nat) (p q r:Nat→Nat) (va vb:Value),k≤n∧i = .int .i64 (k:Int)∧PpT ta fa tb fb tc wr∧PpF n k p q r wr∧Two w.heap.size wr ba bb (.slice (some ⟨ta,0,none⟩) 1 1) (.slice none 0 0) (.slice (some ⟨tb,0,none⟩) 1 1) (.slice (some ⟨tc,0,none⟩) 1 1) va vb k k (tcell ⟨#[117,115,101,114]⟩ p) (tcell ⟨#[109,97,110]⟩ q)∧Below w.heap.size w wr∧Hid (∀ i,i < k→w.heap.size≤q i)) (fun i _=>n - (intOf i).toNat)
 case atStart=>exact ⟨0,fun _=>0,fun _=>0,fun _=>0,_,_,Nat.zero_le _,rfl,HT.out,⟨fun i hi=>absurd hi (Nat.not_lt_zero _),fun i hi=>absurd hi (Nat.not_lt_zero _),fun i hi=>absurd hi (Nat.not_lt_zero _)⟩,HW.out,HB.out,Hid.intro (fun i hi=>absurd hi (Nat.not_lt_zero _))⟩
 case round =>
  obtain ⟨k,p,q,r,va,vb,hk,rfl,hT,hF,hTw,hw,HQL⟩:=hrel
  by_cases hlt:k < n
  ·have hlt':(k:Int) < (n:Int):=by omega
   have hcl:=key_kP k (by omega) wr
   obtain ⟨x,y,hxy⟩:∃ x y,kP k=⟨#[117,x,y]⟩:=⟨_,_,rfl⟩
   have HKN:Hid ((⟨#[78]⟩:ByteArray) ++ ⟨#[117,x,y]⟩=kN k):=Hid.intro (by rw [← hxy]; exact kN_eq k)
   have HKP:Hid (kP k=⟨#[117,x,y]⟩):=Hid.intro hxy
   rw [hxy] at hcl
   have HT:=Hid.intro hT
   have HF:=Hid.intro hF
   have HTW:=Hid.intro hTw
   have HW:=Hid.intro hw
   clear hT hF hTw hw hxy
   go_wp2_with fail
   refine hcl.mono ?_
   clear hcl
   rintro e w2 ⟨rfl,hw2⟩
   have HT:=Hid.intro (HT.out.ev (.of hw2))
   have HF:=Hid.intro (HF.out.ev (.of hw2))
   have HTW:=Hid.intro (HTW.out.kept hw2)
   have HW:=Hid.intro (HW.out.trans (hw2.mono HW.out.size))
   clear hw2
   obtain ⟨a1,c1,hva,-⟩:=HTW.out.r1.slice
   subst hva
   obtain ⟨a4,c4,hvb,-⟩:=HTW.out.r2.slice
   subst hvb
   generalize hY:w2.alloc (Obj.cells #[.string ⟨#[110,97,109,101]⟩,.string (⟨#[78]⟩ ++ ⟨#[117,x,y]⟩),.slice none 0 0] 59)=Y
   have hBY:Below w2.heap.size w2 Y:=by rw [← hY]; exact below1 _ _
   have hY1:Y.heap[w2.heap.size]? = some (.cells #[.string ⟨#[110,97,109,101]⟩,.string (⟨#[78]⟩ ++ ⟨#[117,x,y]⟩),.slice none 0 0] 59 (0,0)):=by rw [← hY]; exact heap_alloc_new _ _
   have HTWY:=Hid.intro (HTW.out.kept hBY)
   have HBY:=Hid.intro (HW.out.trans (hBY.mono HW.out.size))
   have HSZ:Hid (w.heap.size≤Y.heap.size):=Hid.intro HBY.out.size
   obtain ⟨d2,d3⟩:w2.cell? ⟨ba,2,none⟩=some (.slice a1 k c1)∧w2.frozen? ⟨ba,2,none⟩=false:=by simp [World.cell?,World.frozen?,HTW.out.s1]
   have HEY:=Hid.intro (Ev.of hBY)
   have HY1:=Hid.intro hY1
   clear hBY hY1
   go_wp2_with (at_builtin; refine wpList_append_any _ rfl _ _ 38 rfl w.heap.size 62 i0 _ 3 56 Tryz.underlying38 hi0 hz0 hz1 hz2 rfl (by decide) _ k _ rfl (HTWY.out.r1.kept (below1 Y (Obj.cells #[.string ⟨#[117,115,101,114]⟩,.string ⟨#[117,x,y]⟩,.slice (some ⟨w2.heap.size,0,none⟩) 1 1] 62))) (some ⟨Y.heap.size,0,none⟩) 1 1 [.string ⟨#[117,115,101,114]⟩,.string ⟨#[117,x,y]⟩,.slice (some ⟨w2.heap.size,0,none⟩) 1 1] rfl rfl (alloc_news Y #[.string ⟨#[117,115,101,114]⟩,.string ⟨#[117,x,y]⟩,.slice (some ⟨w2.heap.size,0,none⟩) 1 1] _) (fun h=>by cases h) (by intro u hu; simp at hu; rcases hu with rfl | rfl | rfl <;> rfl) (by unfold maxLen; omega) (by omega) (by have:=HSZ.out; simp; omega) ?_)
   intro v' w' hown hg hv'
   have hTB:=HTWY.out.kept (below1 Y (Obj.cells #[.string ⟨#[117,115,101,114]⟩,.string ⟨#[117,x,y]⟩,.slice (some ⟨w2.heap.size,0,none⟩) 1 1] 62))
   have hrow:Row w' w.heap.size 62 3 v' (k + 1) (tcell ⟨#[117,115,101,114]⟩ (upd p k w2.heap.size)):=by
    unfold Row; rw [tcells_snoc,HKP.out]; exact hown
   obtain ⟨a2,c2,hv2,-⟩:=hrow.slice
   subst hv2
   obtain ⟨hTC,hEC⟩:=hTB.one hrow hg (by simpa using hv')
   have hEv:Ev Y (w'.setCell ⟨ba,2,none⟩ (.slice a2 (k + 1) c2)):=(Ev.of (below1 Y _)).trans hEC
   have HB3:Hid (Below w.heap.size w (w'.setCell ⟨ba,2,none⟩ (.slice a2 (k + 1) c2))):=Hid.intro (Below.one (HBY.out.trans ((below1 Y _).mono HSZ.out)) hTB.r1 hg (by have:=HSZ.out; simp; omega) hba)
   have e2:w'.cell? ⟨ba,2,none⟩=some (.slice a1 k c1)∧w'.frozen? ⟨ba,2,none⟩=false:=by
    have hb:w'.heap[ba]? = some (.cells #[.slice (some ⟨ta,0,none⟩) 1 1,.slice none 0 0,.slice a1 k c1] 40 (0,0)):=by
     refine (hg.block ba (lt_of_block hTB.s1) (fun e=>?_)).trans hTB.s1
     obtain ⟨cs',ho⟩:=hTB.r1.obj e.symm
     rw [hTB.s1] at ho
     cases ho
    simp [World.cell?,World.frozen?,hb]
   obtain ⟨e2,e3⟩:=e2
   have HT:=Hid.intro ((HT.out.ev HEY.out).ev hEv)
   have HF:=Hid.intro ((HF.out.ev HEY.out).ev hEv)
   have HY1:=Hid.intro (hEv.keep _ _ _ HY1.out (by decide) (by decide))
   have HTC:=Hid.intro hTC
   clear hown hg hv' hTB hrow hTC hEC hEv HTWY HBY HSZ HEY d2 d3
   go_upto_region 8 with fail
   clear hY e2 e3
   generalize w'.setCell ⟨ba,2,none⟩ (.slice a2 (k + 1) c2)=Z at *
   go_upto_region 9 with fail
   generalize hU:Z.alloc (Obj.cells #[.string ⟨#[117,110,100,101,114]⟩,.string ⟨#[]⟩,.slice none 0 0] 59)=U
   have hBU:Below Z.heap.size Z U:=by rw [← hU]; exact below1 _ _
   have hU1:U.heap[Z.heap.size]? = some (.cells #[.string ⟨#[117,110,100,101,114]⟩,.string ⟨#[]⟩,.slice none 0 0] 59 (0,0)):=by rw [← hU]; exact heap_alloc_new _ _
   by_cases hk1:k + 1 < n
   ·have hk1':(k:Int) + 1 < (n:Int):=by omega
    have hcl:=key_kP (k + 1) (by omega) U
    rw [show ((k + 1:Nat):Int)=(k:Int) + 1 from by omega] at hcl
    obtain ⟨x2,y2,hxy2⟩:∃ x y,kP (k + 1)=⟨#[117,x,y]⟩:=⟨_,_,rfl⟩
    have HKP2:Hid (kP (k + 1)=⟨#[117,x2,y2]⟩):=Hid.intro hxy2
    rw [hxy2] at hcl
    have HBU:=Hid.intro hBU
    have HU1:=Hid.intro hU1
    clear hxy2 hBU hU1
    go_wp2_with fail
    clear hU
    refine hcl.mono ?_
    clear hcl
    rintro e w3 ⟨rfl,hw3⟩
    generalize hD:w3.alloc (Obj.cells #[.string ⟨#[117,x2,y2]⟩] 9)=D
    have hU3:=(hw3.block _ (lt_of_block HU1.out)).trans HU1.out
    have hUD:D.heap[Z.heap.size]? = some (.cells #[.string ⟨#[117,110,100,101,114]⟩,.string ⟨#[]⟩,.slice none 0 0] 59 (0,0)):=by rw [← hD]; exact alloc_old hU3
    have hDs:D.heap[w3.heap.size]? = some (.cells #[.string ⟨#[117,x2,y2]⟩] 9 (0,0)):=by rw [← hD]; exact heap_alloc_new _ _
    obtain ⟨b2,b3⟩:D.cell? ⟨Z.heap.size,2,none⟩=some (.slice none 0 0)∧D.frozen? ⟨Z.heap.size,2,none⟩=false:=by simp [World.cell?,World.frozen?,hUD]
    generalize hE:D.setCell ⟨Z.heap.size,2,none⟩ (.slice (some ⟨w3.heap.size,0,none⟩) 1 1)=E
    have hE1:E.heap[Z.heap.size]? = some (.cells #[.string ⟨#[117,110,100,101,114]⟩,.string ⟨#[]⟩,.slice (some ⟨w3.heap.size,0,none⟩) 1 1] 59 (0,0)):=by rw [← hE]; exact heap_setCell_same _ _ 2 _ 59 _ hUD
    have hne3:w3.heap.size≠Z.heap.size:=fun e=>by have h1:=lt_of_block hU3; rw [e] at h1; omega
    have hR3:E.heap[w3.heap.size]? = some (.cells #[.string ⟨#[117,x2,y2]⟩] 9 (0,0)):=by rw [← hE,Below.heap_setCell _ _ _ _ (by show w3.heap.size≠Z.heap.size; exact hne3)]; exact hDs
    have hBE:Below Z.heap.size Z E:=by
     have h1:Below Z.heap.size Z D:=by rw [← hD]; exact (HBU.out.trans (hw3.mono HBU.out.size)).trans ((below1 w3 _).mono (Nat.le_trans HBU.out.size hw3.size))
     rw [← hE]; exact h1.setCell (Nat.le_refl _) _
    obtain ⟨b4,b5,b6⟩:E.cell? ⟨Z.heap.size,0,none⟩=some (.string ⟨#[117,110,100,101,114]⟩)∧E.cell? ⟨Z.heap.size,1,none⟩=some (.string ⟨#[]⟩)∧E.cell? ⟨Z.heap.size,2,none⟩=some (.slice (some ⟨w3.heap.size,0,none⟩) 1 1):=by simp [World.cell?,hE1]
    have HR3:=Hid.intro hR3
    clear hw3 hU3 hUD hDs hE1 hne3 hR3 HBU HU1
    go_upto_region 11 with fail
    clear hD hE b2 b3
    have HTE:=Hid.intro (HTC.out.kept hBE)
    have HT:=Hid.intro (HT.out.ev (.of hBE))
    have HF:=Hid.intro (HF.out.ev (.of hBE))
    have HY1:=Hid.intro ((Ev.of hBE).keep _ _ _ HY1.out (by decide) (by decide))
    have HBE:=Hid.intro (HB3.out.trans (hBE.mono HB3.out.size))
    obtain ⟨d2,d3⟩:E.cell? ⟨bb,2,none⟩=some (.slice a4 k c4)∧E.frozen? ⟨bb,2,none⟩=false:=by simp [World.cell?,World.frozen?,HTE.out.s2]
    have HLE:Hid (w.heap.size≤E.heap.size):=Hid.intro HBE.out.size
    clear hBE HTC HB3
    generalize hG:E.alloc (Obj.cells #[.string ⟨#[117,110,100,101,114]⟩,.string ⟨#[]⟩,.slice (some ⟨w3.heap.size,0,none⟩) 1 1] 59)=G
    have hBG:Below E.heap.size E G:=by rw [← hG]; exact below1 _ _
    have hG1:G.heap[E.heap.size]? = some (.cells #[.string ⟨#[117,110,100,101,114]⟩,.string ⟨#[]⟩,.slice (some ⟨w3.heap.size,0,none⟩) 1 1] 59 (0,0)):=by rw [← hG]; exact heap_alloc_new _ _
    have HTG:=Hid.intro (HTE.out.kept hBG)
    have HBG:=Hid.intro (HBE.out.trans (hBG.mono HBE.out.size))
    have HSZ:Hid (w.heap.size≤G.heap.size):=Hid.intro HBG.out.size
    have HEG:=Hid.intro (Ev.of hBG)
    have HG1:=Hid.intro hG1
    clear hBG hG1 HTE HBE
    go_wp2_with (at_builtin; refine wpList_append_any _ rfl _ _ 38 rfl w.heap.size 62 i0 _ 3 56 Tryz.underlying38 hi0 hz0 hz1 hz2 rfl (by decide) _ k _ rfl (HTG.out.r2.kept (below1 G (Obj.cells #[.string ⟨#[109,97,110]⟩,.string ⟨#[117,x,y]⟩,.slice (some ⟨E.heap.size,0,none⟩) 1 1] 62))) (some ⟨G.heap.size,0,none⟩) 1 1 [.string ⟨#[109,97,110]⟩,.string ⟨#[117,x,y]⟩,.slice (some ⟨E.heap.size,0,none⟩) 1 1] rfl rfl (alloc_news G #[.string ⟨#[109,97,110]⟩,.string ⟨#[117,x,y]⟩,.slice (some ⟨E.heap.size,0,none⟩) 1 1] _) (fun h=>by cases h) (by intro u hu; simp at hu; rcases hu with rfl | rfl | rfl <;> rfl) (by unfold maxLen; omega) (by omega) (by have:=HSZ.out; simp; omega) ?_)
    intro v' w' hown hg hv'
    have hTB:=(HTG.out.kept (below1 G (Obj.cells #[.string ⟨#[109,97,110]⟩,.string ⟨#[117,x,y]⟩,.slice (some ⟨E.heap.size,0,none⟩) 1 1] 62))).swap
    have hrow:Row w' w.heap.size 62 3 v' (k + 1) (tcell ⟨#[109,97,110]⟩ (upd q k E.heap.size)):=by
     unfold Row; rw [tcells_snoc,HKP.out]; exact hown
    obtain ⟨a5,c5,hv5,-⟩:=hrow.slice
    subst hv5
    obtain ⟨hTC,hEC⟩:=hTB.one hrow hg (by simpa using hv')
    have hEv:Ev G (w'.setCell ⟨bb,2,none⟩ (.slice a5 (k + 1) c5)):=(Ev.of (below1 G _)).trans hEC
    have HB5:Hid (Below w.heap.size w (w'.setCell ⟨bb,2,none⟩ (.slice a5 (k + 1) c5))):=Hid.intro (Below.one (HBG.out.trans ((below1 G _).mono HSZ.out)) hTB.r1 hg (by have:=HSZ.out; simp; omega) hbb)
    have e2:w'.cell? ⟨bb,2,none⟩=some (.slice a4 k c4)∧w'.frozen? ⟨bb,2,none⟩=false:=by
     have hb:w'.heap[bb]? = some (.cells #[.slice (some ⟨tb,0,none⟩) 1 1,.slice (some ⟨tc,0,none⟩) 1 1,.slice a4 k c4] 40 (0,0)):=by
      refine (hg.block bb (lt_of_block hTB.s1) (fun e=>?_)).trans hTB.s1
      obtain ⟨cs',ho⟩:=hTB.r1.obj e.symm
      rw [hTB.s1] at ho
      cases ho
     simp [World.cell?,World.frozen?,hb]
    obtain ⟨e2,e3⟩:=e2
    have HT:=Hid.intro ((HT.out.ev HEG.out).ev hEv)
    have HF2:=Hid.intro (((HF.out.ev HEG.out).ev hEv).snoc (b1:=w2.heap.size) (b2:=E.heap.size) (b3:=w3.heap.size) (by rw [← HKN.out]; exact hEv.keep _ _ _ (HEG.out.keep _ _ _ HY1.out (by decide) (by decide)) (by decide) (by decide)) (by rw [if_pos hk1]; exact hEv.keep _ _ _ HG1.out (by decide) (by decide)) (fun h=>(by rw [HKP2.out]; exact hEv.keep _ _ _ (HEG.out.keep _ _ _ HR3.out (by decide) (by decide)) (by decide) (by decide))))
    have HTW6:=Hid.intro hTC.swap
    have HQ2:Hid (∀ i,i < k + 1→w.heap.size≤upd q k E.heap.size i):=Hid.intro fun i hi=>by
     unfold upd
     by_cases e:i=k
     ·rw [if_pos e]; exact HLE.out
     ·rw [if_neg e]; exact HQL.out i (by omega)
    clear hown hg hv' hTB hrow hTC hEC hEv HTG HBG HSZ HEG d2 d3 HG1 HY1 HF
    go_wp2_with fail
    clear hG e2 e3
    go_roundw
    case rel=>exact ⟨k + 1,_,_,_,_,_,by omega,by go_num,HT.out,HF2.out,HTW6.out,HB5.out,HQ2⟩
    case measure=>simp [intOf]; omega
   ·have hk1' : ¬ (k:Int) + 1 < (n:Int):=by omega
    obtain ⟨b4,b5,b6⟩:U.cell? ⟨Z.heap.size,0,none⟩=some (.string ⟨#[117,110,100,101,114]⟩)∧U.cell? ⟨Z.heap.size,1,none⟩=some (.string ⟨#[]⟩)∧U.cell? ⟨Z.heap.size,2,none⟩=some (.slice none 0 0):=by simp [World.cell?,hU1]
    have HBU:=Hid.intro hBU
    clear hBU hU1
    go_upto_region 11 with fail
    clear hU
    obtain ⟨E,hEU⟩:∃ E,E=U:=⟨_,rfl⟩
    subst hEU
    have hBE:=HBU.out
    clear HBU
    have HTE:=Hid.intro (HTC.out.kept hBE)
    have HT:=Hid.intro (HT.out.ev (.of hBE))
    have HF:=Hid.intro (HF.out.ev (.of hBE))
    have HY1:=Hid.intro ((Ev.of hBE).keep _ _ _ HY1.out (by decide) (by decide))
    have HBE:=Hid.intro (HB3.out.trans (hBE.mono HB3.out.size))
    obtain ⟨d2,d3⟩:E.cell? ⟨bb,2,none⟩=some (.slice a4 k c4)∧E.frozen? ⟨bb,2,none⟩=false:=by simp [World.cell?,World.frozen?,HTE.out.s2]
    have HLE:Hid (w.heap.size≤E.heap.size):=Hid.intro HBE.out.size
    clear hBE HTC HB3
    generalize hG:E.alloc (Obj.cells #[.string ⟨#[117,110,100,101,114]⟩,.string ⟨#[]⟩,.slice none 0 0] 59)=G
    have hBG:Below E.heap.size E G:=by rw [← hG]; exact below1 _ _
    have hG1:G.heap[E.heap.size]? = some (.cells #[.string ⟨#[117,110,100,101,114]⟩,.string ⟨#[]⟩,.slice none 0 0] 59 (0,0)):=by rw [← hG]; exact heap_alloc_new _ _
    have HTG:=Hid.intro (HTE.out.kept hBG)
    have HBG:=Hid.intro (HBE.out.trans (hBG.mono HBE.out.size))
    have HSZ:Hid (w.heap.size≤G.heap.size):=Hid.intro HBG.out.size
    have HEG:=Hid.intro (Ev.of hBG)
    have HG1:=Hid.intro hG1
    clear hBG hG1 HTE HBE
    go_wp2_with (at_builtin; refine wpList_append_any _ rfl _ _ 38 rfl w.heap.size 62 i0 _ 3 56 Tryz.underlying38 hi0 hz0 hz1 hz2 rfl (by decide) _ k _ rfl (HTG.out.r2.kept (below1 G (Obj.cells #[.string ⟨#[109,97,110]⟩,.string ⟨#[117,x,y]⟩,.slice (some ⟨E.heap.size,0,none⟩) 1 1] 62))) (some ⟨G.heap.size,0,none⟩) 1 1 [.string ⟨#[109,97,110]⟩,.string ⟨#[117,x,y]⟩,.slice (some ⟨E.heap.size,0,none⟩) 1 1] rfl rfl (alloc_news G #[.string ⟨#[109,97,110]⟩,.string ⟨#[117,x,y]⟩,.slice (some ⟨E.heap.size,0,none⟩) 1 1] _) (fun h=>by cases h) (by intro u hu; simp at hu; rcases hu with rfl | rfl | rfl <;> rfl) (by unfold maxLen; omega) (by omega) (by have:=HSZ.out; simp; omega) ?_)
    intro v' w' hown hg hv'
    have hTB:=(HTG.out.kept (below1 G (Obj.cells #[.string ⟨#[109,97,110]⟩,.string ⟨#[117,x,y]⟩,.slice (some ⟨E.heap.size,0,none⟩) 1 1] 62))).swap
    have hrow:Row w' w.heap.size 62 3 v' (k + 1) (tcell ⟨#[109,97,110]⟩ (upd q k E.heap.size)):=by
     unfold Row; rw [tcells_snoc,HKP.out]; exact hown
    obtain ⟨a5,c5,hv5,-⟩:=hrow.slice
    subst hv5
    obtain ⟨hTC,hEC⟩:=hTB.one hrow hg (by simpa using hv')
    have hEv:Ev G (w'.setCell ⟨bb,2,none⟩ (.slice a5 (k + 1) c5)):=(Ev.of (below1 G _)).trans hEC
    have HB5:Hid (Below w.heap.size w (w'.setCell ⟨bb,2,none⟩ (.slice a5 (k + 1) c5))):=Hid.intro (Below.one (HBG.out.trans ((below1 G _).mono HSZ.out)) hTB.r1 hg (by have:=HSZ.out; simp; omega) hbb)
    have e2:w'.cell? ⟨bb,2,none⟩=some (.slice a4 k c4)∧w'.frozen? ⟨bb,2,none⟩=false:=by
     have hb:w'.heap[bb]? = some (.cells #[.slice (some ⟨tb,0,none⟩) 1 1,.slice (some ⟨tc,0,none⟩) 1 1,.slice a4 k c4] 40 (0,0)):=by
      refine (hg.block bb (lt_of_block hTB.s1) (fun e=>?_)).trans hTB.s1
      obtain ⟨cs',ho⟩:=hTB.r1.obj e.symm
      rw [hTB.s1] at ho
      cases ho
     simp [World.cell?,World.frozen?,hb]
    obtain ⟨e2,e3⟩:=e2
    have HT:=Hid.intro ((HT.out.ev HEG.out).ev hEv)
    have HF2:=Hid.intro (((HF.out.ev HEG.out).ev hEv).snoc (b1:=w2.heap.size) (b2:=E.heap.size) (b3:=0) (by rw [← HKN.out]; exact hEv.keep _ _ _ (HEG.out.keep _ _ _ HY1.out (by decide) (by decide)) (by decide) (by decide)) (by rw [if_neg hk1]; exact hEv.keep _ _ _ HG1.out (by decide) (by decide)) (fun h=>absurd h hk1))
    have HTW6:=Hid.intro hTC.swap
    have HQ2:Hid (∀ i,i < k + 1→w.heap.size≤upd q k E.heap.size i):=Hid.intro fun i hi=>by
     unfold upd
     by_cases e:i=k
     ·rw [if_pos e]; exact HLE.out
     ·rw [if_neg e]; exact HQL.out i (by omega)
    clear hown hg hv' hTB hrow hTC hEC hEv HTG HBG HSZ HEG d2 d3 HG1 HY1 HF
    go_wp2_with fail
    clear hG e2 e3
    go_roundw
    case rel=>exact ⟨k + 1,_,_,_,_,_,by omega,by go_num,HT.out,HF2.out,HTW6.out,HB5.out,HQ2⟩
    case measure=>simp [intOf]; omega
  ·have hkn:k=n:=by omega
   subst hkn
   obtain ⟨a1,c1,hva,-⟩:=hTw.r1.slice
   subst hva
   obtain ⟨a4,c4,hvb,-⟩:=hTw.r2.slice
   subst hvb
   obtain ⟨d0,d1,d2⟩:wr.cell? ⟨ba,0,none⟩=some (.slice (some ⟨ta,0,none⟩) 1 1)∧wr.cell? ⟨ba,1,none⟩=some (.slice none 0 0)∧wr.cell? ⟨ba,2,none⟩=some (.slice a1 k c1):=by simp [World.cell?,hTw.s1]
   obtain ⟨d3,d4,d5⟩:wr.cell? ⟨bb,0,none⟩=some (.slice (some ⟨tb,0,none⟩) 1 1)∧wr.cell? ⟨bb,1,none⟩=some (.slice (some ⟨tc,0,none⟩) 1 1)∧wr.cell? ⟨bb,2,none⟩=some (.slice a4 k c4):=by simp [World.cell?,hTw.s2]
   have HFIN:Hid (∀ o:Obj,PpT ta fa tb fb tc (wr.alloc o)∧PpF k k p q r (wr.alloc o)∧Two w.heap.size (wr.alloc o) ba bb (.slice (some ⟨ta,0,none⟩) 1 1) (.slice none 0 0) (.slice (some ⟨tb,0,none⟩) 1 1) (.slice (some ⟨tc,0,none⟩) 1 1) (.slice a1 k c1) (.slice a4 k c4) k k (tcell ⟨#[117,115,101,114]⟩ p) (tcell ⟨#[109,97,110]⟩ q)∧Below w.heap.size w (wr.alloc o)):=Hid.intro fun o=>⟨hT.ev (.of (below1 wr o)),hF.ev (.of (below1 wr o)),hTw.kept (below1 wr o),hw.trans ((below1 wr o).mono hw.size)⟩
   have HLB:Hid (w.heap.size≤wr.heap.size):=Hid.intro hw.size
   clear hT hF hTw hw HT HW HB
   go_wp2_with fail
   go_ret
   obtain ⟨f1,f2,f3,f4⟩:=HFIN.out (Obj.cells #[.slice (some ⟨ta,0,none⟩) 1 1,.slice none 0 0,.slice a1 k c1,.slice (some ⟨tb,0,none⟩) 1 1,.slice (some ⟨tc,0,none⟩) 1 1,.slice a4 k c4] 40)
   exact ⟨⟨ba,bb,ta,fa,tb,fb,tc,p,q,r,_,_,wr.heap.size,rfl,f1,f2,f3,heap_alloc_new _ _,HQL.out,HLB.out⟩,f4⟩
theorem people_any (n:Nat) (hn:n≤40) (w:World):Calls Tryz.prog 18 #[.int .i64 (n:Int)] w fun e w'=>(∃ ba bb ta fa tb fb tc p q r va vb lb,e = .returned (.slice (some ⟨lb,0,none⟩) 2 2)∧PpT ta fa tb fb tc w'∧PpF n n p q r w'∧Two w.heap.size w' ba bb (.slice (some ⟨ta,0,none⟩) 1 1) (.slice none 0 0) (.slice (some ⟨tb,0,none⟩) 1 1) (.slice (some ⟨tc,0,none⟩) 1 1) va vb n n (tcell ⟨#[117,115,101,114]⟩ p) (tcell ⟨#[109,97,110]⟩ q)∧w'.heap[lb]? = some (.cells #[.slice (some ⟨ta,0,none⟩) 1 1,.slice none 0 0,va,.slice (some ⟨tb,0,none⟩) 1 1,.slice (some ⟨tc,0,none⟩) 1 1,vb] 40 (0,0)))∧Below w.heap.size w w' :=
 (people_lo n hn w).mono fun _ _ ⟨⟨ba,bb,ta,fa,tb,fb,tc,p,q,r,va,vb,lb,h1,h2,h3,h4,h5,_⟩,h6⟩=>⟨⟨ba,bb,ta,fa,tb,fb,tc,p,q,r,va,vb,lb,h1,h2,h3,h4,h5⟩,h6⟩
end Go.Proofs.YtjjggefmmeminacGreat
