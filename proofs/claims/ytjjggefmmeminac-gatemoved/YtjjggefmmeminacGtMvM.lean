import Derived.Test.YtjjggefmmeminacGtMvP
import Derived.Test.YtjjggefmmeminacJSv
namespace Go.Proofs.Ytjjggefmmeminac
open Go.RowKit Go.Sort Go.PlainAid
structure MvB (N:Nat) (w:World) (b1 b2:Nat) (vt ut vx ux:Value) (k1 k2 m1 m2:Nat) (f g p q:Nat→Value):Prop where
 s1:w.heap[b1]? = some (.cells #[vt,.slice none 0 0,vx] 47 (0,0))
 s2:w.heap[b2]? = some (.cells #[ut,.slice none 0 0,ux] 47 (0,0))
 t1:Row w N 50 2 vt k1 f
 t2:Row w N 50 2 ut k2 g
 x1:Row w N 59 3 vx m1 p
 x2:Row w N 59 3 ux m2 q
 tap:∀ b,vt.ownBlock=some b→ut.ownBlock≠some b
 xap:∀ b,vx.ownBlock=some b→ux.ownBlock≠some b
 ne:b1≠b2
theorem MvB.swap {N:Nat} {w:World} {b1 b2:Nat} {vt ut vx ux:Value} {k1 k2 m1 m2:Nat} {f g p q:Nat→Value} (h:MvB N w b1 b2 vt ut vx ux k1 k2 m1 m2 f g p q):MvB N w b2 b1 ut vt ux vx k2 k1 m2 m1 g f q p :=
 ⟨h.s2,h.s1,h.t2,h.t1,h.x2,h.x1,fun b hb hb'=>h.tap b hb' hb,fun b hb hb'=>h.xap b hb' hb,fun e=>h.ne e.symm⟩
theorem MvB.kept {N:Nat} {w w':World} {b1 b2:Nat} {vt ut vx ux:Value} {k1 k2 m1 m2:Nat} {f g p q:Nat→Value} (h:MvB N w b1 b2 vt ut vx ux k1 k2 m1 m2 f g p q) (hB:Below w.heap.size w w'):MvB N w' b1 b2 vt ut vx ux k1 k2 m1 m2 f g p q :=
 ⟨(hB.block _ (lt_of_block h.s1)).trans h.s1,(hB.block _ (lt_of_block h.s2)).trans h.s2,h.t1.kept hB,h.t2.kept hB,h.x1.kept hB,h.x2.kept hB,h.tap,h.xap,h.ne⟩
structure MvK (b1:Nat) (row:Option Nat) (w w':World):Prop where
 size:w.heap.size≤w'.heap.size
 keep:∀ b,b < w.heap.size→b≠b1→row≠some b→w'.heap[b]? = w.heap[b]?
structure MvS (b1 b2:Nat) (w w':World):Prop where
 size:w.heap.size≤w'.heap.size
 keep:∀ (b:Nat) (cs:Array Value) (t:TypeId),w.heap[b]? = some (.cells cs t (0,0))→b≠b1→b≠b2→t≠50→t≠59→w'.heap[b]? = some (.cells cs t (0,0))
theorem MvS.of {b1 b2:Nat} {w w':World} (h:Below w.heap.size w w'):MvS b1 b2 w w':=⟨h.size,fun b _ _ hb _ _ _ _=>(h.block b (lt_of_block hb)).trans hb⟩
theorem MvS.trans {b1 b2:Nat} {w w1 w2:World} (h:MvS b1 b2 w w1) (h':MvS b1 b2 w1 w2):MvS b1 b2 w w2:=⟨Nat.le_trans h.size h'.size,fun b cs t hb n1 n2 t1 t2=>h'.keep b cs t (h.keep b cs t hb n1 n2 t1 t2) n1 n2 t1 t2⟩
theorem MvS.swap {b1 b2:Nat} {w w':World} (h:MvS b1 b2 w w'):MvS b2 b1 w w':=⟨h.size,fun b cs t hb n1 n2 t1 t2=>h.keep b cs t hb n2 n1 t1 t2⟩
theorem MvS.turned {b1 b2 bm:Nat} {w w':World} {es:Array MapEntry} {c:Nat} (h:w.mapTurned w' bm) (hm:w.heap[bm]? = some (.map es c)):MvS b1 b2 w w':=⟨h.grown.size,fun b cs t hb _ _ _ _=>by
 refine (h.grown.block b (lt_of_block hb) (fun e=>?_)).trans hb
 cases e
 rw [hm] at hb
 cases hb⟩
theorem MvK.steady {N b1 b2 k s e:Nat} {v:Value} {f : Nat→Value} {w w':World} (h:MvK b1 v.ownBlock w w') (hr:Row w N e s v k f) (he:e=50∨e=59):MvS b1 b2 w w':=⟨h.size,fun b cs t hb n1 _ t1 t2=>by
 refine (h.keep b (lt_of_block hb) n1 (fun e'=>?_)).trans hb
 obtain ⟨cs',ho⟩:=hr.obj e'
 rw [hb] at ho
 cases ho
 rcases he with he | he
 ·exact t1 he
 ·exact t2 he⟩
theorem MvK.map {N b1 b k s e:Nat} {v:Value} {f : Nat→Value} {w w':World} (h:MvK b1 v.ownBlock w w') (hr:Row w N e s v k f) {es:Array MapEntry} {c:Nat} (hb:w.heap[b]? = some (.map es c)) (hne:b≠b1):w'.heap[b]? = w.heap[b]?:=h.keep b (lt_of_block hb) hne fun e'=>by
 obtain ⟨cs',ho⟩:=hr.obj e'
 rw [hb] at ho
 cases ho
theorem MvB.turned {N bm:Nat} {w w':World} {b1 b2:Nat} {vt ut vx ux:Value} {k1 k2 m1 m2:Nat} {f g p q:Nat→Value} (h:MvB N w b1 b2 vt ut vx ux k1 k2 m1 m2 f g p q) {es:Array MapEntry} {c:Nat} (hT:w.mapTurned w' bm) (hm:w.heap[bm]? = some (.map es c)):MvB N w' b1 b2 vt ut vx ux k1 k2 m1 m2 f g p q:=by
 have key:∀ (b:Nat) (cs:Array Value) (t:TypeId),w.heap[b]? = some (.cells cs t (0,0))→w'.heap[b]? = w.heap[b]?:=fun b cs t hb=>hT.grown.block b (lt_of_block hb) fun e=>by
  cases e
  rw [hm] at hb
  cases hb
 exact ⟨(key _ _ _ h.s1).trans h.s1,(key _ _ _ h.s2).trans h.s2,h.t1.at fun b hb=>let ⟨_,ho⟩:=h.t1.obj hb; key _ _ _ ho,h.t2.at fun b hb=>let ⟨_,ho⟩:=h.t2.obj hb; key _ _ _ ho,h.x1.at fun b hb=>let ⟨_,ho⟩:=h.x1.obj hb; key _ _ _ ho,h.x2.at fun b hb=>let ⟨_,ho⟩:=h.x2.obj hb; key _ _ _ ho,h.tap,h.xap,h.ne⟩
theorem MvB.ty {N:Nat} {w w':World} {b1 b2:Nat} {vt ut vx ux v':Value} {k1 k2 m1 m2:Nat} {f f' g p q:Nat→Value} (h:MvB N w b1 b2 vt ut vx ux k1 k2 m1 m2 f g p q)
  (hrow:Row w' N 50 2 v' (k1 + 1) f') (hg:w.grownBy w' vt.ownBlock) (hv:v'.ownBlock=vt.ownBlock∨v'.ownBlock=some w.heap.size) :
  MvB N (w'.setCell ⟨b1,0,none⟩ v') b1 b2 v' ut vx ux (k1 + 1) k2 m1 m2 f' g p q∧MvK b1 vt.ownBlock w (w'.setCell ⟨b1,0,none⟩ v')∧(∃ u,w'.cell? ⟨b1,0,none⟩=some u)∧w'.frozen? ⟨b1,0,none⟩=false:=by
 have serv:∀ {b:Nat} {o:Obj},w.heap[b]? = some o→(∀ cs,o≠.cells cs 50 (0,0))→w'.heap[b]? = some o:=fun {b o} hb hne=>by
  refine (hg.block b (lt_of_block hb) (fun e=>?_)).trans hb
  obtain ⟨cs',ho⟩:=h.t1.obj e.symm
  rw [hb] at ho
  cases ho
  exact hne _ rfl
 have ha':=serv h.s1 (fun _ e=>by cases e)
 have hrb:Row w' N 50 2 ut k2 g:=h.t2.at fun b hb=>hg.block b (h.t2.lt hb).2 (fun e=>h.tap b e.symm hb)
 have hx1:Row w' N 59 3 vx m1 p:=h.x1.at fun b hb=>hg.block b (h.x1.lt hb).2 (fun e=>h.x1.ne h.t1 (by decide) hb e.symm)
 have hx2:Row w' N 59 3 ux m2 q:=h.x2.at fun b hb=>hg.block b (h.x2.lt hb).2 (fun e=>h.x2.ne h.t1 (by decide) hb e.symm)
 have nb:∀ {M s e:Nat} {v:Value} {f : Nat→Value},e≠47→Row w' N e s v M f→v.ownBlock≠some b1:=fun he hr e=>by
  obtain ⟨cs',ho⟩:=hr.obj e
  rw [ha'] at ho
  cases ho
  exact he rfl
 refine ⟨⟨?_,?_,hrow.set_other (p:=⟨b1,0,none⟩) (nb (by decide) hrow) _,hrb.set_other (p:=⟨b1,0,none⟩) (nb (by decide) hrb) _,hx1.set_other (p:=⟨b1,0,none⟩) (nb (by decide) hx1) _,hx2.set_other (p:=⟨b1,0,none⟩) (nb (by decide) hx2) _,fun b hb hb'=>?_,h.xap,h.ne⟩,⟨by simpa using hg.size,fun b hb hne h1=>?_⟩,⟨_,by simp [World.cell?,ha']; rfl⟩,by simp [World.frozen?,ha']⟩
 ·exact heap_setCell_same _ b1 0 _ 47 v' ha'
 ·rw [Below.heap_setCell _ _ _ _ (by show b2≠b1; exact fun e'=>h.ne e'.symm)]
  exact serv h.s2 (fun _ e=>by cases e)
 ·rcases hv with hv | hv
  ·exact h.tap b (hv ▸ hb) hb'
  ·rw [hv] at hb
   cases hb
   have:=(h.t2.lt hb').2
   omega
 ·rw [Below.heap_setCell _ _ _ _ (by show b≠b1; exact hne)]
  exact hg.block b hb (fun e=>h1 e.symm)
theorem MvB.th {N:Nat} {w w':World} {b1 b2:Nat} {vt ut vx ux v':Value} {k1 k2 m1 m2:Nat} {f g p p' q:Nat→Value} (h:MvB N w b1 b2 vt ut vx ux k1 k2 m1 m2 f g p q)
  (hrow:Row w' N 59 3 v' (m1 + 1) p') (hg:w.grownBy w' vx.ownBlock) (hv:v'.ownBlock=vx.ownBlock∨v'.ownBlock=some w.heap.size) :
  MvB N (w'.setCell ⟨b1,2,none⟩ v') b1 b2 vt ut v' ux k1 k2 (m1 + 1) m2 f g p' q∧MvK b1 vx.ownBlock w (w'.setCell ⟨b1,2,none⟩ v')∧(∃ u,w'.cell? ⟨b1,2,none⟩=some u)∧w'.frozen? ⟨b1,2,none⟩=false:=by
 have serv:∀ {b:Nat} {o:Obj},w.heap[b]? = some o→(∀ cs,o≠.cells cs 59 (0,0))→w'.heap[b]? = some o:=fun {b o} hb hne=>by
  refine (hg.block b (lt_of_block hb) (fun e=>?_)).trans hb
  obtain ⟨cs',ho⟩:=h.x1.obj e.symm
  rw [hb] at ho
  cases ho
  exact hne _ rfl
 have ha':=serv h.s1 (fun _ e=>by cases e)
 have hrb:Row w' N 59 3 ux m2 q:=h.x2.at fun b hb=>hg.block b (h.x2.lt hb).2 (fun e=>h.xap b e.symm hb)
 have ht1:Row w' N 50 2 vt k1 f:=h.t1.at fun b hb=>hg.block b (h.t1.lt hb).2 (fun e=>h.t1.ne h.x1 (by decide) hb e.symm)
 have ht2:Row w' N 50 2 ut k2 g:=h.t2.at fun b hb=>hg.block b (h.t2.lt hb).2 (fun e=>h.t2.ne h.x1 (by decide) hb e.symm)
 have nb:∀ {M s e:Nat} {v:Value} {f : Nat→Value},e≠47→Row w' N e s v M f→v.ownBlock≠some b1:=fun he hr e=>by
  obtain ⟨cs',ho⟩:=hr.obj e
  rw [ha'] at ho
  cases ho
  exact he rfl
 refine ⟨⟨?_,?_,ht1.set_other (p:=⟨b1,2,none⟩) (nb (by decide) ht1) _,ht2.set_other (p:=⟨b1,2,none⟩) (nb (by decide) ht2) _,hrow.set_other (p:=⟨b1,2,none⟩) (nb (by decide) hrow) _,hrb.set_other (p:=⟨b1,2,none⟩) (nb (by decide) hrb) _,h.tap,fun b hb hb'=>?_,h.ne⟩,⟨by simpa using hg.size,fun b hb hne h1=>?_⟩,⟨_,by simp [World.cell?,ha']; rfl⟩,by simp [World.frozen?,ha']⟩
 ·exact heap_setCell_same _ b1 2 _ 47 v' ha'
 ·rw [Below.heap_setCell _ _ _ _ (by show b2≠b1; exact fun e'=>h.ne e'.symm)]
  exact serv h.s2 (fun _ e=>by cases e)
 ·rcases hv with hv | hv
  ·exact h.xap b (hv ▸ hb) hb'
  ·rw [hv] at hb
   cases hb
   have:=(h.x2.lt hb').2
   omega
 ·rw [Below.heap_setCell _ _ _ _ (by show b≠b1; exact hne)]
  exact hg.block b hb (fun e=>h1 e.symm)
theorem Below.mv {N k s e o:Nat} {w w1 w':World} {v v':Value} {b:Nat} {f : Nat→Value} (h:Below N w w1) (hr:Row w1 N e s v k f) (hg:w1.grownBy w' v.ownBlock) (hN:N≤w1.heap.size) (hb:N≤b):Below N w (w'.setCell ⟨b,o,none⟩ v') :=
 (h.grown hg hN (fun _ hk=>(hr.lt hk).1)).setCell hb _
theorem Row.ne_box {w:World} {N e size k b:Nat} {v:Value} {f : Nat→Value} (h:Row w N e size v k f) {cs:Array Value} {t : TypeId} (hb:w.heap[b]? = some (.cells cs t (0,0))) (he:e≠t):v.ownBlock≠some b:=fun e'=>by
 obtain ⟨cs',ho⟩:=h.obj e'
 rw [hb] at ho
 cases ho
 exact he rfl
def MovP (W:World) (N b1 o e size:Nat) (cs:Array Value) (v:Value) (k:Nat) (f':Nat→Value) (j:Nat) (x:Nat→Value) (w:World):Prop :=
 (j≤1→Below W.heap.size W w)∧(j=1→∃ b,x 0 = .slice (some ⟨b,0,none⟩) 1 1∧w.heap[b]? = some (.cells cs e (0,0))) ∧
 (2≤j→∃ w1 w2,Below W.heap.size W w1∧w1.grownBy w2 v.ownBlock∧Row w2 N e size (x 1) (k + 1) f'∧((x 1).ownBlock=v.ownBlock∨(x 1).ownBlock=some w1.heap.size)∧(j=2→w=w2)∧(j=3→w=w2.setCell ⟨b1,o,none⟩ (x 1)))
theorem mov_0 {W:World} {N b1 o e size:Nat} {cs:Array Value} {v:Value} {k:Nat} {f':Nat→Value} (x:Nat→Value):MovP W N b1 o e size cs v k f' 0 x W.drew :=
 ⟨fun _=>(Below.refl _ _).drew,fun h=>absurd h (by omega),fun h=>absurd h (by omega)⟩
theorem mov_cell {W:World} {N b1 o e size:Nat} {cs:Array Value} {v:Value} {k:Nat} {f':Nat→Value} {j:Nat} {x:Nat→Value} {w:World} (hj:j < 3) (h:MovP W N b1 o e size cs v k f' j x w) {p:Addr} {u:Value} (hp:W.cell? p=some u) (hne:v.ownBlock≠some p.block):w.cell? p=some u:=by
 by_cases h1:j≤1
 ·exact keptCell (h.1 h1) hp
 ·obtain ⟨w1,w2,hB,hg,-,-,e2,-⟩:=h.2.2 (by omega)
  rw [e2 (by omega)]
  have c1:=keptCell hB hp
  rw [World.cell?_of_block (hg.block p.block (block_lt_of_cell c1) (fun e=>hne e.symm))]
  exact c1
theorem mov_he0 {W:World} {N b1 o e size:Nat} {cs:Array Value} {v:Value} {k:Nat} {f':Nat→Value} (x:Nat→Value) (w:World) (h:MovP W N b1 o e size cs v k f' 0 x w) (x':Nat→Value) (hx:x' 0 = .slice (some ⟨w.heap.size,0,none⟩) 1 1):MovP W N b1 o e size cs v k f' 1 x' (w.alloc (.cells cs e)) :=
 ⟨fun _=>(h.1 (by omega)).trans ((below1 w _).mono (h.1 (by omega)).size),fun _=>⟨_,hx,heap_alloc_new _ _⟩,fun h=>absurd h (by omega)⟩
theorem mov_he1 {W:World} {N b1 o e size bytes:Nat} {cs:Array Value} {v:Value} {k:Nat} {f f':Nat→Value} {t : TypeId} {i:TypeInfo} {z:Value} (ht:Try.prog.underlying t=some (.slice e)) (hi:Try.prog.info? e=some i) (hz:i.zero=some z) (hsize:i.size=size) (hby:i.bytes=bytes) (hzs:z.cells.size=size) (hsz:0 < size) (hr:Row W N e size v k f) (hN:N≤W.heap.size) (hk:k + 1≤maxLen) (hkb:(k + 1) * bytes≤140737488355328)
  (hcs:cs.toList.length=size) (hone:∀ u ∈ cs.toList,u.oneCell'=true) (hf:(List.range ((k + 1) * size)).map f'=(List.range (k * size)).map f ++ cs.toList) (x:Nat→Value) (w:World) (h:MovP W N b1 o e size cs v k f' 1 x w) (ty:TypeId) :
  ∃ v' w',(Builtin.append_ #[t,t] ty #[v,x 0]).run Try.prog w = .ok v' w'∧∀ x',x' 1=v'→(∀ i,i≠1→x' i=x i)→MovP W N b1 o e size cs v k f' 2 x' w':=by
 have hB:=h.1 (by omega)
 obtain ⟨b,hx,hb⟩:=h.2.1 rfl
 obtain ⟨v',w',hrun,hown,hg,hv⟩:=run_append_any (P:=Try.prog) w N t ty e i z size bytes ht hi hz hsize hby hzs hsz v k _ (hr.kept hB) (some ⟨b,0,none⟩) 1 1 cs.toList (by omega) (fun ad ha j u hu=>by
  cases ha
  have hc:cs[j]? = some u:=by simpa using hu
  rw [add3]
  simp [World.cell?,hb,hc]) (fun h=>by cases h) hone hk hkb (Nat.le_trans hN hB.size)
 refine ⟨v',w',by rw [hx]; exact hrun,fun x' e1 e2=>⟨fun h=>absurd h (by omega),fun h=>absurd h (by omega),fun _=>⟨w,w',hB,hg,?_,by rw [e1]; exact hv,fun _=>rfl,fun h=>absurd h (by omega)⟩⟩⟩
 rw [e1]
 unfold Row
 rw [hf]; exact hown
theorem mov_he2 {W:World} {N b1 o e size:Nat} {cs:Array Value} {v:Value} {k:Nat} {f f':Nat→Value} (hr:Row W N e size v k f) {u:Value} {cb:Array Value} (hb:W.heap[b1]? = some (.cells cb 47 (0,0))) (hu:cb[o]? = some u) (he:e≠47) (x:Nat→Value) (w:World) (h:MovP W N b1 o e size cs v k f' 2 x w) :
  ∃ va vn vc u,x 1 = .slice va vn vc∧w.cell? ⟨b1,o,none⟩=some u∧w.frozen? ⟨b1,o,none⟩=false∧MovP W N b1 o e size cs v k f' 3 x (w.setCell ⟨b1,o,none⟩ (x 1)):=by
 obtain ⟨w1,w2,hB,hg,hrow,hv,e2,-⟩:=h.2.2 (by omega)
 obtain rfl:=e2 rfl
 obtain ⟨va,vc,hx,-⟩:=hrow.slice
 have h1:w1.heap[b1]? = some (.cells cb 47 (0,0)):=(hB.block _ (lt_of_block hb)).trans hb
 have h2:w.heap[b1]? = some (.cells cb 47 (0,0)):=by
  refine (hg.block _ (lt_of_block h1) (fun e'=>?_)).trans h1
  obtain ⟨cs',ho⟩:=hr.obj e'.symm
  rw [hb] at ho
  cases ho
  exact he rfl
 refine ⟨va,_,vc,u,hx,?_,?_,⟨fun h=>absurd h (by omega),fun h=>absurd h (by omega),fun _=>⟨w1,w,hB,hg,hrow,hv,fun h=>absurd h (by omega),fun _=>rfl⟩⟩⟩
 ·simp [World.cell?,h2,hu]
 ·simp [World.frozen?,h2]
theorem mov_end {W:World} {N b1 o e size:Nat} {cs:Array Value} {v:Value} {k:Nat} {f':Nat→Value} {x:Nat→Value} {w:World} (h:MovP W N b1 o e size cs v k f' 3 x w):∃ w1 w2,Below W.heap.size W w1∧w1.grownBy w2 v.ownBlock∧Row w2 N e size (x 1) (k + 1) f'∧((x 1).ownBlock=v.ownBlock∨(x 1).ownBlock=some w1.heap.size)∧w=w2.setCell ⟨b1,o,none⟩ (x 1):=by
 obtain ⟨w1,w2,h1,h2,h3,h4,-,h6⟩:=h.2.2 (by omega)
 exact ⟨w1,w2,h1,h2,h3,h4,h6 rfl⟩
theorem mov_headF (a:Option Addr) (n c k:Nat) (hk:k≤c) (w:World):(Instr.sliceAt 48 (.slice a n c) none (some (.int .i64 (k:Int))) none).run Try.prog w = .ok (.slice a k c) w:=by
 have h1:(0:Int)≤(k:Int):=by omega
 have h2:(k:Int)≤(c:Int):=by omega
 cases a <;> go_simp
theorem mov_tailF (a:Option Addr) (n c k:Nat) (hk:k≤n) (w:World):(Instr.sliceAt 48 (.slice a n c) (some (.int .i64 (k:Int))) none none).run Try.prog w = .ok (.slice (tailA a c k) (n - k) (c - k)) w:=by
 have h1:(0:Int)≤(k:Int):=by omega
 have h2:(k:Int)≤(n:Int):=by omega
 unfold tailA
 cases a <;> go_simp
theorem mov_headV (a:Option Addr) (n c k:Nat) (hk:k≤c) (w:World):(Instr.sliceAt 57 (.slice a n c) none (some (.int .i64 (k:Int))) none).run Try.prog w = .ok (.slice a k c) w:=by
 have h1:(0:Int)≤(k:Int):=by omega
 have h2:(k:Int)≤(c:Int):=by omega
 cases a <;> go_simp
theorem mov_tailV (a:Option Addr) (n c k:Nat) (hk:k≤n) (w:World):(Instr.sliceAt 57 (.slice a n c) (some (.int .i64 (k:Int))) none none).run Try.prog w = .ok (.slice (tailA a c k) (n - k) (c - k)) w:=by
 have h1:(0:Int)≤(k:Int):=by omega
 have h2:(k:Int)≤(n:Int):=by omega
 unfold tailA
 cases a <;> go_simp
end Go.Proofs.Ytjjggefmmeminac
