import Derived.Test.YtjjggefmmeminacGreatJPl
import Derived.Test.YtjjggefmmeminacGreatJBase
import Derived.Test.YtjjggefmmeminacGreatChSee
import Derived.Test.YtjjggefmmeminacGreatJMt
import Derived.Laws.Externs
namespace Go.Proofs.YtjjggefmmeminacGreat
open Go.RowKit Go.Sort
def ownerCell (O:Nat→POwner) (j:Nat):Value:=if j % 3=0 then .int .i64 (O (j / 3)).svc else if j % 3=1 then .string (O (j / 3)).type else .string (O (j / 3)).field
theorem ownerCell0 (O:Nat→POwner) (i:Nat):ownerCell O (i * 3) = .int .i64 (O i).svc:=by unfold ownerCell; rw [if_pos (by omega),show i * 3 / 3=i by omega]
theorem ownerCell1 (O:Nat→POwner) (i:Nat):ownerCell O (i * 3 + 1) = .string (O i).type:=by unfold ownerCell; rw [if_neg (by omega),if_pos (by omega),show (i * 3 + 1) / 3=i by omega]
theorem ownerCell2 (O:Nat→POwner) (i:Nat):ownerCell O (i * 3 + 2) = .string (O i).field:=by unfold ownerCell; rw [if_neg (by omega),if_neg (by omega),show (i * 3 + 2) / 3=i by omega]
def et (c:Nat):TypeId:=if c=0 then 66 else 118
def len (c:Nat) (p:PPart):Nat:=if c=0 then p.fs.length else if c=1 then p.os.length else p.hs.length
def cellsOf (c:Nat) (p:PPart):Nat→Value:=if c=0 then fieldCell (fsN p) else if c=1 then ownerCell (osN p) else ownerCell (hsN p)
def partCell (L:List PPart) (rv:Nat→Nat→Value) (j:Nat):Value:=if j % 4=0 then .string (nth L (j / 4)).name else rv (j % 4 - 1) (j / 4)
theorem partCell0 (L:List PPart) (rv:Nat→Nat→Value) (i:Nat):partCell L rv (i * 4) = .string (nth L i).name:=by unfold partCell; rw [if_pos (by omega),show i * 4 / 4=i by omega]
theorem partCellS (L:List PPart) (rv:Nat→Nat→Value) (i c:Nat) (hc:c < 3):partCell L rv (i * 4 + 1 + c)=rv c i:=by unfold partCell; rw [if_neg (by omega),show (i * 4 + 1 + c) / 4=i by omega,show (i * 4 + 1 + c) % 4 - 1=c by omega]
def GoodO (o:POwner):Prop:=Small o.type∧Small o.field∧(Lit.int .i64 o.svc).wf=true
structure GoodP (p:PPart):Prop where
 name:Small p.name
 fs:∀ j,j < p.fs.length→GoodF (fsN p j)
 os:∀ j,j < p.os.length→GoodO (osN p j)
 hs:∀ j,j < p.hs.length→GoodO (hsN p j)
 len:∀ c,len c p≤maxLen
theorem good_new {s:ByteArray} (h:Small s):GoodP (newP s):=⟨h,fun j hj=>absurd hj (Nat.not_lt_zero _),fun j hj=>absurd hj (Nat.not_lt_zero _),fun j hj=>absurd hj (Nat.not_lt_zero _),fun c=>by
  unfold Go.Proofs.YtjjggefmmeminacGreat.len newP
  split
  ·exact Nat.zero_le _
  ·split <;> exact Nat.zero_le _⟩
structure Parts (Z:Nat→Prop) (w:World) (v:Value) (L:List PPart) (rv:Nat→Nat→Value):Prop where
 nmax:L.length≤maxLen
 row:Row w 0 114 4 v L.length (partCell L rv)
 rows:∀ c i,c < 3→i < L.length→Row w 0 (et c) 3 (rv c i) (len c (nth L i)) (cellsOf c (nth L i))
 apart:∀ c i c' i',c < 3→i < L.length→c' < 3→i' < L.length→¬ (c=c'∧i=i')→∀ b,(rv c i).ownBlock=some b→(rv c' i').ownBlock≠some b
 freeV:∀ b,v.ownBlock=some b→¬ Z b
 free:∀ c i,c < 3→i < L.length→∀ b,(rv c i).ownBlock=some b→¬ Z b
 good:∀ i,i < L.length→GoodP (nth L i)
theorem et_ne (c:Nat):et c≠114:=by unfold et; split <;> decide
theorem Parts.ne {Z:Nat→Prop} {w:World} {v:Value} {L:List PPart} {rv:Nat→Nat→Value} (h:Parts Z w v L rv) {c i b:Nat} (hc:c < 3) (hi:i < L.length) (hb:v.ownBlock=some b):(rv c i).ownBlock≠some b :=
 h.row.ne (h.rows c i hc hi) (et_ne c).symm hb
theorem Parts.kept {Z:Nat→Prop} {w w':World} {v:Value} {L:List PPart} {rv:Nat→Nat→Value} (h:Parts Z w v L rv) (hB:Below w.heap.size w w'):Parts (fun b=>Z b∨(w.heap.size≤b∧b < w'.heap.size)) w' v L rv :=
 ⟨h.nmax,h.row.kept hB,fun c i hc hi=>(h.rows c i hc hi).kept hB,h.apart,
  fun b hb hz=>hz.elim (h.freeV b hb) (fun hz=>by have:=(h.row.lt hb).2; omega),
  fun c i hc hi b hb hz=>hz.elim (h.free c i hc hi b hb) (fun hz=>by have:=((h.rows c i hc hi).lt hb).2; omega),h.good⟩
theorem Parts.less {Z Z':Nat→Prop} {w:World} {v:Value} {L:List PPart} {rv:Nat→Nat→Value} (h:Parts Z w v L rv) (hz:∀ b,Z' b→Z b):Parts Z' w v L rv :=
 ⟨h.nmax,h.row,h.rows,h.apart,fun b hb hz'=>h.freeV b hb (hz b hz'),fun c i hc hi b hb hz'=>h.free c i hc hi b hb (hz b hz'),h.good⟩
theorem Parts.kept' {Z:Nat→Prop} {w w':World} {v:Value} {L:List PPart} {rv:Nat→Nat→Value} (h:Parts Z w v L rv) (hB:Below w.heap.size w w'):Parts Z w' v L rv:=(h.kept hB).less fun _=>.inl
theorem Parts.other {Z:Nat→Prop} {w w':World} {v:Value} {L:List PPart} {rv:Nat→Nat→Value} (h:Parts Z w v L rv) {B:Nat} (hk:∀ k,k < w.heap.size→k≠B→w'.heap[k]? = w.heap[k]?) (hB:∀ c t z,w.heap[B]? = some (.cells c t z)→t≠114∧t≠66∧t≠118):Parts Z w' v L rv:=by
 have ne:∀ {e size m:Nat} {u:Value} {f : Nat→Value},(e=114∨e=66∨e=118)→Row w 0 e size u m f→Row w' 0 e size u m f:=fun he hr=>hr.at fun k hk'=>hk k (hr.lt hk').2 fun e'=>by
  obtain ⟨c,hc⟩:=hr.obj hk'
  subst e'
  obtain ⟨q1,q2,q3⟩:=hB _ _ _ hc
  rcases he with he | he | he
  ·exact q1 he
  ·exact q2 he
  ·exact q3 he
 exact ⟨h.nmax,ne (.inl rfl) h.row,fun c i hc hi=>ne (by unfold et; split <;> simp) (h.rows c i hc hi),h.apart,h.freeV,h.free,h.good⟩
theorem Parts.ptr {Z:Nat→Prop} {w:World} {v:Value} {L:List PPart} {rv:Nat→Nat→Value} (h:Parts Z w v L rv) {i:Nat} (hi:i < L.length):∃ g cap,v = .slice (some ⟨g,0,none⟩) L.length cap∧L.length≤cap:=by
 rcases h.row.shape with ⟨-,h0⟩ | ⟨g,cap,hv,-,hc,-⟩
 ·omega
 ·exact ⟨g,cap,hv,hc⟩
theorem Parts.slice {Z:Nat→Prop} {w:World} {v:Value} {L:List PPart} {rv:Nat→Nat→Value} (h:Parts Z w v L rv):∃ a cap,v = .slice a L.length cap∧L.length≤cap:=h.row.slice
theorem Parts.cells {Z:Nat→Prop} {w:World} {g cap:Nat} {L:List PPart} {rv:Nat→Nat→Value} (h:Parts Z w (.slice (some ⟨g,0,none⟩) L.length cap) L rv) {i:Nat} (hi:i < L.length) :
  w.cell? ⟨g,i * 4,none⟩=some (.string (nth L i).name)∧w.cell? ⟨g,i * 4 + 1,none⟩=some (rv 0 i)∧w.cell? ⟨g,i * 4 + 2,none⟩=some (rv 1 i)∧w.cell? ⟨g,i * 4 + 3,none⟩=some (rv 2 i):=by
 refine ⟨?_,?_,?_,?_⟩
 ·rw [h.row.cell (by omega),partCell0]
 ·rw [h.row.cell (by omega)]; exact congrArg some (partCellS L rv i 0 (by decide))
 ·rw [h.row.cell (by omega)]; exact congrArg some (partCellS L rv i 1 (by decide))
 ·rw [h.row.cell (by omega)]; exact congrArg some (partCellS L rv i 2 (by decide))
theorem parts_nil (Z:Nat→Prop) (w:World) (rv:Nat→Nat→Value):Parts Z w (.slice none 0 0) [] rv :=
 ⟨Nat.zero_le _,World.ownsRow_nil _ _ _ _,fun c i _ hi=>absurd hi (Nat.not_lt_zero _),fun c i _ _ _ hi=>absurd hi (Nat.not_lt_zero _),fun b hb=>(by cases hb),fun c i _ hi=>absurd hi (Nat.not_lt_zero _),fun i hi=>absurd hi (Nat.not_lt_zero _)⟩
theorem Parts.app {Z:Nat→Prop} {w w1:World} {g cap:Nat} {L:List PPart} {rv:Nat→Nat→Value} {v':Value} (h:Parts Z w (.slice (some ⟨g,0,none⟩) L.length cap) L rv) {c t:Nat} (hc:c < 3) (ht:t < L.length) {p':PPart} (hn:p'.name=(nth L t).name)
  (ho:∀ c',c' < 3→c'≠c→len c' p'=len c' (nth L t)∧cellsOf c' p'=cellsOf c' (nth L t)) (hZ:∀ b,Z b→b < w.heap.size) (hg:w.grownBy w1 (rv c t).ownBlock) (hr:Row w1 0 (et c) 3 v' (len c p') (cellsOf c p')) (hat:v'.ownBlock=(rv c t).ownBlock∨∃ b,v'.ownBlock=some b∧w.heap.size≤b) (hgood:GoodP p') :
  Parts Z (w1.setCell ⟨g,t * 4 + 1 + c,none⟩ v') (.slice (some ⟨g,0,none⟩) L.length cap) (L.set t p') (fun c' i=>if c'=c∧i=t then v' else rv c' i)∧Keep Z w (w1.setCell ⟨g,t * 4 + 1 + c,none⟩ v'):=by
 have hgZ : ¬ Z g:=h.freeV g rfl
 have rne:∀ c' i,c' < 3→i < L.length→(rv c' i).ownBlock≠some g:=fun c' i hc' hi=>h.ne hc' hi rfl
 have hrow:Row w1 0 114 4 (.slice (some ⟨g,0,none⟩) L.length cap) L.length (partCell L rv):=h.row.grown hg (fun k hk e=>rne c t hc ht (by rw [e]; exact hk.symm ▸ rfl))
 have hv'g:v'.ownBlock≠some g:=by
  rcases hat with e | ⟨b,e,hb⟩
  ·rw [e]; exact rne c t hc ht
  ·rw [e]; intro e'; cases e'
   have:=(h.row.lt (k:=g) rfl).2; omega
 have hnew:∀ c' i,c' < 3→i < L.length→¬ (c'=c∧i=t)→∀ b,(rv c' i).ownBlock=some b→v'.ownBlock≠some b:=fun c' i hc' hi hne b hb e=>by
  rcases hat with e' | ⟨b',e',hb'⟩
  ·exact h.apart c' i c t hc' hi hc ht hne b hb (by rw [← e']; exact e)
  ·rw [e'] at e; cases e
   have:=((h.rows c' i hc' hi).lt hb).2; omega
 have hv'Z:∀ b,v'.ownBlock=some b→¬ Z b:=fun b hb hz=>by
  rcases hat with e' | ⟨b',e',hb'⟩
  ·exact h.free c t hc ht b (by rw [← e']; exact hb) hz
  ·rw [e'] at hb; cases hb
   have:=hZ _ hz; omega
 refine ⟨⟨by rw [List.length_set]; exact h.nmax,?_,fun c' i hc' hi=>?_,fun c1 i1 c2 i2 h1 h2 h3 h4 hne b hb=>?_,h.freeV,fun c' i hc' hi b hb=>?_,fun i hi=>?_⟩,?_⟩
 ·rw [List.length_set]
  refine (hrow.set (t * 4 + 1 + c) v').congr fun j hj=>?_
  unfold partCell
  by_cases hj0:j % 4=0
  ·rw [if_neg (by omega),if_pos hj0,if_pos hj0,nth_set ht]
   by_cases e:j / 4=t
   ·rw [if_pos e,hn,e]
   ·rw [if_neg e]
  ·rw [if_neg hj0,if_neg hj0]
   show _=(if j % 4 - 1=c∧j / 4=t then v' else rv (j % 4 - 1) (j / 4))
   by_cases e:j=t * 4 + 1 + c
   ·rw [if_pos e,if_pos ⟨by omega,by omega⟩]
   ·rw [if_neg e,if_neg (by omega)]
 ·rw [List.length_set] at hi
  rw [nth_set ht]
  by_cases e:c'=c∧i=t
  ·obtain ⟨rfl,rfl⟩:=e
   rw [if_pos rfl]
   simp only [and_self,if_true]
   exact hr.set_other (p:=⟨g,_,none⟩) hv'g _
  ·rw [if_neg e]
   have r0:Row (w1.setCell ⟨g,t * 4 + 1 + c,none⟩ v') 0 (et c') 3 (rv c' i) (len c' (nth L i)) (cellsOf c' (nth L i)):=((h.rows c' i hc' hi).grown hg (fun k hk=>fun e'=>h.apart c' i c t hc' hi hc ht e k hk e')).set_other (p:=⟨g,_,none⟩) (rne c' i hc' hi) _
   by_cases ei:i=t
   ·subst ei
    rw [if_pos rfl]
    obtain ⟨o1,o2⟩:=ho c' hc' (fun e'=>e ⟨e',rfl⟩)
    rw [o1,o2]; exact r0
   ·rw [if_neg ei]; exact r0
 ·rw [List.length_set] at h2 h4
  by_cases e1:c1=c∧i1=t
  ·rw [if_pos e1] at hb
   have e2 : ¬ (c2=c∧i2=t):=fun e2=>hne ⟨e1.1.trans e2.1.symm,e1.2.trans e2.2.symm⟩
   rw [if_neg e2]
   exact fun e'=>hnew c2 i2 h3 h4 e2 b e' hb
  ·rw [if_neg e1] at hb
   by_cases e2:c2=c∧i2=t
   ·rw [if_pos e2]; exact hnew c1 i1 h1 h2 e1 b hb
   ·rw [if_neg e2]; exact h.apart c1 i1 c2 i2 h1 h2 h3 h4 hne b hb
 ·rw [List.length_set] at hi
  by_cases e:c'=c∧i=t
  ·rw [if_pos e] at hb; exact hv'Z b hb
  ·rw [if_neg e] at hb; exact h.free c' i hc' hi b hb
 ·rw [List.length_set] at hi
  rw [nth_set ht]
  by_cases e:i=t
  ·rw [if_pos e]; exact hgood
  ·rw [if_neg e]; exact h.good i hi
 ·exact (Keep.grown hg hZ (fun b hb=>h.free c t hc ht b hb)).trans (Keep.set _ _ _ hgZ)
theorem Parts.aggs {Z:Nat→Prop} {w:World} {v:Value} {L:List PPart} {rv:Nat→Nat→Value} (h:Parts Z w v L rv) {i:Nat} (hi:i < L.length):∃ g cap a1 c1 a2 c2 a3 c3,v = .slice (some ⟨g,0,none⟩) L.length cap∧rv 0 i = .slice a1 (nth L i).fs.length c1∧rv 1 i = .slice a2 (nth L i).os.length c2∧rv 2 i = .slice a3 (nth L i).hs.length c3 ∧
  w.cell? ⟨g,i * 4,none⟩=some (.string (nth L i).name)∧w.cell? ⟨g,i * 4 + 1,none⟩=some (.slice a1 (nth L i).fs.length c1)∧w.cell? ⟨g,i * 4 + 2,none⟩=some (.slice a2 (nth L i).os.length c2)∧w.cell? ⟨g,i * 4 + 3,none⟩=some (.slice a3 (nth L i).hs.length c3):=by
 obtain ⟨g,cap,rfl,-⟩:=h.ptr hi
 obtain ⟨q0,q1,q2,q3⟩:=h.cells hi
 obtain ⟨a1,c1,e1,-⟩:=(h.rows 0 i (by decide) hi).slice
 obtain ⟨a2,c2,e2,-⟩:=(h.rows 1 i (by decide) hi).slice
 obtain ⟨a3,c3,e3,-⟩:=(h.rows 2 i (by decide) hi).slice
 rw [e1] at q1
 rw [e2] at q2
 rw [e3] at q3
 exact ⟨g,cap,a1,c1,a2,c2,a3,c3,rfl,e1,e2,e3,q0,q1,q2,q3⟩
end Go.Proofs.YtjjggefmmeminacGreat
namespace Go.Proofs.YtjjggefmmeminacGreat
open Go.RowKit Go.Sort
theorem Tryz.e118:∀ args w,(callFunc 118 args).run Tryz.prog w = .ok (.enter 118 args) w:=enters_of Tryz.func118 (by kernel_rfl) rfl
theorem Tryz.e89:∀ args w,(callFunc 89 args).run Tryz.prog w = .ok (.enter 89 args) w:=enters_of Tryz.func89 (by kernel_rfl) rfl
theorem Tryz.e88:∀ args w,(callFunc 88 args).run Tryz.prog w = .ok (.enter 88 args) w:=enters_of Tryz.func88 (by kernel_rfl) rfl
set_option maxRecDepth 100000 in
set_option maxHeartbeats 400000 in
theorem compareString_any (a b:ByteArray) (w:World):Calls Tryz.prog 118 #[.string a,.string b] w fun e w'=>e = .returned (.int .i64 (cmpS a b))∧w'=w:=by
 go_enter Tryz.func118,Tryz.ntmps118
 go_wp2
 rw [run_callFunc_extern Tryz.func139 (by kernel_rfl) (by kernel_rfl) (by kernel_rfl) (e:=Extern.BytealgCompare.compare) (by kernel_rfl),Lib.run_compareString]
 simp only [Result.andThen]
 rw [Oper.upon_value]
 go_wp2
 go_ret
 exact ⟨rfl,rfl⟩
set_option maxRecDepth 100000 in
set_option maxHeartbeats 400000 in
theorem compare_any (a b:ByteArray) (w:World):Calls Tryz.prog 89 #[.string a,.string b] w fun e w'=>e = .returned (.int .i64 (cmpS a b))∧w'=w:=by
 have e1:=Tryz.e118
 go_enter Tryz.func89,Tryz.ntmps89
 go_wp2_with fail
 refine (compareString_any a b w).mono ?_
 rintro e w' ⟨rfl,rfl⟩
 go_wp2_with fail
 go_ret
 exact ⟨rfl,rfl⟩
set_option maxRecDepth 100000 in
set_option maxHeartbeats 400000 in
theorem withPart1_any (a1 a2 a3:Option Addr) (n1 c1 n2 c2 n3 c3:Nat) (s name:ByteArray) (w:World) :
  Calls Tryz.prog 88 #[.agg #[.string s,.slice a1 n1 c1,.slice a2 n2 c2,.slice a3 n3 c3],.string name] w fun e w'=>e = .returned (.int .i64 (cmpS s name))∧Below w.heap.size w w':=by
 have e1:=Tryz.e89
 go_enter Tryz.func88,Tryz.ntmps88
 go_wp2_with fail
 have hB:=below1 w (Obj.cells #[.string s,.slice a1 n1 c1,.slice a2 n2 c2,.slice a3 n3 c3] 114)
 refine (compare_any s name _).mono ?_
 rintro e w' ⟨rfl,rfl⟩
 go_wp2_with fail
 go_ret
 exact ⟨rfl,hB⟩
set_option maxRecDepth 100000 in
set_option maxHeartbeats 1000000 in
theorem search_any (Z:Nat→Prop) (v:Value) (L:List PPart) (rv:Nat→Nat→Value) (name:ByteArray) (w:World) (hP:Parts Z w v L rv) (hR:Rise L) (hm:L.length≤1000) :
  Calls Tryz.prog 87 #[v,.string name,.func (.func 88) #[] #[]] w fun e w'=>e = .returned (.tuple #[.int .i64 (pos L name:Nat),.bool (hit L name)])∧Below w.heap.size w w':=by
 obtain ⟨a,cap,rfl,hcap⟩:=hP.slice
 have HP:=Hid.intro hP
 have HR:=Hid.intro hR
 have eK:=Tryz.e88
 clear hP hR
 go_enter Tryz.func87,Tryz.ntmps87
 go_wp2_with fail
 go_loopw [9,10] (fun i j wr => ∃ lo hi:Nat,i = .int .i64 lo∧j = .int .i64 hi∧lo≤hi∧hi≤L.length∧Hid ((∀ t,t < lo→lt (nth L t).name name=true)∧∀ t,hi≤t→t < L.length→lt (nth L t).name name=false)∧Below w.heap.size w wr) (fun i j _=>(intOf j).toNat - (intOf i).toNat)
 case atStart=>exact ⟨0,L.length,rfl,rfl,Nat.zero_le _,Nat.le_refl _,⟨fun t ht=>absurd ht (Nat.not_lt_zero _),fun t h1 h2=>absurd h2 (by omega)⟩,Below.refl _ _⟩
 case round =>
  obtain ⟨lo,hi,rfl,rfl,hlh,hin,hI,hw⟩:=hrel
  by_cases hlt:lo < hi
  ·have hml:(lo + hi) / 2 < L.length:=by omega
   obtain ⟨g,cap',a1,c1,a2,c2,a3,c3,hv,-,-,-,k0,k1,k2,k3⟩:=(HP.out.kept' hw).aggs hml
   cases hv
   have hcl:=withPart1_any a1 a2 a3 (nth L ((lo + hi) / 2)).fs.length c1 (nth L ((lo + hi) / 2)).os.length c2 (nth L ((lo + hi) / 2)).hs.length c3 (nth L ((lo + hi) / 2)).name name wr
   have hmi:((lo:Int) + (hi:Int)) / 2=(((lo + hi) / 2:Nat):Int):=by omega
   generalize hmm:(lo + hi) / 2=m at *
   go_wp2_with fail
   refine hcl.mono ?_
   clear hcl
   rintro e w1 ⟨rfl,hw1⟩
   have HW:Hid (Below w.heap.size w w1):=hw.trans (hw1.mono hw.size)
   clear hw1 k0 k1 k2 k3 hw
   cases hl:lt (nth L m).name name with
   | true =>
    have hc:cmpS (nth L m).name name < 0:=cmpS_neg.2 hl
    have HI2:Hid ((∀ t,t < m + 1→lt (nth L t).name name=true)∧∀ t,hi≤t→t < L.length→lt (nth L t).name name=false):=⟨fun t ht=>by
     rcases Nat.lt_or_eq_of_le (Nat.le_of_lt_succ ht) with h | h
     ·exact lt_trans (HR.out t m h hml) hl
     ·rw [h]; exact hl,hI.out.2⟩
    clear hl
    generalize cmpS (nth L m).name name=cv at *
    go_wp2_with fail
    go_roundw
    case rel=>exact ⟨m + 1,hi,by go_num,rfl,by omega,hin,HI2,HW.out⟩
    case measure=>simp [intOf]; omega
   | false =>
    have hc : ¬ cmpS (nth L m).name name < 0:=fun h=>by rw [cmpS_neg.1 h] at hl; cases hl
    have HI2:Hid ((∀ t,t < lo→lt (nth L t).name name=true)∧∀ t,m≤t→t < L.length→lt (nth L t).name name=false):=⟨hI.out.1,fun t ht htl=>by
     cases h:lt (nth L t).name name with
     | false=>rfl
     | true =>
      rcases Nat.lt_or_eq_of_le ht with h' | h'
      ·rw [lt_trans (HR.out m t h' htl) h] at hl; cases hl
      ·rw [← h',hl] at h; cases h⟩
    clear hl
    generalize cmpS (nth L m).name name=cv at *
    go_wp2_with fail
    go_roundw
    case rel=>exact ⟨lo,m,rfl,by go_num,by omega,by omega,HI2,HW.out⟩
    case measure=>simp [intOf]; omega
  ·have hle:lo=hi:=by omega
   subst hle
   have hpos:pos L name=lo:=pos_is hin hI.out.1 (fun h=>hI.out.2 lo (Nat.le_refl _) h)
   have hh:hit L name=(decide (lo < L.length) && eqs (nth L lo).name name):=by unfold hit; rw [hpos]
   have HH:=Hid.intro hh
   clear hh
   have HPO:=Hid.intro hpos
   clear hpos
   by_cases hll:lo < L.length
   ·obtain ⟨g,cap',a1,c1,a2,c2,a3,c3,hv,-,-,-,k0,k1,k2,k3⟩:=(HP.out.kept' hw).aggs hll
    cases hv
    have hcl:=withPart1_any a1 a2 a3 (nth L lo).fs.length c1 (nth L lo).os.length c2 (nth L lo).hs.length c3 (nth L lo).name name wr
    have hlo0:(0:Int)≤(lo:Int):=by omega
    have hlo1:(lo:Int) < (L.length:Int):=by omega
    go_wp2_with fail
    refine hcl.mono ?_
    clear hcl
    rintro e w1 ⟨rfl,hw1⟩
    have HW:Hid (Below w.heap.size w w1):=hw.trans (hw1.mono hw.size)
    clear hw1 k0 k1 k2 k3 hw
    have hfin:Hid (decide (cmpS (nth L lo).name name=0)=hit L name):=by
     rw [HH.out,decide_eq_true hll,Bool.true_and]
     cases h:eqs (nth L lo).name name with
     | true=>exact decide_eq_true (cmpS_zero.2 (eqs_iff.1 h))
     | false=>exact decide_eq_false fun h'=>by rw [eqs_iff.2 (cmpS_zero.1 h')] at h; cases h
    generalize cmpS (nth L lo).name name=cv at *
    go_wp2_with fail
    go_ret2
    exact ⟨by rw [HPO.out,← hfin.out]; rfl,HW.out⟩
   ·have hll' : ¬ (lo:Int) < (L.length:Int):=by omega
    have hfin:Hid (hit L name=false):=by rw [HH.out,decide_eq_false hll]; rfl
    go_wp2_with fail
    go_ret2
    exact ⟨by rw [HPO.out,hfin.out]; rfl,hw⟩
end Go.Proofs.YtjjggefmmeminacGreat
