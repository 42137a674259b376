import Derived.Test.YtjjggefmmeminacGreatJSv
import Derived.Test.YtjjggefmmeminacGreatJGq
import Derived.Test.YtjjggefmmeminacGreatJGp
import Derived.Test.YtjjggefmmeminacGreatMnOut
import Derived.DeepKeys4
import Derived.ChangeKeys
namespace Go.Proofs.YtjjggefmmeminacGreat
open Go.RowKit Go.Sort Go.PlainAid
theorem Tryz.gLaidOut:laidOutB Tryz.prog=true:=by kernel_rfl
theorem Tryz.gRowP:(160:TypeId) < Tryz.prog.types.size:=of_decide_eq_true (by kernel_rfl)
theorem Tryz.gWideP:(match Tryz.prog.underlying 160 with | some (.array _ _) | some (.struct _)=>true | _=>false)=true:=by kernel_rfl
set_option maxRecDepth 100000 in
theorem Tryz.gKeyedP:Maps.Keyed Tryz.prog 160:=Maps.Keyed.of_law (deep_law_laid Tryz.gLaidOut (m:=3) (by omega) Tryz.gRowP (by kernel_rfl) Tryz.gWideP)
theorem Tryz.gKeyTypeP:Tryz.prog.keyType 160=true:=by kernel_rfl
theorem Tryz.gCellsP:Tryz.prog.cellsOf 160=4:=by kernel_rfl
theorem Tryz.gCellsO:Tryz.prog.cellsOf 118=3:=by kernel_rfl
theorem Tryz.gCells1:Tryz.prog.cellsOf 3=1:=by kernel_rfl
theorem Tryz.gCells2:Tryz.prog.cellsOf 9=1:=by kernel_rfl
def zeroVal:Value:=.agg #[.string ⟨#[]⟩,.string ⟨#[]⟩,.slice none 0 0]
theorem Tryz.zeroV (w:World):(zeroValue 59).run Tryz.prog w = .ok zeroVal w:=by kernel_rfl
def vpV (s:Int) (ty f key:ByteArray):Value:=.agg #[.int .i64 s,.string ty,.string f,.string key]
def vpL (s:Int) (ty f key:ByteArray):List Lit:=[.int .i64 s,.string ty.data.toList,.string f.data.toList,.string key.data.toList]
def vpK (s:Int) (ty f key:ByteArray):Lit:=.string (keyBytes (vpL s ty f key))
theorem vp_lits {s:Int} {ty f key:ByteArray} (hs:(Lit.int .i64 s).wf=true) (ht:Small ty) (hf:Small f) (hk:Small key) (m:Nat):Tryz.prog.keyLits (m + 3) 160 [.int .i64 s,.string ty,.string f,.string key]=some (vpL s ty f key):=by
 have ht':ty.size≤maxLen:=ht
 have hf':f.size≤maxLen:=hf
 have hk':key.size≤maxLen:=hk
 simp [Program.keyLits,Tryz.underlying160,Tryz.underlying118,Tryz.underlying3,Tryz.underlying9,Tryz.gCellsP,Tryz.gCellsO,Tryz.gCells1,Tryz.gCells2,hs,ht',hf',hk',vpL]
 rw [if_pos]
 ·rfl
 ·intro i hi
  have:i=0∨i=1∨i=2:=by omega
  rcases this with rfl | rfl | rfl <;> simp
theorem vp_key {s:Int} {ty f key:ByteArray} (hs:(Lit.int .i64 s).wf=true) (ht:Small ty) (hf:Small f) (hk:Small key):keyOf Tryz.prog 160 (vpV s ty f key)=some (vpK s ty f key):=by
 have hsz:2≤Tryz.prog.types.size:=of_decide_eq_true (by kernel_rfl)
 obtain ⟨m,hm⟩:∃ m,Tryz.prog.types.size + 1=m + 3:=⟨Tryz.prog.types.size - 2,by omega⟩
 have hl:=vp_lits hs ht hf hk m
 unfold keyOf vpV vpK
 rw [hm]
 simp [Tryz.underlying160,Tryz.gKeyTypeP,Value.formed,Tryz.gCellsP,Value.cells,hl]
theorem gdata_inj {s u:ByteArray} (h:s.data=u.data):s=u:=by
 cases s; cases u; cases h; rfl
theorem vp_inj {s s':Int} {ty ty' f f' key key':ByteArray} (hs:(Lit.int .i64 s).wf=true) (ht:Small ty) (hf:Small f) (hk:Small key) (hs':(Lit.int .i64 s').wf=true) (ht':Small ty') (hf':Small f') (hk':Small key') (h:vpK s ty f key=vpK s' ty' f' key'):s=s'∧ty=ty'∧f=f'∧key=key':=by
 have e:vpL s ty f key=vpL s' ty' f' key':=keyLits_inj (vp_lits hs ht hf hk 0) (vp_lits hs' ht' hf' hk' 0) (by simpa [vpK] using h)
 simp [vpL] at e
 exact ⟨e.1,gdata_inj e.2.1,gdata_inj e.2.2.1,gdata_inj e.2.2.2⟩
def heldElem (v:Value):Option (DataW Value × List MemPlace):=some (.held v,[])
def VMap (w:World) (b n:Nat) (g:Int→ByteArray→ByteArray→ByteArray→Option Value):Prop :=
 ∃ D:DataW Value,w.ownsMap Tryz.prog 160 heldElem b n D∧∀ s ty f key,(Lit.int .i64 s).wf=true→Small ty→Small f→Small key→Maps.has D (vpK s ty f key)=(g s ty f key).isSome∧D.atKey (vpK s ty f key) (.held zeroVal) = .held ((g s ty f key).getD zeroVal)
theorem VMap.made (w:World):VMap (w.alloc (.map #[] 0)) w.heap.size 0 (fun _ _ _ _=>none) :=
 ⟨.map [],World.ownsMap_made w _ _ _,fun _ _ _ _ _ _ _ _=>⟨rfl,rfl⟩⟩
theorem VMap.lt {w:World} {b n:Nat} {g:Int→ByteArray→ByteArray→ByteArray→Option Value} (h:VMap w b n g):b < w.heap.size:=let ⟨_,h,_⟩:=h; h.lt
theorem VMap.obj {w:World} {b n:Nat} {g:Int→ByteArray→ByteArray→ByteArray→Option Value} (h:VMap w b n g):∃ es c,w.heap[b]? = some (.map es c):=let ⟨_,⟨es,c,h,_⟩,_⟩:=h; ⟨es,c,h⟩
theorem TMap.obj {w:World} {b n:Nat} {g:ByteArray→Option Int} (h:TMap w b n g):∃ es c,w.heap[b]? = some (.map es c):=let ⟨_,⟨es,c,h,_⟩,_⟩:=h; ⟨es,c,h⟩
theorem VMap.at {w w':World} {b n:Nat} {g:Int→ByteArray→ByteArray→ByteArray→Option Value} (h:VMap w b n g) (hb:w'.heap[b]? = w.heap[b]?):VMap w' b n g:=by
 obtain ⟨D,⟨es,clock,h1,h2⟩,h3⟩:=h
 exact ⟨D,⟨es,clock,hb.trans h1,h2⟩,h3⟩
theorem VMap.mono {w:World} {b n m:Nat} {g:Int→ByteArray→ByteArray→ByteArray→Option Value} (h:VMap w b n g) (hm:n≤m):VMap w b m g:=by
 obtain ⟨D,h1,h2⟩:=h
 exact ⟨D,h1.mono hm,h2⟩
theorem TMap.mono {w:World} {b n m:Nat} {g:ByteArray→Option Int} (h:TMap w b n g) (hm:n≤m):TMap w b m g:=by
 obtain ⟨D,h1,h2⟩:=h
 exact ⟨D,h1.mono hm,h2⟩
theorem held_inj {u v:Value} {ps:List MemPlace} (h:heldElem u=some (.held v,ps)):u=v:=by
 unfold heldElem at h
 cases h
 rfl
theorem VMap.look {w:World} {b n:Nat} {g:Int→ByteArray→ByteArray→ByteArray→Option Value} (h:VMap w b n g) {s:Int} {ty f key:ByteArray} (hs:(Lit.int .i64 s).wf=true) (ht:Small ty) (hf:Small f) (hk:Small key):(Instr.lookup 86 (.map (some b)) (.agg #[.int .i64 s,.string ty,.string f,.string key]) false).run Tryz.prog w = .ok ((g s ty f key).getD zeroVal) w:=by
 obtain ⟨D,h1,h2⟩:=h
 obtain ⟨v,ps,hr,hc⟩:=h1.lookup Tryz.gKeyedP Tryz.underlying86 (Tryz.zeroV w) (zd:=.held zeroVal) (zp:=[]) rfl (vp_key hs ht hf hk)
 rw [(h2 s ty f key hs ht hf hk).2] at hc
 rw [held_inj hc] at hr
 exact hr
theorem VMap.look_ok {w:World} {b n:Nat} {g:Int→ByteArray→ByteArray→ByteArray→Option Value} (h:VMap w b n g) {s:Int} {ty f key:ByteArray} (hs:(Lit.int .i64 s).wf=true) (ht:Small ty) (hf:Small f) (hk:Small key):(Instr.lookup 86 (.map (some b)) (.agg #[.int .i64 s,.string ty,.string f,.string key]) true).run Tryz.prog w = .ok (.tuple #[(g s ty f key).getD zeroVal,.bool (g s ty f key).isSome]) w:=by
 obtain ⟨D,h1,h2⟩:=h
 obtain ⟨v,ps,hr,hc⟩:=h1.look_ok Tryz.gKeyedP Tryz.underlying86 (Tryz.zeroV w) (zd:=.held zeroVal) (zp:=[]) rfl (vp_key hs ht hf hk)
 rw [(h2 s ty f key hs ht hf hk).2] at hc
 rw [held_inj hc,(h2 s ty f key hs ht hf hk).1] at hr
 exact hr
theorem VMap.store {w:World} {b n:Nat} {g:Int→ByteArray→ByteArray→ByteArray→Option Value} (h:VMap w b n g) (hn:n < maxLen) {s:Int} {ty f key:ByteArray} (hs:(Lit.int .i64 s).wf=true) (ht:Small ty) (hf:Small f) (hk:Small key) (x:Value) :
  ∃ w',(Instr.mapUpdate 86 (.map (some b)) (.agg #[.int .i64 s,.string ty,.string f,.string key]) x).run Tryz.prog w = .ok () w'∧VMap w' b (n + 1) (fun s' ty' f' key'=>if s'=s∧ty'=ty∧f'=f∧key'=key then some x else g s' ty' f' key')∧w.mapTurned w' b:=by
 obtain ⟨D,h1,h2⟩:=h
 have hm:=h1.isMap
 obtain ⟨w',hr,h3,h4⟩:=h1.store Tryz.gKeyedP Tryz.underlying86 hn (vp_key hs ht hf hk) (val:=x) (d:=.held x) (ps:=[]) rfl
 refine ⟨w',hr,⟨_,h3,fun s' ty' f' key' hs' ht' hf' hk'=>?_⟩,h4⟩
 by_cases e:s'=s∧ty'=ty∧f'=f∧key'=key
 ·obtain ⟨rfl,rfl,rfl,rfl⟩:=e
  have hl:WideAt.IsKeyLit (vpK s' ty' f' key'):=by simp [WideAt.IsKeyLit,vpK]
  simp only [and_self,if_true]
  rw [Maps.has_put_same hm hl,Maps.atKey_put_same hm hl]
  exact ⟨rfl,rfl⟩
 ·have hne:vpK s' ty' f' key'≠vpK s ty f key:=fun h=>e (vp_inj hs' ht' hf' hk' hs ht hf hk h)
  simp only [e,if_false]
  rw [Maps.has_put_other hne,Maps.atKey_put_other hne]
  exact h2 s' ty' f' key' hs' ht' hf' hk'
def valU (x:LVal) (A:Option Addr) (C:Nat):Value:=.agg #[.string x.field,.string x.text,.slice A x.nk C]
structure ValIs (N:Nat) (w:World) (u:Value) (x:LVal):Prop where
 ex:∃ A C,u=valU x A C∧Row w N 9 1 (.slice A x.nk C) x.nk (textCell x.K)
 nk:x.nk≤maxLen
 small:∀ j,j < x.nk→Small (x.K j)
theorem ValIs.at {N:Nat} {w w':World} {u:Value} {x:LVal} (h:ValIs N w u x) (hk:∀ k cs,N≤k→k < w.heap.size→w.heap[k]? = some (.cells cs 9 (0,0))→w'.heap[k]? = w.heap[k]?):ValIs N w' u x:=by
 obtain ⟨⟨A,C,e,hr⟩,h2,h3⟩:=h
 refine ⟨⟨A,C,e,hr.at fun k hk'=>?_⟩,h2,h3⟩
 obtain ⟨cs,ho⟩:=hr.obj hk'
 exact hk k cs (hr.lt hk').1 (hr.lt hk').2 ho
theorem ValIs.keys {N:Nat} {w:World} {u:Value} {x:LVal} (h:ValIs N w u x):∃ A C,u=valU x A C∧x.nk≤C∧KeysAt w A x.nk x.K:=by
 obtain ⟨⟨A,C,e,hr⟩,h2,h3⟩:=h
 obtain ⟨a,c,e',hc,hk⟩:=hr.keysAt h2 h3
 cases e'
 exact ⟨A,C,e,hc,hk⟩
def LMap (N:Nat) (w:World) (b n:Nat) (v:Int→ByteArray→ByteArray→ByteArray→Option LVal):Prop :=
 ∃ g,VMap w b n g∧∀ s ty f key,(Lit.int .i64 s).wf=true→Small ty→Small f→Small key→match v s ty f key with
  | none=>g s ty f key=none
  | some x => ∃ u,g s ty f key=some u∧ValIs N w u x
theorem LMap.lt {N:Nat} {w:World} {b n:Nat} {v:Int→ByteArray→ByteArray→ByteArray→Option LVal} (h:LMap N w b n v):b < w.heap.size:=let ⟨_,h,_⟩:=h; h.lt
theorem LMap.obj {N:Nat} {w:World} {b n:Nat} {v:Int→ByteArray→ByteArray→ByteArray→Option LVal} (h:LMap N w b n v):∃ es c,w.heap[b]? = some (.map es c):=let ⟨_,h,_⟩:=h; h.obj
theorem LMap.mono {N:Nat} {w:World} {b n m:Nat} {v:Int→ByteArray→ByteArray→ByteArray→Option LVal} (h:LMap N w b n v) (hm:n≤m):LMap N w b m v:=let ⟨g,h1,h2⟩:=h; ⟨g,h1.mono hm,h2⟩
theorem LMap.at {N:Nat} {w w':World} {b n:Nat} {v:Int→ByteArray→ByteArray→ByteArray→Option LVal} (h:LMap N w b n v) (hb:w'.heap[b]? = w.heap[b]?) (hk:∀ k cs,N≤k→k < w.heap.size→w.heap[k]? = some (.cells cs 9 (0,0))→w'.heap[k]? = w.heap[k]?):LMap N w' b n v:=by
 obtain ⟨g,h1,h2⟩:=h
 refine ⟨g,h1.at hb,fun s ty f key hs ht hf hk'=>?_⟩
 have:=h2 s ty f key hs ht hf hk'
 cases e:v s ty f key with
 | none=>rw [e] at this; exact this
 | some x =>
  rw [e] at this
  obtain ⟨u,e1,e2⟩:=this
  exact ⟨u,e1,e2.at hk⟩
theorem LMap.kept {N:Nat} {w w':World} {b n:Nat} {v:Int→ByteArray→ByteArray→ByteArray→Option LVal} (h:LMap N w b n v) (hB:Below w.heap.size w w'):LMap N w' b n v:=h.at (hB.block b h.lt) fun k _ _ hk _=>hB.block k hk
theorem LMap.congr {N:Nat} {w:World} {b n:Nat} {v v':Int→ByteArray→ByteArray→ByteArray→Option LVal} (h:LMap N w b n v) (e:∀ s ty f key,v s ty f key=v' s ty f key):LMap N w b n v':=by
 have:v=v':=by funext s ty f key; exact e s ty f key
 exact this ▸ h
theorem LMap.made (N:Nat) (w:World):LMap N (w.alloc (.map #[] 0)) w.heap.size 0 (fun _ _ _ _=>none):=⟨_,VMap.made w,fun _ _ _ _ _ _ _ _=>rfl⟩
theorem turned_block {w w':World} {b:Nat} (h:w.mapTurned w' b) {k:Nat} (hk:k < w.heap.size) (hne:k≠b):w'.heap[k]? = w.heap[k]?:=h.grown.block k hk (fun e=>hne (by cases e; rfl))
theorem LMap.store {N:Nat} {w:World} {b n:Nat} {v:Int→ByteArray→ByteArray→ByteArray→Option LVal} (h:LMap N w b n v) (hn:n < maxLen) {s:Int} {ty f key:ByteArray} (hs:(Lit.int .i64 s).wf=true) (ht:Small ty) (hf:Small f) (hk:Small key) {u:Value} {x:LVal} (hu:ValIs N w u x) :
  ∃ w',(Instr.mapUpdate 86 (.map (some b)) (.agg #[.int .i64 s,.string ty,.string f,.string key]) u).run Tryz.prog w = .ok () w'∧LMap N w' b (n + 1) (putV v s ty f key x)∧w.mapTurned w' b:=by
 obtain ⟨g,h1,h2⟩:=h
 obtain ⟨es,c,ho⟩:=h1.obj
 obtain ⟨w',hr,h3,h4⟩:=h1.store hn hs ht hf hk u
 have hst:∀ k cs,N≤k→k < w.heap.size→w.heap[k]? = some (.cells cs 9 (0,0))→w'.heap[k]? = w.heap[k]?:=fun k cs _ hk ho'=>turned_block h4 hk fun e=>by subst e; rw [ho] at ho'; cases ho'
 refine ⟨w',hr,⟨_,h3,fun s' ty' f' key' hs' ht' hf' hk'=>?_⟩,h4⟩
 unfold putV
 by_cases e:s'=s∧ty'=ty∧f'=f∧key'=key
 ·rw [if_pos e]
  exact ⟨u,if_pos e,hu.at hst⟩
 ·rw [if_neg e]
  have:=h2 s' ty' f' key' hs' ht' hf' hk'
  cases e':v s' ty' f' key' with
  | none=>rw [e'] at this; exact (if_neg e).trans this
  | some y =>
   rw [e'] at this
   obtain ⟨u',e1,e2⟩:=this
   exact ⟨u',(if_neg e).trans e1,e2.at hst⟩
theorem LMap.look_ok {N:Nat} {w:World} {b n:Nat} {v:Int→ByteArray→ByteArray→ByteArray→Option LVal} (h:LMap N w b n v) {s:Int} {ty f key:ByteArray} (hs:(Lit.int .i64 s).wf=true) (ht:Small ty) (hf:Small f) (hk:Small key) :
  (v s ty f key=none∧(Instr.lookup 86 (.map (some b)) (.agg #[.int .i64 s,.string ty,.string f,.string key]) true).run Tryz.prog w = .ok (.tuple #[zeroVal,.bool false]) w∧(Instr.lookup 86 (.map (some b)) (.agg #[.int .i64 s,.string ty,.string f,.string key]) false).run Tryz.prog w = .ok zeroVal w) ∨
  ∃ x A C,v s ty f key=some x∧x.nk≤C∧KeysAt w A x.nk x.K∧(Instr.lookup 86 (.map (some b)) (.agg #[.int .i64 s,.string ty,.string f,.string key]) true).run Tryz.prog w = .ok (.tuple #[valU x A C,.bool true]) w∧(Instr.lookup 86 (.map (some b)) (.agg #[.int .i64 s,.string ty,.string f,.string key]) false).run Tryz.prog w = .ok (valU x A C) w:=by
 obtain ⟨g,h1,h2⟩:=h
 have l1:=h1.look_ok hs ht hf hk
 have l2:=h1.look hs ht hf hk
 have:=h2 s ty f key hs ht hf hk
 cases e:v s ty f key with
 | none =>
  rw [e] at this
  have this:g s ty f key=none:=this
  rw [this] at l1 l2
  exact .inl ⟨rfl,l1,l2⟩
 | some x =>
  rw [e] at this
  obtain ⟨u,e1,e2⟩:=this
  obtain ⟨A,C,rfl,hC,hK⟩:=e2.keys
  rw [e1] at l1 l2
  exact .inr ⟨x,A,C,rfl,hC,hK,l1,l2⟩
theorem gwf_small {x:Int} (h0:0≤x) (h1:x≤9223372036854775807):(Lit.int .i64 x).wf=true:=by
 have h2:IntKind.i64.min = -9223372036854775808:=by decide
 have h3:IntKind.i64.max=9223372036854775807:=by decide
 simp [Lit.wf,h2,h3]
 omega
def CMap (w:World) (b n:Nat) (c:ByteArray→Nat):Prop := ∃ g,TMap w b n g∧∀ s,Small s→(g s).getD 0=(c s:Int)
theorem CMap.lt {w:World} {b n:Nat} {c:ByteArray→Nat} (h:CMap w b n c):b < w.heap.size:=let ⟨_,h,_⟩:=h; h.lt
theorem CMap.obj {w:World} {b n:Nat} {c:ByteArray→Nat} (h:CMap w b n c):∃ es k,w.heap[b]? = some (.map es k):=let ⟨_,h,_⟩:=h; h.obj
theorem CMap.at {w w':World} {b n:Nat} {c:ByteArray→Nat} (h:CMap w b n c) (hb:w'.heap[b]? = w.heap[b]?):CMap w' b n c:=let ⟨g,h1,h2⟩:=h; ⟨g,h1.at hb,h2⟩
theorem CMap.kept {w w':World} {b n:Nat} {c:ByteArray→Nat} (h:CMap w b n c) (hB:Below w.heap.size w w'):CMap w' b n c:=h.at (hB.block b h.lt)
theorem CMap.mono {w:World} {b n m:Nat} {c:ByteArray→Nat} (h:CMap w b n c) (hm:n≤m):CMap w b m c:=let ⟨g,h1,h2⟩:=h; ⟨g,h1.mono hm,h2⟩
theorem CMap.made (w:World):CMap (w.alloc (.map #[] 0)) w.heap.size 0 (fun _=>0):=⟨_,TMap.made w,fun _ _=>rfl⟩
theorem CMap.congr {w:World} {b n:Nat} {c c':ByteArray→Nat} (h:CMap w b n c) (e:∀ s,c s=c' s):CMap w b n c':=by
 have:c=c':=funext e
 exact this ▸ h
theorem CMap.look {w:World} {b n:Nat} {c:ByteArray→Nat} (h:CMap w b n c) {s:ByteArray} (hs:Small s):(Instr.lookup 85 (.map (some b)) (.string s) false).run Tryz.prog w = .ok (.int .i64 (c s:Int)) w:=by
 obtain ⟨g,h1,h2⟩:=h
 rw [← h2 s hs]
 exact h1.look hs
theorem CMap.bump {w:World} {b n:Nat} {c:ByteArray→Nat} (h:CMap w b n c) (hn:n < maxLen) {s:ByteArray} (hs:Small s) (hx:c s < 1000000):∃ w',(Instr.mapUpdate 85 (.map (some b)) (.string s) (.int .i64 ((c s:Int) + 1))).run Tryz.prog w = .ok () w'∧CMap w' b (n + 1) (bump c s)∧w.mapTurned w' b:=by
 obtain ⟨g,h1,h2⟩:=h
 have hwf:(Lit.int .i64 ((c s:Int) + 1)).wf=true:=gwf_small (by omega) (by omega)
 obtain ⟨w',hr,h3,h4⟩:=h1.store hn hs hwf
 refine ⟨w',hr,⟨_,h3,fun u hu=>?_⟩,h4⟩
 unfold Go.Proofs.YtjjggefmmeminacGreat.bump
 cases e:eqs u s
 ·exact h2 u hu
 ·show (c s:Int) + 1=_
  simp
def isReq (w:World) (k:Nat):Prop := ∃ cs fz,w.heap[k]? = some (.cells cs 35 fz)
structure RRow (N0:Nat) (w:World) (v:Value) (L:List PReq) (kv fv:Nat→Value):Prop where
 row:Row w N0 35 4 v L.length (reqCell L kv fv)
 keys:∀ i,i < L.length→(reqN L i).keys.length≤maxLen∧Row w N0 9 1 (kv i) (reqN L i).keys.length (textCell (txtN (reqN L i).keys))∧∀ j,j < (reqN L i).keys.length→Small (txtN (reqN L i).keys j)
 fields:∀ i,i < L.length→(reqN L i).fields.length≤maxLen∧Row w N0 9 1 (fv i) (reqN L i).fields.length (textCell (txtN (reqN L i).fields))∧∀ j,j < (reqN L i).fields.length→Small (txtN (reqN L i).fields j)
theorem RRow.nil (N0:Nat) (w:World) (kv fv:Nat→Value):RRow N0 w (.slice none 0 0) [] kv fv:=⟨⟨rfl,.inl ⟨rfl,rfl⟩⟩,fun _ hi=>absurd hi (Nat.not_lt_zero _),fun _ hi=>absurd hi (Nat.not_lt_zero _)⟩
theorem RRow.at {N0:Nat} {w w':World} {v:Value} {L:List PReq} {kv fv:Nat→Value} (h:RRow N0 w v L kv fv) (hv:∀ k,v.ownBlock=some k→w'.heap[k]? = w.heap[k]?) (hk:∀ k cs,N0≤k→k < w.heap.size→w.heap[k]? = some (.cells cs 9 (0,0))→w'.heap[k]? = w.heap[k]?):RRow N0 w' v L kv fv:=by
 have hrow:∀ {n:Nat} {u:Value} {f : Nat→Value},Row w N0 9 1 u n f→Row w' N0 9 1 u n f:=fun hr=>hr.at fun k hk'=>by
  obtain ⟨cs,ho⟩:=hr.obj hk'
  exact hk k cs (hr.lt hk').1 (hr.lt hk').2 ho
 exact ⟨h.row.at hv,fun i hi=>let ⟨h1,h2,h3⟩:=h.keys i hi; ⟨h1,hrow h2,h3⟩,fun i hi=>let ⟨h1,h2,h3⟩:=h.fields i hi; ⟨h1,hrow h2,h3⟩⟩
theorem RRow.kept {N0:Nat} {w w':World} {v:Value} {L:List PReq} {kv fv:Nat→Value} (h:RRow N0 w v L kv fv) (hB:Below w.heap.size w w'):RRow N0 w' v L kv fv:=h.at (fun k hk=>hB.block k (h.row.lt hk).2) fun k _ _ hk _=>hB.block k hk
theorem RRow.slice {N0:Nat} {w:World} {v:Value} {L:List PReq} {kv fv:Nat→Value} (h:RRow N0 w v L kv fv):∃ a cap,v = .slice a L.length cap∧L.length≤cap:=h.row.slice
theorem RRow.app {N0:Nat} {w w':World} {v v':Value} {L:List PReq} {kv fv:Nat→Value} {r:PReq} {k1 f1:Value} (h:RRow N0 w v L kv fv)
  (hk:r.keys.length≤maxLen∧Row w N0 9 1 k1 r.keys.length (textCell (txtN r.keys))∧∀ j,j < r.keys.length→Small (txtN r.keys j)) (hf:r.fields.length≤maxLen∧Row w N0 9 1 f1 r.fields.length (textCell (txtN r.fields))∧∀ j,j < r.fields.length→Small (txtN r.fields j))
  (hown:w'.ownsRow N0 35 4 v' (L.length + 1) ((List.range (L.length * 4)).map (reqCell L kv fv) ++ reqL r k1 f1)) (hg:w.grownBy w' v.ownBlock) :
  RRow N0 w' v' (L ++ [r]) (fun i=>if i < L.length then kv i else k1) (fun i=>if i < L.length then fv i else f1):=by
 have hl:(L ++ [r]).length=L.length + 1:=by simp
 have ec:=reqCells_join L [r] kv fv (fun _=>k1) (fun _=>f1)
 have e1:(List.range ([r].length * 4)).map (reqCell [r] (fun _=>k1) (fun _=>f1))=reqL r k1 f1:=by
  show (List.range 4).map _=_
  rw [show List.range 4 = [0,1,2,3] from by decide]
  simp [reqCell,reqL,reqN]
 rw [e1] at ec
 have hrow:∀ {n:Nat} {u:Value} {f : Nat→Value},Row w N0 9 1 u n f→Row w' N0 9 1 u n f:=fun hr=>hr.grown hg fun k hk e=>h.row.ne hr (by decide) e hk
 refine ⟨?_,fun i hi=>?_,fun i hi=>?_⟩
 ·unfold Row; rw [hl]; exact ec ▸ hown
 ·rw [hl] at hi
  rw [reqN_app]
  by_cases h':i < L.length
  ·rw [if_pos h',if_pos h']
   obtain ⟨h1,h2,h3⟩:=h.keys i h'
   exact ⟨h1,hrow h2,h3⟩
  ·rw [if_neg h',if_neg h',show i - L.length=0 by omega]
   exact ⟨hk.1,hrow hk.2.1,hk.2.2⟩
 ·rw [hl] at hi
  rw [reqN_app]
  by_cases h':i < L.length
  ·rw [if_pos h',if_pos h']
   obtain ⟨h1,h2,h3⟩:=h.fields i h'
   exact ⟨h1,hrow h2,h3⟩
  ·rw [if_neg h',if_neg h',show i - L.length=0 by omega]
   exact ⟨hf.1,hrow hf.2.1,hf.2.2⟩
theorem RRow.out {N0:Nat} {w:World} {v:Value} {L:List PReq} {kv fv:Nat→Value} (h:RRow N0 w v L kv fv) (hm:L.length≤maxLen):∃ a cap,v = .slice a L.length cap∧L.length≤cap∧ReqsAt w a L:=by
 rcases h.row.shape with ⟨e,h0⟩ | ⟨g,cap,e,hg,hc,-⟩
 ·have:L = []:=List.eq_nil_of_length_eq_zero h0
  subst this
  exact ⟨none,0,e,Nat.le_refl _,ReqsAt.none⟩
 ·subst e
  refine ⟨_,cap,rfl,hc,hm,fun i hi=>?_⟩
  obtain ⟨m1,r1,s1⟩:=h.keys i hi
  obtain ⟨m2,r2,s2⟩:=h.fields i hi
  obtain ⟨A,C,e1,l1,t1⟩:=r1.keysAt m1 s1
  obtain ⟨A2,C2,e2,l2,t2⟩:=r2.keysAt m2 s2
  have c0:=h.row.cell (j:=i * 4) (by omega)
  have c1:=h.row.cell (j:=i * 4 + 1) (by omega)
  have c2:=h.row.cell (j:=i * 4 + 2) (by omega)
  have c3:=h.row.cell (j:=i * 4 + 3) (by omega)
  unfold reqCell at c0 c1 c2 c3
  rw [if_pos (by omega),show i * 4 / 4=i by omega] at c0
  rw [if_neg (by omega),if_pos (by omega),show (i * 4 + 1) / 4=i by omega] at c1
  rw [if_neg (by omega),if_neg (by omega),if_pos (by omega),show (i * 4 + 2) / 4=i by omega,e1] at c2
  rw [if_neg (by omega),if_neg (by omega),if_neg (by omega),show (i * 4 + 3) / 4=i by omega,e2] at c3
  exact ⟨g,0,A,C,A2,C2,rfl,by rw [Nat.zero_add]; exact c0,by rw [Nat.zero_add]; exact c1,by rw [Nat.zero_add]; exact c2,by rw [Nat.zero_add]; exact c3,l1,l2,t1,t2⟩
structure KeepQ (N0 bg:Nat) (w w':World):Prop where
 os:w'.os=w.os
 tape:w'.tape=w.tape
 output:w'.output=w.output
 size:w.heap.size≤w'.heap.size
 block:∀ k,k < w.heap.size→k≠bg→(k < N0∨¬ isReq w k)→w'.heap[k]? = w.heap[k]?
theorem KeepQ.of {N0 bg:Nat} {w w':World} (h:Below w.heap.size w w'):KeepQ N0 bg w w':=⟨h.os,h.tape,h.output,h.size,fun k hk _ _=>h.block k hk⟩
theorem KeepQ.trans {N0 bg:Nat} {w w1 w2:World} (h:KeepQ N0 bg w w1) (h':KeepQ N0 bg w1 w2):KeepQ N0 bg w w2 :=
 ⟨h'.os.trans h.os,h'.tape.trans h.tape,h'.output.trans h.output,Nat.le_trans h.size h'.size,fun k hk hne hq=>by
  have e:=h.block k hk hne hq
  rw [h'.block k (Nat.lt_of_lt_of_le hk h.size) hne (hq.imp id fun hn=>by unfold isReq at hn ⊢; rw [e]; exact hn),e]⟩
theorem KeepQ.below {N0 bg:Nat} {w w':World} (h:KeepQ N0 bg w w') (hb:N0≤bg) (hN:N0≤w.heap.size):Below N0 w w':=⟨h.os,h.tape,h.output,h.size,fun k hk=>h.block k (by omega) (by omega) (.inl hk)⟩
theorem KeepQ.cells {N0 bg:Nat} {w w':World} (h:KeepQ N0 bg w w') {k t:Nat} {cs:Array Value} {fz:Nat × Nat} (ho:w.heap[k]? = some (.cells cs t fz)) (ht:t≠35) (hk:k≠bg):w'.heap[k]? = w.heap[k]? :=
 h.block k (lt_of_block ho) hk (.inr fun ⟨cs',fz',e⟩=>by rw [ho] at e; cases e; exact ht rfl)
theorem KeepQ.map {N0 bg:Nat} {w w':World} (h:KeepQ N0 bg w w') {k:Nat} {es:Array MapEntry} {c:Nat} (ho:w.heap[k]? = some (.map es c)) (hk:k≠bg):w'.heap[k]? = w.heap[k]? :=
 h.block k (lt_of_block ho) hk (.inr fun ⟨cs',fz',e⟩=>by rw [ho] at e; cases e)
structure Later (N:Nat) (w w':World):Prop where
 size:w.heap.size≤w'.heap.size
 block:∀ k,N≤k→k < w.heap.size→¬ isReq w k→w'.heap[k]? = w.heap[k]?
theorem Later.of {N:Nat} {w w':World} (h:Below w.heap.size w w'):Later N w w':=⟨h.size,fun k _ hk _=>h.block k hk⟩
theorem Later.refl (N:Nat) (w:World):Later N w w:=⟨Nat.le_refl _,fun _ _ _ _=>rfl⟩
theorem Later.trans {N:Nat} {w w1 w2:World} (h:Later N w w1) (h':Later N w1 w2):Later N w w2:=⟨Nat.le_trans h.size h'.size,fun k hN hk hq=>by
  have e:=h.block k hN hk hq
  rw [h'.block k hN (Nat.lt_of_lt_of_le hk h.size) (by unfold isReq at hq ⊢; rw [e]; exact hq),e]⟩
theorem Later.mono {N N':Nat} {w w':World} (h:Later N w w') (hN:N≤N'):Later N' w w':=⟨h.size,fun k hk=>h.block k (by omega)⟩
theorem KeepQ.later {N0 bg N:Nat} {w w':World} (h:KeepQ N0 bg w w') (hb:bg < N):Later N w w':=⟨h.size,fun k hN hk hq=>h.block k hk (by omega) (.inr hq)⟩
theorem Later.cells {N:Nat} {w w':World} (h:Later N w w') {k t:Nat} {cs:Array Value} {fz:Nat × Nat} (ho:w.heap[k]? = some (.cells cs t fz)) (ht:t≠35) (hk:N≤k):w'.heap[k]? = w.heap[k]? :=
 h.block k hk (lt_of_block ho) (fun ⟨cs',fz',e⟩=>by rw [ho] at e; cases e; exact ht rfl)
theorem Later.map {N:Nat} {w w':World} (h:Later N w w') {k:Nat} {es:Array MapEntry} {c:Nat} (ho:w.heap[k]? = some (.map es c)) (hk:N≤k):w'.heap[k]? = w.heap[k]? :=
 h.block k hk (lt_of_block ho) (fun ⟨cs',fz',e⟩=>by rw [ho] at e; cases e)
theorem Row.later {N base e size n:Nat} {w w':World} {v:Value} {f : Nat→Value} (hR:Row w base e size v n f) (h:Later N w w') (he:e≠35) (hb:N≤base):Row w' base e size v n f :=
 hR.at fun _ hk=>let ⟨_,ho⟩:=hR.obj hk; h.cells ho he (Nat.le_trans hb (hR.lt hk).1)
theorem LMap.later {N:Nat} {w w':World} {b n:Nat} {v:Int→ByteArray→ByteArray→ByteArray→Option LVal} (hM:LMap N w b n v) (h:Later N w w') (hb:N≤b):LMap N w' b n v :=
 hM.at (let ⟨_,_,ho⟩:=hM.obj; h.map ho hb) fun _ _ hN _ ho=>h.cells ho (by decide) hN
theorem CMap.later {N:Nat} {w w':World} {b n:Nat} {c:ByteArray→Nat} (hM:CMap w b n c) (h:Later N w w') (hb:N≤b):CMap w' b n c:=hM.at (let ⟨_,_,ho⟩:=hM.obj; h.map ho hb)
structure GateAt (N0 bg:Nat) (sv pv:Value) (w:World) (R:List PReq):Prop where
 ex:∃ rv kv fv,w.heap[bg]? = some (.cells #[sv,pv,rv] 82 (0,0))∧RRow N0 w rv R kv fv
theorem GateAt.kept {N0 bg:Nat} {sv pv:Value} {w w':World} {R:List PReq} (h:GateAt N0 bg sv pv w R) (hB:Below w.heap.size w w'):GateAt N0 bg sv pv w' R:=by
 obtain ⟨rv,kv,fv,h1,h2⟩:=h
 exact ⟨rv,kv,fv,(hB.block _ (lt_of_block h1)).trans h1,h2.kept hB⟩
theorem GateAt.at {N0 bg:Nat} {sv pv:Value} {w w':World} {R:List PReq} (h:GateAt N0 bg sv pv w R) (hk:∀ k cs t,k < w.heap.size→w.heap[k]? = some (.cells cs t (0,0))→t=82∨t=35∨t=9→w'.heap[k]? = w.heap[k]?):GateAt N0 bg sv pv w' R:=by
 obtain ⟨rv,kv,fv,h1,h2⟩:=h
 refine ⟨rv,kv,fv,(hk _ _ _ (lt_of_block h1) h1 (.inl rfl)).trans h1,h2.at (fun k hk'=>?_) fun k cs _ hlt ho=>hk k cs _ hlt ho (.inr (.inr rfl))⟩
 obtain ⟨cs,ho⟩:=h2.row.obj hk'
 exact hk k cs _ (h2.row.lt hk').2 ho (.inr (.inl rfl))
def TellEnd (N0 d:Nat) (r:Option (List (Got d))) (e:Ending) (w':World):Prop:=(r=none∧e = .returned (.tuple #[.slice none 0 0,.bool false]))∨∃ L a c,r=some L∧e = .returned (.tuple #[.slice a L.length c,.bool true])∧L.length≤c∧GotsOut N0 d w' a c L
structure LV where
 a:Option Addr
 n:Nat
 c:Nat
 h:Option Nat
 v:Option Nat
def LV.val (l:LV):Value:=.agg #[.slice l.a l.n l.c,.map l.h,.map l.v]
def LV.zero:LV:=⟨none,0,0,none,none⟩
def TellFn (N:Nat) (w:World) (l:LV) (d:Nat) (S:List ByteArray) (f:ByteArray→Option (List (Got d))):Prop := ∀ w1,Later N w w1→∀ key,Small key→key ∈ S→Calls Tryz.prog 25 #[.agg #[.slice l.a l.n l.c,.map l.h,.map l.v],.string key] w1 fun e w'=>Below w1.heap.size w1 w'∧TellEnd w1.heap.size d (f key) e w'
theorem TellFn.step {N:Nat} {w w':World} {l:LV} {d:Nat} {S:List ByteArray} {f : ByteArray→Option (List (Got d))} (h:TellFn N w l d S f) (hl:Later N w w'):TellFn N w' l d S f:=fun w1 h1=>h w1 (hl.trans h1)
def chCell {d:Nat} (p:PPart) (ps:List (Pick (d + 1))) (pv:Nat→Value) (nx:Nat→LV) (j:Nat):Value :=
 if j % 11=0 then .string (called (pickN ps (j / 11))) else if j % 11=1 then pv (j / 11) else if j % 11=2 then .string (fOf p (pfield (pickN ps (j / 11)))).name else if j % 11=3 then .int .i64 (fOf p (pfield (pickN ps (j / 11)))).kind else if j % 11=4 then .string (fOf p (pfield (pickN ps (j / 11)))).type
 else if j % 11=5 then .int .i64 (oOf p (pfield (pickN ps (j / 11)))).svc else if j % 11=6 then .string (oOf p (pfield (pickN ps (j / 11)))).type else if j % 11=7 then .string (oOf p (pfield (pickN ps (j / 11)))).field else if j % 11=8 then .slice (nx (j / 11)).a (nx (j / 11)).n (nx (j / 11)).c else if j % 11=9 then .map (nx (j / 11)).h else .map (nx (j / 11)).v
theorem chCells {d:Nat} {p:PPart} {ps:List (Pick (d + 1))} {pv:Nat→Value} {nx:Nat→LV} {w:World} {base g n cap:Nat} (h:Row w base 127 11 (.slice (some ⟨g,0,none⟩) n cap) n (chCell p ps pv nx)) {i:Nat} (hi:i < n) :
  w.cell? ⟨g,i * 11,none⟩=some (.string (called (pickN ps i)))∧w.cell? ⟨g,i * 11 + 1,none⟩=some (pv i)∧w.cell? ⟨g,i * 11 + 2,none⟩=some (.string (fOf p (pfield (pickN ps i))).name)∧w.cell? ⟨g,i * 11 + 3,none⟩=some (.int .i64 (fOf p (pfield (pickN ps i))).kind)∧w.cell? ⟨g,i * 11 + 4,none⟩=some (.string (fOf p (pfield (pickN ps i))).type) ∧
  w.cell? ⟨g,i * 11 + 5,none⟩=some (.int .i64 (oOf p (pfield (pickN ps i))).svc)∧w.cell? ⟨g,i * 11 + 6,none⟩=some (.string (oOf p (pfield (pickN ps i))).type)∧w.cell? ⟨g,i * 11 + 7,none⟩=some (.string (oOf p (pfield (pickN ps i))).field)∧w.cell? ⟨g,i * 11 + 8,none⟩=some (.slice (nx i).a (nx i).n (nx i).c)∧w.cell? ⟨g,i * 11 + 9,none⟩=some (.map (nx i).h)∧w.cell? ⟨g,i * 11 + 10,none⟩=some (.map (nx i).v):=by
 have hd:∀ q,q < 11→(i * 11 + q) / 11=i∧(i * 11 + q) % 11=q:=fun q hq=>by omega
 have hc:∀ q,q < 11→w.cell? ⟨g,i * 11 + q,none⟩=some (chCell p ps pv nx (i * 11 + q)):=fun q hq=>h.cell (by omega)
 refine ⟨?_,?_,?_,?_,?_,?_,?_,?_,?_,?_,?_⟩
 ·have:=hc 0 (by omega); unfold chCell at this; rw [(hd 0 (by omega)).1,(hd 0 (by omega)).2] at this; exact this
 ·have:=hc 1 (by omega); unfold chCell at this; rw [(hd 1 (by omega)).1,(hd 1 (by omega)).2] at this; exact this
 ·have:=hc 2 (by omega); unfold chCell at this; rw [(hd 2 (by omega)).1,(hd 2 (by omega)).2] at this; exact this
 ·have:=hc 3 (by omega); unfold chCell at this; rw [(hd 3 (by omega)).1,(hd 3 (by omega)).2] at this; exact this
 ·have:=hc 4 (by omega); unfold chCell at this; rw [(hd 4 (by omega)).1,(hd 4 (by omega)).2] at this; exact this
 ·have:=hc 5 (by omega); unfold chCell at this; rw [(hd 5 (by omega)).1,(hd 5 (by omega)).2] at this; exact this
 ·have:=hc 6 (by omega); unfold chCell at this; rw [(hd 6 (by omega)).1,(hd 6 (by omega)).2] at this; exact this
 ·have:=hc 7 (by omega); unfold chCell at this; rw [(hd 7 (by omega)).1,(hd 7 (by omega)).2] at this; exact this
 ·have:=hc 8 (by omega); unfold chCell at this; rw [(hd 8 (by omega)).1,(hd 8 (by omega)).2] at this; exact this
 ·have:=hc 9 (by omega); unfold chCell at this; rw [(hd 9 (by omega)).1,(hd 9 (by omega)).2] at this; exact this
 ·have:=hc 10 (by omega); unfold chCell at this; rw [(hd 10 (by omega)).1,(hd 10 (by omega)).2] at this; exact this
end Go.Proofs.YtjjggefmmeminacGreat
