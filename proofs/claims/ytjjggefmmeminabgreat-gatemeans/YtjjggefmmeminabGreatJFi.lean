import Derived.Test.YtjjggefmmeminabGreatJBase
import Derived.Maps.OwnSet
import Derived.WalkLawsBesides
import Derived.DeepKeys4
import Derived.ChangeKeys
import Derived.Test.YtjjggefmmeminabGreatJMn
namespace Go.Proofs.YtjjggefmmeminabGreat
open Go.RowKit Go.Sort
theorem Tryz.zeroI (w:World):(zeroValue 3).run Tryz.prog w = .ok (.int .i64 0) w:=by kernel_rfl
theorem Tryz.laidOut:laidOutB Tryz.prog=true:=by kernel_rfl
theorem Tryz.rowP:(90:TypeId) < Tryz.prog.types.size:=of_decide_eq_true (by kernel_rfl)
theorem Tryz.wideP:(match Tryz.prog.underlying 90 with | some (.array _ _) | some (.struct _)=>true | _=>false)=true:=by kernel_rfl
set_option maxRecDepth 100000 in
theorem Tryz.keyedP:Maps.Keyed Tryz.prog 90:=Maps.Keyed.of_law (deep_law_laid Tryz.laidOut (m:=2) (by omega) Tryz.rowP (by kernel_rfl) Tryz.wideP)
theorem Tryz.keyTypeP:Tryz.prog.keyType 90=true:=by kernel_rfl
theorem Tryz.cellsP:Tryz.prog.cellsOf 90=3:=by kernel_rfl
theorem Tryz.cells1:Tryz.prog.cellsOf 3=1:=by kernel_rfl
theorem Tryz.cells2:Tryz.prog.cellsOf 9=1:=by kernel_rfl
def plV (s:Int) (ty key:ByteArray):Value:=.agg #[.int .i64 s,.string ty,.string key]
def plL (s:Int) (ty key:ByteArray):List Lit:=[.int .i64 s,.string ty.data.toList,.string key.data.toList]
def plK (s:Int) (ty key:ByteArray):Lit:=.string (keyBytes (plL s ty key))
theorem pl_lits {s:Int} {ty key:ByteArray} (hs:(Lit.int .i64 s).wf=true) (ht:Small ty) (hk:Small key) (m:Nat):Tryz.prog.keyLits (m + 2) 90 [.int .i64 s,.string ty,.string key]=some (plL s ty key):=by
 have ht':ty.size≤maxLen:=ht
 have hk':key.size≤maxLen:=hk
 simp [Program.keyLits,Tryz.underlying90,Tryz.underlying3,Tryz.underlying9,Tryz.cellsP,Tryz.cells1,Tryz.cells2,hs,ht',hk',plL]
theorem pl_key {s:Int} {ty key:ByteArray} (hs:(Lit.int .i64 s).wf=true) (ht:Small ty) (hk:Small key):keyOf Tryz.prog 90 (plV s ty key)=some (plK s ty key):=by
 have hsz:1≤Tryz.prog.types.size:=Nat.lt_of_le_of_lt (Nat.zero_le _) Tryz.rowP
 obtain ⟨m,hm⟩:∃ m,Tryz.prog.types.size + 1=m + 2:=⟨Tryz.prog.types.size - 1,by omega⟩
 have hl:=pl_lits hs ht hk m
 unfold keyOf plV plK
 rw [hm]
 simp [Tryz.underlying90,Tryz.keyTypeP,Value.formed,Tryz.cellsP,Value.cells,hl]
theorem data_inj {s u:ByteArray} (h:s.data=u.data):s=u:=by
 cases s; cases u; cases h; rfl
theorem pl_inj {s s':Int} {ty ty' key key':ByteArray} (hs:(Lit.int .i64 s).wf=true) (ht:Small ty) (hk:Small key) (hs':(Lit.int .i64 s').wf=true) (ht':Small ty') (hk':Small key') (h:plK s ty key=plK s' ty' key'):s=s'∧ty=ty'∧key=key':=by
 have e:plL s ty key=plL s' ty' key':=keyLits_inj (pl_lits hs ht hk 0) (pl_lits hs' ht' hk' 0) (by simpa [plK] using h)
 simp [plL] at e
 exact ⟨e.1,data_inj e.2.1,data_inj e.2.2⟩
def PMap (w:World) (b n:Nat) (f:Int→ByteArray→ByteArray→Option Int):Prop :=
 ∃ D:DataW Unit,w.ownsMap Tryz.prog 90 (plainElem Tryz.prog 3) b n D∧∀ s ty key,(Lit.int .i64 s).wf=true→Small ty→Small key→Maps.has D (plK s ty key)=(f s ty key).isSome∧D.atKey (plK s ty key) (.lit (.int .i64 0)) = .lit (.int .i64 ((f s ty key).getD 0))
theorem PMap.made (w:World):PMap (w.alloc (.map #[] 0)) w.heap.size 0 (fun _ _ _=>none) :=
 ⟨.map [],World.ownsMap_made w _ _ _,fun _ _ _ _ _ _=>⟨rfl,rfl⟩⟩
theorem PMap.lt {w:World} {b n:Nat} {f : Int→ByteArray→ByteArray→Option Int} (h:PMap w b n f):b < w.heap.size:=let ⟨_,h,_⟩:=h; h.lt
theorem PMap.at {w w':World} {b n:Nat} {f : Int→ByteArray→ByteArray→Option Int} (h:PMap w b n f) (hb:w'.heap[b]? = w.heap[b]?):PMap w' b n f:=by
 obtain ⟨D,⟨es,clock,h1,h2⟩,h3⟩:=h
 exact ⟨D,⟨es,clock,hb.trans h1,h2⟩,h3⟩
theorem PMap.kept {w w':World} {b n:Nat} {f : Int→ByteArray→ByteArray→Option Int} (h:PMap w b n f) (hB:Below w.heap.size w w'):PMap w' b n f:=h.at (hB.block b h.lt)
theorem PMap.congr {w:World} {b n:Nat} {f g:Int→ByteArray→ByteArray→Option Int} (h:PMap w b n f) (e:∀ s ty key,Small ty→Small key→f s ty key=g s ty key):PMap w b n g:=by
 obtain ⟨D,h1,h2⟩:=h
 exact ⟨D,h1,fun s ty key hs ht hk=>by rw [← e s ty key ht hk]; exact h2 s ty key hs ht hk⟩
theorem PMap.look_ok {w:World} {b n:Nat} {f : Int→ByteArray→ByteArray→Option Int} (h:PMap w b n f) {s:Int} {ty key:ByteArray} (hs:(Lit.int .i64 s).wf=true) (ht:Small ty) (hk:Small key):(Instr.lookup 85 (.map (some b)) (.agg #[.int .i64 s,.string ty,.string key]) true).run Tryz.prog w = .ok (.tuple #[.int .i64 ((f s ty key).getD 0),.bool (f s ty key).isSome]) w:=by
 obtain ⟨D,h1,h2⟩:=h
 obtain ⟨v,ps,hr,hc⟩:=h1.look_ok Tryz.keyedP Tryz.underlying85 (Tryz.zeroI w) (plainElem_int Tryz.underlying3 (by decide)) (pl_key hs ht hk)
 obtain ⟨c,rfl,hc',-⟩:=plainElem_int_inv Tryz.underlying3 hc
 rw [(h2 s ty key hs ht hk).2] at hc'
 cases hc'
 rw [(h2 s ty key hs ht hk).1] at hr
 exact hr
theorem PMap.store {w:World} {b n:Nat} {f : Int→ByteArray→ByteArray→Option Int} (h:PMap w b n f) (hn:n < maxLen) {s:Int} {ty key:ByteArray} (hs:(Lit.int .i64 s).wf=true) (ht:Small ty) (hk:Small key) {x:Int} (hx:(Lit.int .i64 x).wf=true) :
  ∃ w',(Instr.mapUpdate 85 (.map (some b)) (.agg #[.int .i64 s,.string ty,.string key]) (.int .i64 x)).run Tryz.prog w = .ok () w'∧PMap w' b (n + 1) (fun s' ty' key'=>if s'=s∧ty'=ty∧key'=key then some x else f s' ty' key')∧w.mapTurned w' b:=by
 obtain ⟨D,h1,h2⟩:=h
 have hm:=h1.isMap
 obtain ⟨w',hr,h3,h4⟩:=h1.store Tryz.keyedP Tryz.underlying85 hn (pl_key hs ht hk) (plainElem_int Tryz.underlying3 hx)
 refine ⟨w',hr,⟨_,h3,fun s' ty' key' hs' ht' hk'=>?_⟩,h4⟩
 by_cases e:s'=s∧ty'=ty∧key'=key
 ·obtain ⟨rfl,rfl,rfl⟩:=e
  have hl:WideAt.IsKeyLit (plK s' ty' key'):=by simp [WideAt.IsKeyLit,plK]
  simp only [and_self,if_true]
  rw [Maps.has_put_same hm hl,Maps.atKey_put_same hm hl]
  exact ⟨rfl,rfl⟩
 ·have hne:plK s' ty' key'≠plK s ty key:=fun h=>e (pl_inj hs' ht' hk' hs ht hk h)
  simp only [e,if_false]
  rw [Maps.has_put_other hne,Maps.atKey_put_other hne]
  exact h2 s' ty' key' hs' ht' hk'
end Go.Proofs.YtjjggefmmeminabGreat
namespace Go.Proofs.YtjjggefmmeminabGreat
open Go.RowKit Go.Sort Go.PlainAid
def firstT (X:Nat→LThing) (ty:ByteArray) (k:Nat) (key:ByteArray):Option Int:=if idx k (sameThing X ty key) < 0 then none else some (idx k (sameThing X ty key))
theorem idx_more (k:Nat) (p:Nat→Bool):idx (k + 1) p=if 0≤idx k p then idx k p else if p k then (k:Int) else -1:=by
 rcases idx_cases k p with ⟨h,hb⟩ | ⟨j,hj,h,hp,hb⟩
 ·rw [h,if_neg (by omega)]
  cases hk:p k
  ·rw [idx_none (fun j hj=>by
    rcases Nat.lt_succ_iff_lt_or_eq.1 hj with h | h
    ·exact hb j h
    ·rw [h]; exact hk)]
   rfl
  ·rw [idx_hit (Nat.lt_succ_self k) hk hb]; rfl
 ·rw [h,if_pos (by omega),idx_hit (Nat.lt_succ_of_lt hj) hp hb]
theorem firstT_succ {X:Nat→LThing} {k:Nat} (h:idx k (sameThing X (X k).type (X k).key) < 0) (ty key:ByteArray):firstT X ty (k + 1) key=if ty=(X k).type∧key=(X k).key then some (k:Int) else firstT X ty k key:=by
 unfold firstT
 by_cases e:ty=(X k).type∧key=(X k).key
 ·obtain ⟨rfl,rfl⟩:=e
  have hs:sameThing X (X k).type (X k).key k=true:=by unfold sameThing; rw [eqs_iff.2 rfl,eqs_iff.2 rfl]; rfl
  rw [idx_more,if_neg (show ¬ 0≤idx k (sameThing X (X k).type (X k).key) by omega),hs]
  simp only [and_self,if_true]
  rw [if_neg (by omega)]
 ·have hs:sameThing X ty key k=false:=by
   unfold sameThing
   rw [Bool.and_eq_false_iff,eqs_false,eqs_false]
   by_cases e1:(X k).type=ty
   ·exact .inr fun e2=>e ⟨e1.symm,e2.symm⟩
   ·exact .inl e1
  rw [if_neg e,idx_more,hs]
  by_cases h0:0≤idx k (sameThing X ty key)
  ·rw [if_pos h0]
  ·rw [if_neg h0,if_pos (show idx k (sameThing X ty key) < 0 by omega)]; rfl
def plF (V:Nat→LServ) (i j:Nat) (s:Int) (ty key:ByteArray):Option Int:=if 0≤s∧s < (i:Int) then firstT (V s.toNat).X ty (V s.toNat).nx key else if s=(i:Int) then firstT (V i).X ty j key else none
theorem plF_zero (V:Nat→LServ) (s:Int) (ty key:ByteArray):plF V 0 0 s ty key=none:=by
 unfold plF
 rw [if_neg (by omega)]
 split
 ·rfl
 ·rfl
theorem plF_next (V:Nat→LServ) (i:Nat) (s:Int) (ty key:ByteArray):plF V i (V i).nx s ty key=plF V (i + 1) 0 s ty key:=by
 unfold plF
 by_cases h:0≤s∧s < (i:Int)
 ·rw [if_pos h,if_pos (by omega)]
 ·rw [if_neg h]
  by_cases h2:s=(i:Int)
  ·rw [if_pos h2,if_pos (by omega),h2,Int.toNat_natCast]
  ·rw [if_neg h2,if_neg (by omega)]
   split
   ·rfl
   ·rfl
theorem plF_step {V:Nat→LServ} {i j:Nat} (h:idx j (sameThing (V i).X ((V i).X j).type ((V i).X j).key) < 0) (s:Int) (ty key:ByteArray):(if s=(i:Int)∧ty=((V i).X j).type∧key=((V i).X j).key then some (j:Int) else plF V i j s ty key)=plF V i (j + 1) s ty key:=by
 unfold plF
 by_cases h1:0≤s∧s < (i:Int)
 ·rw [if_neg (by omega),if_pos h1,if_pos h1]
 ·rw [if_neg h1,if_neg h1]
  by_cases h2:s=(i:Int)
  ·rw [if_pos h2,if_pos h2,firstT_succ h]
   by_cases e:ty=((V i).X j).type∧key=((V i).X j).key
   ·rw [if_pos ⟨h2,e⟩,if_pos e]
   ·rw [if_neg (fun h=>e h.2),if_neg e]
  ·rw [if_neg (fun h=>h2 h.1),if_neg h2,if_neg h2]
theorem PMap.more {w:World} {b n m:Nat} {f : Int→ByteArray→ByteArray→Option Int} (h:PMap w b n f) (hm:n≤m):PMap w b m f:=by
 obtain ⟨D,h1,h2⟩:=h
 exact ⟨D,h1.mono hm,h2⟩
structure FindsM (w:World) (bm bl m:Nat) (la:Option Addr) (n cap:Nat) (V:Nat→LServ):Prop where
 boxM:w.heap[bm]? = some (.cells #[.map (some m)] 85 (0,0))
 boxL:w.heap[bl]? = some (.cells #[.slice la n cap] 22 (0,0))
 map:∃ N,PMap w m N (plF V n 0)
theorem FindsM.kept {w w':World} {bm bl m:Nat} {la:Option Addr} {n cap:Nat} {V:Nat→LServ} (h:FindsM w bm bl m la n cap V) (hB:Below w.heap.size w w'):FindsM w' bm bl m la n cap V :=
 ⟨(hB.block _ (lt_of_block h.boxM)).trans h.boxM,(hB.block _ (lt_of_block h.boxL)).trans h.boxL,let ⟨N,hm⟩:=h.map; ⟨N,hm.kept hB⟩⟩
def findV (bm bl:Nat):Value:=.func (.func 33) #[] #[.pointer (some ⟨bm,0,none⟩),.pointer (some ⟨bl,0,none⟩)]
theorem wf_nat {x:Int} (h0:0≤x) (h1:x≤9223372036854775807):(Lit.int .i64 x).wf=true:=by
 have h2:IntKind.i64.min = -9223372036854775808:=by decide
 have h3:IntKind.i64.max=9223372036854775807:=by decide
 simp [Lit.wf,h2,h3]
 omega
set_option maxRecDepth 100000 in
set_option maxHeartbeats 2000000 in
theorem mfinder_any (la:Option Addr) (n cap:Nat) (V:Nat→LServ) (w:World) (hS:ServsAt w la n V) (hn:n≤5) (hx:∀ i,i < n→(V i).nx≤60) (ho:∀ i,i < n→Onces (V i).nx (V i).X) :
  Calls Tryz.prog 15 #[.slice la n cap] w fun e w' => ∃ bm bl m,e = .returned (findV bm bl)∧FindsM w' bm bl m la n cap V∧Below w.heap.size w w':=by
 have hmf:∀ (fn:Fn) (first cap:Array Value) (w:World),(Instr.makeFunc fn first cap).run Tryz.prog w = .ok (.func fn first cap) w:=fun _ _ _ _=>rfl
 have hmm:=@run_makeMap Tryz.prog
 have HS:=Hid.intro hS
 have HX:=Hid.intro hx
 have HO:=Hid.intro ho
 clear hS hx ho
 go_enter Tryz.func15,Tryz.ntmps15
 go_wp2_with fail
 generalize hW:((w.alloc (Obj.cells #[Value.slice la n cap] 22)).alloc (Obj.map #[] 0)).alloc (Obj.cells #[Value.map (some (w.heap.size + 1))] 85)=W
 have hBW:Below w.heap.size w W:=by rw [← hW]; exact below3 _ _ _ _
 have hT0:W.heap[w.heap.size]? = some (.cells #[.slice la n cap] 22 (0,0)):=by
  rw [← hW]
  exact (Below.heap_alloc _ _ _ (by simp; omega)).trans ((Below.heap_alloc _ _ _ (by simp)).trans (heap_alloc_new _ _))
 have hM0:W.heap[w.heap.size + 1 + 1]? = some (.cells #[.map (some (w.heap.size + 1))] 85 (0,0)):=by
  rw [← hW]
  exact (show w.heap.size + 1 + 1=((w.alloc (Obj.cells #[Value.slice la n cap] 22)).alloc (Obj.map #[] 0)).heap.size by simp) ▸ heap_alloc_new _ _
 have hE0:PMap W (w.heap.size + 1) 0 (plF V 0 0):=by
  rw [← hW]
  have h1:=(PMap.made (w.alloc (Obj.cells #[Value.slice la n cap] 22))).kept (below1 _ (Obj.cells #[Value.map (some (w.heap.size + 1))] 85))
  rw [show (w.alloc (Obj.cells #[Value.slice la n cap] 22)).heap.size=w.heap.size + 1 by simp] at h1
  exact h1.congr fun s ty key _ _=>(plF_zero V s ty key).symm
 have HBW:=Hid.intro hBW
 have HT0:=Hid.intro hT0
 have HM0:=Hid.intro hM0
 have HE0:=Hid.intro hE0
 clear hW hBW hT0 hM0 hE0
 obtain ⟨bl,hbl⟩:∃ bl,bl=w.heap.size:=⟨_,rfl⟩
 obtain ⟨m,hm⟩:∃ m,m=w.heap.size + 1:=⟨_,rfl⟩
 obtain ⟨bm,hbm⟩:∃ bm,bm=w.heap.size + 1 + 1:=⟨_,rfl⟩
 have hmle:w.heap.size≤m:=by omega
 have hne1:bl≠m:=by omega
 have hne2:bm≠m:=by omega
 rw [← hbl] at HT0
 rw [← hbm,← hm] at HM0
 rw [← hm] at HE0
 rw [← hbm,← hm,← hbl]
 clear hbl hm hbm
 have hbl0:W.cell? ⟨bl,0,none⟩=some (.slice la n cap):=by simp [World.cell?,HT0.out]
 go_wp2_with fail
 clear hbl0
 go_loopw [11] (fun i wr => ∃ k:Nat,k≤n∧i = .int .i64 k∧wr.heap[bl]? = some (.cells #[.slice la n cap] 22 (0,0))∧wr.heap[bm]? = some (.cells #[.map (some m)] 85 (0,0))∧PMap wr m (60 * k) (plF V k 0)∧Below w.heap.size w wr) (fun i _=>n - (intOf i).toNat)
 case atStart=>exact ⟨0,Nat.zero_le _,rfl,HT0.out,HM0.out,HE0.out,HBW.out⟩
 case round =>
  obtain ⟨k,hk,rfl,hT,hM,hE,hw⟩:=hrel
  by_cases hlt:k < n
  ·obtain ⟨b,o,rfl,hsv⟩:=(HS.out.kept hw).2 k hlt
   have c0:=hsv.c0
   have c1:=hsv.c1
   have c2:=hsv.c2
   have hlt':(k:Int) < (n:Int):=by omega
   have hk0:(0:Int)≤(k:Int):=by omega
   have hxk:=HX.out k hlt
   generalize hX1:wr.alloc (Obj.cells #[.slice (V k).ta (V k).nt (V k).tcap,.slice (V k).ca (V k).nc (V k).ccap,.slice (V k).xa (V k).nx (V k).xcap] 81)=X1
   have hB1:Below wr.heap.size wr X1:=by rw [← hX1]; exact below1 _ _
   have d2:X1.cell? ⟨wr.heap.size,2,none⟩=some (.slice (V k).xa (V k).nx (V k).xcap):=by rw [← hX1,World.cell?_alloc_at _ _ _ _ rfl]; rfl
   have HT1:=Hid.intro ((hB1.block _ (lt_of_block hT)).trans hT)
   have HM1:=Hid.intro ((hB1.block _ (lt_of_block hM)).trans hM)
   have HE1:=Hid.intro (hE.kept hB1)
   have HW1:Hid (Below w.heap.size w X1):=hw.trans (hB1.mono hw.size)
   clear hT hM hE hw hB1 hsv
   go_wp2_with fail
   clear hX1 c0 c1 c2 d2
   obtain ⟨xa,hxa⟩:∃ xa,xa=(V k).xa:=⟨_,rfl⟩
   have HXA:=Hid.intro hxa
   rw [← hxa]
   clear hxa
   generalize wr.heap.size=bs at *
   go_loopw [19] (fun i wq => ∃ j:Nat,j≤(V k).nx∧i = .int .i64 j∧wq.heap[bl]? = some (.cells #[.slice (some ⟨b,o,none⟩) n cap] 22 (0,0))∧wq.heap[bm]? = some (.cells #[.map (some m)] 85 (0,0))∧PMap wq m (60 * k + j) (plF V k j)∧Below w.heap.size w wq) (fun i _=>(V k).nx - (intOf i).toNat)
   case atStart=>exact ⟨0,Nat.zero_le _,rfl,HT1.out,HM1.out,HE1.out,HW1.out⟩
   case round =>
    obtain ⟨j,hj,rfl,hT,hM,hE,hw⟩:=hrel
    by_cases hjt:j < (V k).nx
    ·obtain ⟨b',o',-,hsv⟩:=(HS.out.kept hw).2 k hlt
     have hTh:=hsv.ok.things
     rw [← HXA.out] at hTh
     clear hsv
     obtain ⟨b2,o2,rfl,c0,c1,c2,-,hs0,hs1,-⟩:=hTh.2 j hjt
     have hjt':(j:Int) < ((V k).nx:Int):=by omega
     have hj0:(0:Int)≤(j:Int):=by omega
     generalize hX2:wr.alloc (Obj.cells #[.string ((V k).X j).type,.string ((V k).X j).key,.slice ((V k).X j).va ((V k).X j).nv ((V k).X j).vcap] 88)=X2
     have hB2:Below wr.heap.size wr X2:=by rw [← hX2]; exact below1 _ _
     have e0:X2.cell? ⟨wr.heap.size,0,none⟩=some (.string ((V k).X j).type):=by rw [← hX2,World.cell?_alloc_at _ _ _ _ rfl]; rfl
     have e1:X2.cell? ⟨wr.heap.size,1,none⟩=some (.string ((V k).X j).key):=by rw [← hX2,World.cell?_alloc_at _ _ _ _ rfl]; rfl
     have HT2:=Hid.intro ((hB2.block _ (lt_of_block hT)).trans hT)
     have HM2:=Hid.intro ((hB2.block _ (lt_of_block hM)).trans hM)
     have hm0:X2.cell? ⟨bm,0,none⟩=some (.map (some m)):=by simp [World.cell?,HM2.out]
     have HW2:Hid (Below w.heap.size w X2):=hw.trans (hB2.mono hw.size)
     obtain ⟨w3,hst,hM3,hT3⟩:=(hE.kept hB2).store (by unfold maxLen; omega) (wf_nat (x:=(k:Int)) (by omega) (by omega)) hs0 hs1 (x:=(j:Int)) (wf_nat (by omega) (by omega))
     have HM3:=Hid.intro (hM3.congr fun s ty key _ _=>plF_step (once_none (HO.out k hlt) hjt) s ty key)
     have hg3:=hT3.grown
     have HT4:=Hid.intro ((hg3.block _ (lt_of_block HT2.out) (fun e=>hne1 (by cases e; rfl))).trans HT2.out)
     have HM4:=Hid.intro ((hg3.block _ (lt_of_block HM2.out) (fun e=>hne2 (by cases e; rfl))).trans HM2.out)
     have hB3:Below w.heap.size X2 w3:=⟨hg3.os,hg3.tape,hg3.output,hg3.size,fun q hq=>hg3.block q (by have:=HW2.out.size; omega) (fun e=>by cases e; omega)⟩
     have HW3:Hid (Below w.heap.size w w3):=HW2.out.trans hB3
     clear hT hM hE hw hTh hB2 hM3 hT3 hg3 hB3
     go_wp2_with fail
     clear hX2
     go_roundw
     case rel=>exact ⟨j + 1,by omega,by go_num,HT4.out,HM4.out,HM3.out,HW3.out⟩
     case measure=>simp [intOf]; omega
    ·have hjn:j=(V k).nx:=by omega
     have HF:Hid (PMap wr m (60 * (k + 1)) (plF V (k + 1) 0)):=by
      rw [hjn] at hE
      exact (hE.congr fun s ty key _ _=>plF_next V k s ty key).more (by omega)
     have HT5:=Hid.intro hT
     have HM5:=Hid.intro hM
     have HW5:=Hid.intro hw
     clear hT hM hE hw
     go_wp2_with fail
     go_roundw
     case rel=>exact ⟨k + 1,by omega,by go_num,HT5.out,HM5.out,HF.out,HW5.out⟩
     case measure=>simp [intOf]; omega
  ·have hkn:k=n:=by omega
   have HF:Hid (FindsM wr bm bl m la n cap V∧Below w.heap.size w wr):=by
    rw [hkn] at hE
    exact ⟨⟨hM,hT,_,hE⟩,hw⟩
   clear hT hM hE hw
   go_wp2_with fail
   go_ret
   exact ⟨bm,bl,m,rfl,HF.out⟩
def valsV (s:LServ) (ty key:ByteArray):Value:=if hasT s ty key=true then .slice (thingT s ty key).va (thingT s ty key).nv (thingT s ty key).vcap else .slice none 0 0
set_option maxRecDepth 100000 in
set_option maxHeartbeats 1000000 in
theorem mfinder1_any (bm bl m:Nat) (la:Option Addr) (n cap:Nat) (V:Nat→LServ) (s:Nat) (ty fld key:ByteArray) (w:World) (hS:ServsAt w la n V) (hs:s < n) (ht:Small ty) (hk:Small key) (h:FindsM w bm bl m la n cap V) :
  Calls Tryz.prog 33 #[.agg #[.int .i64 (s:Int),.string ty,.string fld],.string key,.pointer (some ⟨bm,0,none⟩),.pointer (some ⟨bl,0,none⟩)] w fun e w'=>e = .returned (.tuple #[valsV (V s) ty key,.bool (hasT (V s) ty key)])∧Below w.heap.size w w':=by
 obtain ⟨N,hmap⟩:=h.map
 have hn:=hS.1
 have hn':n≤9223372036854775807:=hn
 have hlk:=(hmap.kept (below1 w (Obj.cells #[.int .i64 (s:Int),.string ty,.string fld] 92))).look_ok (wf_nat (x:=(s:Int)) (by omega) (by omega)) ht hk
 have hp:plF V n 0 (s:Int) ty key=firstT (V s).X ty (V s).nx key:=by unfold plF; rw [if_pos (by omega),Int.toNat_natCast]
 rw [hp] at hlk
 have hm0:w.cell? ⟨bm,0,none⟩=some (.map (some m)):=by simp [World.cell?,h.boxM]
 have hl0:w.cell? ⟨bl,0,none⟩=some (.slice la n cap):=by simp [World.cell?,h.boxL]
 have hbm:=lt_of_block h.boxM
 have hbl:=lt_of_block h.boxL
 obtain ⟨b,o,hla,hsv⟩:=hS.2 s hs
 have c2:=hsv.c2
 have hcb:b < w.heap.size:=block_lt_of_cell c2
 rw [hla] at hl0
 have hs':(s:Int) < (n:Int):=by omega
 have hs0:(0:Int)≤(s:Int):=by omega
 unfold valsV hasT thingT
 unfold firstT at hlk
 have hX:=hsv.ok.things
 clear h hmap hp hS
 rcases idx_cases (V s).nx (sameThing (V s).X ty key) with ⟨hi,-⟩ | ⟨k,hkn,hi,-⟩
 ·rw [hi] at hlk ⊢
  simp only [show ((-1:Int) < 0)=True by simp,if_true,Option.getD_none,Option.isSome_none] at hlk
  rw [show decide ((0:Int)≤-1)=false by decide,if_neg (by decide)]
  clear hi hX hsv
  go_enter Tryz.func33,Tryz.ntmps33
  go_wp2_with fail
  exact bodyPost_ret (v:=.tuple #[.slice none 0 0,.bool false]) (by simp [results,Tryz.results33,go_sem]) rfl ⟨rfl,below1 _ _⟩
 ·rw [hi] at hlk ⊢
  rw [if_neg (by omega)] at hlk
  simp only [Option.getD_some,Option.isSome_some] at hlk
  rw [show decide ((0:Int)≤(k:Int))=true by simp,if_pos rfl,Int.toNat_natCast]
  obtain ⟨b2,o2,hxa,d0,d1,d2,-⟩:=hX.2 k hkn
  rw [hxa] at c2
  have hdb:b2 < w.heap.size:=block_lt_of_cell d0
  have hk1:(k:Int) < ((V s).nx:Int):=by omega
  have hk0:(0:Int)≤(k:Int):=by omega
  clear hi hX hsv hxa
  go_enter Tryz.func33,Tryz.ntmps33
  go_wp2_with fail
  exact bodyPost_ret (v:=.tuple #[.slice ((V s).X k).va ((V s).X k).nv ((V s).X k).vcap,.bool true]) (by simp [results,Tryz.results33,go_sem]) rfl ⟨rfl,below1 _ _⟩
end Go.Proofs.YtjjggefmmeminabGreat
