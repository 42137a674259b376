import Derived.Test.YtjjggefmmeminacGreatGrNewReg
import Derived.Test.YtjjggefmmeminacGreatJGk
import Derived.Test.YtjjggefmmeminacGreatQyCheck
import Derived.Deep.Strs
import Derived.Deep.CutRange
namespace Go.Proofs.YtjjggefmmeminacGreat
open Go.RowKit Go.Sort Go.PlainAid
theorem Tryz.info127:(Tryz.prog.info? 127).map (fun i=>(i.zero,i.size,i.bytes))=some (some (.agg #[.string ⟨#[]⟩,.slice none 0 0,.string ⟨#[]⟩,.int .i64 0,.string ⟨#[]⟩,.int .i64 0,.string ⟨#[]⟩,.string ⟨#[]⟩,.slice none 0 0,.map none,.map none]),11,160):=by kernel_rfl
def SubsIn (w:World) (d:Nat) (ps:List (Pick (d + 1))) (pv:Nat→Value):Prop := ∀ i,i < ps.length→∃ A C,pv i = .slice A (subs (pickN ps i)).length C∧(subs (pickN ps i)).length≤C∧PicksAt w d A (subs (pickN ps i))
theorem picks_fun {w:World} {d:Nat} {a:Option Addr} {ps:List (Pick (d + 1))} (h:PicksAt w (d + 1) a ps):∃ pv:Nat→Value,SubsIn w d ps pv∧∀ i,i < ps.length→∃ b o A C,a=some ⟨b,o,none⟩∧pv i = .slice A (subs (pickN ps i)).length C∧w.cell? ⟨b,o + i * 3,none⟩=some (.string (nick (pickN ps i)))∧w.cell? ⟨b,o + i * 3 + 1,none⟩=some (.string (pfield (pickN ps i)))∧w.cell? ⟨b,o + i * 3 + 2,none⟩=some (.slice A (subs (pickN ps i)).length C):=by
 have hex:∀ i,i < ps.length→∃ u:Value,(∃ A C,u = .slice A (subs (pickN ps i)).length C∧(subs (pickN ps i)).length≤C∧PicksAt w d A (subs (pickN ps i)))∧∃ b o A C,a=some ⟨b,o,none⟩∧u = .slice A (subs (pickN ps i)).length C∧w.cell? ⟨b,o + i * 3,none⟩=some (.string (nick (pickN ps i)))∧w.cell? ⟨b,o + i * 3 + 1,none⟩=some (.string (pfield (pickN ps i)))∧w.cell? ⟨b,o + i * 3 + 2,none⟩=some (.slice A (subs (pickN ps i)).length C):=fun i hi=>by
  obtain ⟨b,o,A,C,e,c0,c1,c2,hc,-,-,hp⟩:=h.2 i hi
  exact ⟨.slice A (subs (pickN ps i)).length C,⟨A,C,rfl,hc,hp⟩,b,o,A,C,e,rfl,c0,c1,c2⟩
 obtain ⟨pv,hpv⟩:=Go.Deep.choose_lt (α:=Value) (n:=ps.length) (p:=fun i u=>(∃ A C,u = .slice A (subs (pickN ps i)).length C∧(subs (pickN ps i)).length≤C∧PicksAt w d A (subs (pickN ps i)))∧∃ b o A C,a=some ⟨b,o,none⟩∧u = .slice A (subs (pickN ps i)).length C∧w.cell? ⟨b,o + i * 3,none⟩=some (.string (nick (pickN ps i)))∧w.cell? ⟨b,o + i * 3 + 1,none⟩=some (.string (pfield (pickN ps i)))∧w.cell? ⟨b,o + i * 3 + 2,none⟩=some (.slice A (subs (pickN ps i)).length C)) hex
 exact ⟨pv,fun i hi=>(hpv i hi).1,fun i hi=>(hpv i hi).2⟩
theorem chCells_app {d:Nat} (p:PPart) (ps:List (Pick (d + 1))) (pv:Nat→Value) (nx:Nat→LV) (k:Nat):(List.range ((k + 1) * 11)).map (chCell p ps pv nx)=(List.range (k * 11)).map (chCell p ps pv nx) ++ [.string (called (pickN ps k)),pv k,.string (fOf p (pfield (pickN ps k))).name,.int .i64 (fOf p (pfield (pickN ps k))).kind,.string (fOf p (pfield (pickN ps k))).type,.int .i64 (oOf p (pfield (pickN ps k))).svc,.string (oOf p (pfield (pickN ps k))).type,.string (oOf p (pfield (pickN ps k))).field,.slice (nx k).a (nx k).n (nx k).c,.map (nx k).h,.map (nx k).v]:=by
 rw [Nat.add_mul,List.range_add,List.map_append,List.map_map]
 congr 1
 show (List.range 11).map _=_
 have hd:∀ q,q < 11→(k * 11 + q) / 11=k∧(k * 11 + q) % 11=q:=fun q hq=>by omega
 have e:∀ q,q < 11→(chCell p ps pv nx ∘ fun x=>k * 11 + x) q=if q=0 then .string (called (pickN ps k)) else if q=1 then pv k else if q=2 then .string (fOf p (pfield (pickN ps k))).name else if q=3 then .int .i64 (fOf p (pfield (pickN ps k))).kind else if q=4 then .string (fOf p (pfield (pickN ps k))).type
 else if q=5 then .int .i64 (oOf p (pfield (pickN ps k))).svc else if q=6 then .string (oOf p (pfield (pickN ps k))).type else if q=7 then .string (oOf p (pfield (pickN ps k))).field else if q=8 then .slice (nx k).a (nx k).n (nx k).c else if q=9 then .map (nx k).h else .map (nx k).v:=fun q hq=>by
  show chCell p ps pv nx (k * 11 + q)=_
  unfold chCell
  rw [(hd q hq).1,(hd q hq).2]
 rw [show List.range 11 = [0,1,2,3,4,5,6,7,8,9,10] from by decide]
 simp only [List.map_cons,List.map_nil]
 rw [e 0 (by omega),e 1 (by omega),e 2 (by omega),e 3 (by omega),e 4 (by omega),e 5 (by omega),e 6 (by omega),e 7 (by omega),e 8 (by omega),e 9 (by omega),e 10 (by omega)]
 rfl
def NewP (X:World) (bl:Nat) (nm:ByteArray) (cs:Array Value) (R2:World→Value→World→Prop) (j:Nat) (x:Nat→Value) (w1:World):Prop:=(1≤j→x 0 = .string nm)∧(j≤1→Below X.heap.size X w1)∧(j=2→∃ Y,Below X.heap.size X Y∧w1=Y.alloc (.cells cs 127)∧x 1 = .slice (some ⟨Y.heap.size,0,none⟩) 1 1)∧(j=3→∃ Y,Below X.heap.size X Y∧R2 (Y.alloc (.cells cs 127)) (x 2) w1) ∧
 (j=4→∃ Y w2,Below X.heap.size X Y∧R2 (Y.alloc (.cells cs 127)) (x 2) w2∧w1=w2.setCell ⟨bl,0,none⟩ (x 2))
set_option maxRecDepth 100000 in
set_option maxHeartbeats 4000000 in
theorem newList_any (d N:Nat) (p:PPart) (fa oa ha:Option Addr) (fc oc hn hc:Nat) (a:Option Addr) (acap:Nat) (ps:List (Pick (d + 1))) (w:World)
  (hFs:FieldsAt w fa p.fs.length (fsN p)) (hOs:OwnersAt w oa p.os.length (osN p)) (hos:p.os.length=p.fs.length) (hf:AskF p ps) (pv:Nat→Value) (hpc:∀ i,i < ps.length→∃ b o A C,a=some ⟨b,o,none⟩∧pv i = .slice A (subs (pickN ps i)).length C∧w.cell? ⟨b,o + i * 3,none⟩=some (.string (nick (pickN ps i)))∧w.cell? ⟨b,o + i * 3 + 1,none⟩=some (.string (pfield (pickN ps i)))∧w.cell? ⟨b,o + i * 3 + 2,none⟩=some (.slice A (subs (pickN ps i)).length C)) (hps:ps.length≤60) :
  Calls Tryz.prog 43 #[.agg #[.string p.name,.slice fa p.fs.length fc,.slice oa p.os.length oc,.slice ha hn hc],.slice a ps.length acap] w fun e w' => ∃ ca cc bh bv,e = .returned (.agg #[.slice ca ps.length cc,.map (some bh),.map (some bv)])∧Row w' w.heap.size 127 11 (.slice ca ps.length cc) ps.length (chCell p ps pv (fun _=>LV.zero)) ∧
   CMap w' bh 0 (fun _=>0)∧LMap N w' bv 0 (fun _ _ _ _=>none)∧w.heap.size≤bh∧w.heap.size≤bv∧bh≠bv∧Below w.heap.size w w':=by
 obtain ⟨iC,ci,cz0,cz1,cz2⟩:=info_parts' Tryz.info127
 have hmm:=@run_makeMap Tryz.prog
 generalize hW:((((w.alloc (Obj.cells #[.string p.name,.slice fa p.fs.length fc,.slice oa p.os.length oc,.slice ha hn hc] 114)).alloc (Obj.cells #[.slice none 0 0,.map none,.map none] 88)).alloc (Obj.map #[] 0)).alloc (Obj.map #[] 0)).alloc (Obj.cells #[.slice none 0 0,.map (some (w.heap.size + 1 + 1)),.map (some (w.heap.size + 1 + 1 + 1))] 88)=W
 have hBW:Below w.heap.size w W:=by rw [← hW]; exact (below3 _ _ _ _).trans ((below2 _ _ _).mono (by simp; omega))
 have hWs:W.heap.size=w.heap.size + 1 + 1 + 1 + 1 + 1:=by rw [← hW]; simp
 have hbt:W.heap[w.heap.size]? = some (.cells #[.string p.name,.slice fa p.fs.length fc,.slice oa p.os.length oc,.slice ha hn hc] 114 (0,0)):=by
  rw [← hW]
  exact ((below2 _ _ _).block _ (by simp; omega)).trans ((below2 _ _ _).block _ (by simp) |>.trans (heap_alloc_new _ _))
 have hres:W.heap[w.heap.size + 1]? = some (.cells #[.slice none 0 0,.map none,.map none] 88 (0,0)):=by
  rw [← hW]
  refine ((below3 _ _ _ _).block _ (by simp)).trans ?_
  have h:=heap_alloc_new (w.alloc (Obj.cells #[.string p.name,.slice fa p.fs.length fc,.slice oa p.os.length oc,.slice ha hn hc] 114)) (Obj.cells #[.slice none 0 0,.map none,.map none] 88)
  rw [show (w.alloc (Obj.cells #[.string p.name,.slice fa p.fs.length fc,.slice oa p.os.length oc,.slice ha hn hc] 114)).heap.size=w.heap.size + 1 by simp] at h
  exact h
 have hbl:W.heap[w.heap.size + 1 + 1 + 1 + 1]? = some (.cells #[.slice none 0 0,.map (some (w.heap.size + 1 + 1)),.map (some (w.heap.size + 1 + 1 + 1))] 88 (0,0)):=by
  rw [← hW]
  have h:=heap_alloc_new ((((w.alloc (Obj.cells #[.string p.name,.slice fa p.fs.length fc,.slice oa p.os.length oc,.slice ha hn hc] 114)).alloc (Obj.cells #[.slice none 0 0,.map none,.map none] 88)).alloc (Obj.map #[] 0)).alloc (Obj.map #[] 0)) (Obj.cells #[.slice none 0 0,.map (some (w.heap.size + 1 + 1)),.map (some (w.heap.size + 1 + 1 + 1))] 88)
  rw [show ((((w.alloc (Obj.cells #[.string p.name,.slice fa p.fs.length fc,.slice oa p.os.length oc,.slice ha hn hc] 114)).alloc (Obj.cells #[.slice none 0 0,.map none,.map none] 88)).alloc (Obj.map #[] 0)).alloc (Obj.map #[] 0)).heap.size=w.heap.size + 1 + 1 + 1 + 1 by simp] at h
  exact h
 have hCM:CMap W (w.heap.size + 1 + 1) 0 (fun _=>0):=by
  have h:=((CMap.made ((w.alloc (Obj.cells #[.string p.name,.slice fa p.fs.length fc,.slice oa p.os.length oc,.slice ha hn hc] 114)).alloc (Obj.cells #[.slice none 0 0,.map none,.map none] 88))).kept (below2 _ (Obj.map #[] 0) (Obj.cells #[.slice none 0 0,.map (some (w.heap.size + 1 + 1)),.map (some (w.heap.size + 1 + 1 + 1))] 88)))
  rw [hW,show ((w.alloc (Obj.cells #[.string p.name,.slice fa p.fs.length fc,.slice oa p.os.length oc,.slice ha hn hc] 114)).alloc (Obj.cells #[.slice none 0 0,.map none,.map none] 88)).heap.size=w.heap.size + 1 + 1 by simp] at h
  exact h
 have hLM:LMap N W (w.heap.size + 1 + 1 + 1) 0 (fun _ _ _ _=>none):=by
  have h:=((LMap.made N (((w.alloc (Obj.cells #[.string p.name,.slice fa p.fs.length fc,.slice oa p.os.length oc,.slice ha hn hc] 114)).alloc (Obj.cells #[.slice none 0 0,.map none,.map none] 88)).alloc (Obj.map #[] 0))).kept (below1 _ (Obj.cells #[.slice none 0 0,.map (some (w.heap.size + 1 + 1)),.map (some (w.heap.size + 1 + 1 + 1))] 88)))
  rw [hW,show (((w.alloc (Obj.cells #[.string p.name,.slice fa p.fs.length fc,.slice oa p.os.length oc,.slice ha hn hc] 114)).alloc (Obj.cells #[.slice none 0 0,.map none,.map none] 88)).alloc (Obj.map #[] 0)).heap.size=w.heap.size + 1 + 1 + 1 by simp] at h
  exact h
 have HFs:=Hid.intro hFs
 have HOs:=Hid.intro hOs
 have HOS:=Hid.intro hos
 clear hos
 have HPC:=Hid.intro hpc
 have HBW:=Hid.intro hBW
 have HAF:=Hid.intro hf
 have hpl:(ps.length:Int)≤60:=by omega
 clear hFs hOs hpc hBW hf
 go_enter Tryz.func43,Tryz.ntmps43
 go_wp2_with fail
 clear hW
 obtain ⟨bl,ebl⟩:∃ bl,bl=w.heap.size + 1 + 1 + 1 + 1:=⟨_,rfl⟩
 obtain ⟨bv,ebv⟩:∃ bv,bv=w.heap.size + 1 + 1 + 1:=⟨_,rfl⟩
 obtain ⟨bh,ebh⟩:∃ bh,bh=w.heap.size + 1 + 1:=⟨_,rfl⟩
 obtain ⟨br,ebr⟩:∃ br,br=w.heap.size + 1:=⟨_,rfl⟩
 obtain ⟨bt,ebt⟩:∃ bt,bt=w.heap.size:=⟨_,rfl⟩
 have HNE:Hid (bt < bl∧br < bl∧bh < bl∧bv < bl∧bl < W.heap.size∧w.heap.size≤bh∧w.heap.size≤bv∧bh≠bv∧w.heap.size≤bl∧w.heap.size≤br):=by unfold Hid; omega
 rw [← ebl,← ebv,← ebh] at hbl
 rw [← ebh] at hCM
 rw [← ebv] at hLM
 rw [← ebr] at hres
 rw [← ebt] at hbt
 rw [← ebl,← ebr,← ebt]
 have HBL:=Hid.intro hbl
 have HCM:=Hid.intro hCM
 have HLM:=Hid.intro hLM
 have HRS:=Hid.intro hres
 have HBT:=Hid.intro hbt
 clear ebl ebv ebh ebr ebt hbl hCM hLM hres hbt hWs
 go_loopw [14] (fun i wr => ∃ k:Nat,k≤ps.length∧i = .int .i64 k∧KeepX (fun q=>q=bl) W wr∧∃ ca cc,wr.heap[bl]? = some (.cells #[.slice ca k cc,.map (some bh),.map (some bv)] 88 (0,0))∧Row wr W.heap.size 127 11 (.slice ca k cc) k (chCell p ps pv (fun _=>LV.zero))) (fun i _=>ps.length - (intOf i).toNat)
 case atStart=>exact ⟨0,Nat.zero_le _,rfl,KeepX.refl _ _,none,0,HBL.out,rfl,.inl ⟨rfl,rfl⟩⟩
 case round =>
  obtain ⟨k,hk,rfl,hw,ca,cc,hbx,hrow⟩:=hrel
  by_cases hlt:k < ps.length
  ·have hlt':(k:Int) < (ps.length:Int):=by omega
   have hk0:(0:Int)≤(k:Int):=by omega
   obtain ⟨pb,po,sa,sc,rfl,hpvk,c0,c1,c2⟩:=HPC.out k hlt
   have hold:∀ q,q < w.heap.size→wr.heap[q]? = w.heap[q]?:=fun q hq=>by
    rw [hw.block q ⟨Nat.lt_of_lt_of_le hq HBW.out.size,fun e=>by have e:q=bl:=e; have:=HNE.out; omega⟩,HBW.out.block q hq]
   have c0:=(World.cell?_of_block (hold _ (block_lt_of_cell c0))).trans c0
   have c1:=(World.cell?_of_block (hold _ (block_lt_of_cell c1))).trans c1
   have c2:=(World.cell?_of_block (hold _ (block_lt_of_cell c2))).trans c2
   have hfk : ¬ fieldIdx p.fs.length (fsN p) (pfield (pickN ps k)) < 0:=HAF.out _ (by rw [pickN_get hlt]; exact List.getElem_mem hlt)
   obtain ⟨i,hi⟩:∃ i:Nat,fieldIdx p.fs.length (fsN p) (pfield (pickN ps k))=(i:Int):=⟨(fieldIdx p.fs.length (fsN p) (pfield (pickN ps k))).toNat,by omega⟩
   have hil:i < p.fs.length:=by
    have h1:=(idx_in (p:=fun j=>eqs (fsN p j).name (pfield (pickN ps k))) hfk).1
    have h2:idx p.fs.length (fun j=>eqs (fsN p j).name (pfield (pickN ps k)))=(i:Int):=hi
    rw [h2] at h1; simpa using h1
   have ef:fOf p (pfield (pickN ps k))=fsN p i:=by unfold fOf; rw [hi,Int.toNat_natCast]
   have eo:oOf p (pfield (pickN ps k))=osN p i:=by unfold oOf; rw [hi,Int.toNat_natCast]
   obtain ⟨fb,fo,rfl,f0,f1,f2,-⟩:=HFs.out.2 i hil
   have hio:i < p.os.length:=by rw [HOS.out]; exact hil
   obtain ⟨ob,oo,rfl,g0,g1,g2,-⟩:=HOs.out.2 i hio
   obtain ⟨t1,t2⟩:W.cell? ⟨bt,1,none⟩=some (.slice (some ⟨fb,fo,none⟩) p.fs.length fc)∧W.cell? ⟨bt,2,none⟩=some (.slice (some ⟨ob,oo,none⟩) p.os.length oc):=by simp [World.cell?,HBT.out]
   have hnb:bt≠bl:=by have:=HNE.out; omega
   have t1:=hw.cell t1 hnb
   have t2:=hw.cell t2 hnb
   have f0:=(World.cell?_of_block (hold _ (block_lt_of_cell f0))).trans f0
   have f1:=(World.cell?_of_block (hold _ (block_lt_of_cell f1))).trans f1
   have f2:=(World.cell?_of_block (hold _ (block_lt_of_cell f2))).trans f2
   have g0:=(World.cell?_of_block (hold _ (block_lt_of_cell g0))).trans g0
   have g1:=(World.cell?_of_block (hold _ (block_lt_of_cell g1))).trans g1
   have g2:=(World.cell?_of_block (hold _ (block_lt_of_cell g2))).trans g2
   have l0:wr.cell? ⟨bl,0,none⟩=some (.slice ca k cc):=by simp [World.cell?,hbx]
   obtain ⟨X,hX⟩:∃ X,X=wr.alloc (Obj.cells #[.string (nick (pickN ps k)),.string (pfield (pickN ps k)),.slice sa (subs (pickN ps k)).length sc] 76):=⟨_,rfl⟩
   have hBX:Below wr.heap.size wr X:=by rw [hX]; exact below1 _ _
   have p0:X.cell? ⟨wr.heap.size,0,none⟩=some (.string (nick (pickN ps k))):=by rw [hX,World.cell?_alloc_at _ _ _ _ rfl]; rfl
   have p1:X.cell? ⟨wr.heap.size,1,none⟩=some (.string (pfield (pickN ps k))):=by rw [hX,World.cell?_alloc_at _ _ _ _ rfl]; rfl
   have p2:X.cell? ⟨wr.heap.size,2,none⟩=some (.slice sa (subs (pickN ps k)).length sc):=by rw [hX,World.cell?_alloc_at _ _ _ _ rfl]; rfl
   have hFX:FieldsAt X (some ⟨fb,fo,none⟩) p.fs.length (fsN p):=⟨HFs.out.1,fun j hj=>by
    obtain ⟨b9,o9,e9,d0,d1,d2,d3⟩:=HFs.out.2 j hj
    exact ⟨b9,o9,e9,keptCell hBX ((World.cell?_of_block (hold _ (block_lt_of_cell d0))).trans d0),keptCell hBX ((World.cell?_of_block (hold _ (block_lt_of_cell d1))).trans d1),keptCell hBX ((World.cell?_of_block (hold _ (block_lt_of_cell d2))).trans d2),d3⟩⟩
   have hcl:=field_any (some ⟨fb,fo,none⟩) p.fs.length fc (fsN p) (pfield (pickN ps k)) X hFX
   rw [hi] at hcl
   have hi1:(i:Int) < (p.fs.length:Int):=by omega
   have hi2:(i:Int) < (p.os.length:Int):=by omega
   have hi0:(0:Int)≤(i:Int):=by omega
   have htl:bt < wr.heap.size:=block_lt_of_cell t1
   have HKS:Hid (called (pickN ps k)=calledS (nick (pickN ps k)) (pfield (pickN ps k))):=Hid.intro rfl
   have HCC:=Hid.intro (chCells_app p ps pv (fun _=>LV.zero) k)
   rw [ef,eo,hpvk] at HCC
   rw [hX] at hcl
   have hsw:W.heap.size≤wr.heap.size:=hw.size
   have HR:=Hid.intro hrow
   have HBX:=Hid.intro hbx
   have HW:=Hid.intro hw
   have HHO:=Hid.intro hold
   clear hFX hfk hrow hbx hw hold hi ef eo
   generalize called (pickN ps k)=nm at *
   go_wp2_with fail
   refine hcl.mono ?_
   clear hcl
   rw [← hX]
   rintro e w1 ⟨rfl,hw1⟩
   have hB1:Below wr.heap.size wr w1:=hBX.trans (hw1.mono hBX.size)
   obtain ⟨cs,hcs⟩:∃ cs:Array Value,cs = #[.string nm,.slice sa (subs (pickN ps k)).length sc,.string (fsN p i).name,.int .i64 (fsN p i).kind,.string (fsN p i).type,.int .i64 (osN p i).svc,.string (osN p i).type,.string (osN p i).field,.slice none 0 0,.map none,.map none]:=⟨_,rfl⟩
   have l0:=keptCell hB1 l0
   have q0:=keptCell hw1 p0
   have q1:=keptCell hw1 p1
   have q2:=keptCell hw1 p2
   have t1:=keptCell hB1 t1
   have t2:=keptCell hB1 t2
   have f0:=keptCell hB1 f0
   have f1:=keptCell hB1 f1
   have f2:=keptCell hB1 f2
   have g0:=keptCell hB1 g0
   have g1:=keptCell hB1 g1
   have g2:=keptCell hB1 g2
   have hrow1:=HR.out.kept hB1
   have hrb:∀ q,(Value.slice ca k cc).ownBlock=some q→W.heap.size≤q∧q < wr.heap.size:=fun q hq=>HR.out.lt hq
   have hbpl:wr.heap.size < w1.heap.size:=by
    have:=block_lt_of_cell q0
    exact this
   have hbl1:bl < w1.heap.size:=block_lt_of_cell l0
   have hSt:∀ w9:World,(∀ q,q < w1.heap.size→(Value.slice ca k cc).ownBlock≠some q→w9.heap[q]? = w1.heap[q]?)→w9.cell? ⟨bl,0,none⟩=some (.slice ca k cc)∧w9.cell? ⟨wr.heap.size,0,none⟩=some (.string (nick (pickN ps k)))∧w9.cell? ⟨wr.heap.size,1,none⟩=some (.string (pfield (pickN ps k)))∧w9.cell? ⟨wr.heap.size,2,none⟩=some (.slice sa (subs (pickN ps k)).length sc)∧w9.cell? ⟨bt,1,none⟩=some (.slice (some ⟨fb,fo,none⟩) p.fs.length fc)∧w9.cell? ⟨bt,2,none⟩=some (.slice (some ⟨ob,oo,none⟩) p.os.length oc) ∧
     w9.cell? ⟨fb,fo + i * 3,none⟩=some (.string (fsN p i).name)∧w9.cell? ⟨fb,fo + i * 3 + 1,none⟩=some (.int .i64 (fsN p i).kind)∧w9.cell? ⟨fb,fo + i * 3 + 2,none⟩=some (.string (fsN p i).type)∧w9.cell? ⟨ob,oo + i * 3,none⟩=some (.int .i64 (osN p i).svc)∧w9.cell? ⟨ob,oo + i * 3 + 1,none⟩=some (.string (osN p i).type)∧w9.cell? ⟨ob,oo + i * 3 + 2,none⟩=some (.string (osN p i).field):=fun w9 h9=>by
    have hfb:fb < w.heap.size:=by
     obtain ⟨b9,o9,e9,d0,-⟩:=HFs.out.2 i hil
     cases e9; exact block_lt_of_cell d0
    have hob:ob < w.heap.size:=by
     obtain ⟨b9,o9,e9,d0,-⟩:=HOs.out.2 i hio
     cases e9; exact block_lt_of_cell d0
    have hwW:=HBW.out.size
    have hne:=HNE.out
    have k1:=h9 bl hbl1 (fun e=>by have:=hrb bl e; omega)
    have k2:=h9 wr.heap.size hbpl (fun e=>by have:=hrb _ e; omega)
    have k3:=h9 bt (by omega) (fun e=>by have:=hrb bt e; omega)
    have k4:=h9 fb (by omega) (fun e=>by have:=hrb fb e; omega)
    have k5:=h9 ob (by omega) (fun e=>by have:=hrb ob e; omega)
    exact ⟨(World.cell?_of_block k1).trans l0,(World.cell?_of_block k2).trans q0,(World.cell?_of_block k2).trans q1,(World.cell?_of_block k2).trans q2,(World.cell?_of_block k3).trans t1,(World.cell?_of_block k3).trans t2,(World.cell?_of_block k4).trans f0,(World.cell?_of_block k4).trans f1,(World.cell?_of_block k4).trans f2,(World.cell?_of_block k5).trans g0,(World.cell?_of_block k5).trans g1,(World.cell?_of_block k5).trans g2⟩
   go_upto_region 6 with fail
   refine newMore (NewP w1 bl nm cs (fun Z x w2=>w2.ownsRow W.heap.size 127 11 x (k + 1) ((List.range (k * 11)).map (chCell p ps pv (fun _=>LV.zero)) ++ cs.toList)∧Z.grownBy w2 (Value.slice ca k cc).ownBlock)) (bl:=bl) (bp:=wr.heap.size) (bt:=bt) (fb:=fb) (fo:=fo) (fn:=p.fs.length) (fc:=fc) (ob:=ob) (oo:=oo) (on:=p.os.length) (oc:=oc) (cn:=k) (cc:=cc) (sn:=(subs (pickN ps k)).length) (sc:=sc) (i:=i) (ca:=ca) (sa:=sa) (nk:=nick (pickN ps k)) (pf:=pfield (pickN ps k)) (nm:=nm) (fl:=fsN p i) (o:=osN p i) (by kernel_rfl) rfl rfl rfl rfl hi0 hi1 hi2 ?_ ?_ ?_ ?_ ?_ ?_ ?_ ?_
   ·rintro j x w9 hj ⟨h1,-⟩
    exact h1 hj
   ·intro x
    exact ⟨fun h=>absurd h (by omega),fun _=>(Below.refl _ _).drew,fun h=>absurd h (by omega),fun h=>absurd h (by omega),fun h=>absurd h (by omega)⟩
   ·rintro j x w9 hj ⟨-,h1,h2,h3,-⟩
    refine hSt w9 fun q hq hqn=>?_
    rcases Nat.lt_or_ge 1 j with hj1 | hj1
    ·rcases Nat.lt_or_ge 2 j with hj2 | hj2
     ·obtain ⟨Y,hY,-,hgr⟩:=h3 (by omega)
      rw [hgr.block q (by have:=hY.size; simp; omega) (Ne.symm hqn),(below1 Y _).block q (Nat.lt_of_lt_of_le hq hY.size),hY.block q hq]
     ·obtain ⟨Y,hY,rfl,-⟩:=h2 (by omega)
      rw [(below1 Y _).block q (Nat.lt_of_lt_of_le hq hY.size),hY.block q hq]
    ·exact (h1 hj1).block q hq
   ·rintro x w9 ⟨-,h1,-⟩
    refine (qcalled_any (nick (pickN ps k)) (pfield (pickN ps k)) sa (subs (pickN ps k)).length sc w9).mono ?_
    rintro e w8 ⟨rfl,hw8⟩
    have h1:=h1 (by omega)
    exact ⟨_,rfl,fun x' e1 e2=>⟨fun _=>by rw [e1,← HKS.out],fun _=>h1.trans (hw8.mono h1.size),fun h=>absurd h (by omega),fun h=>absurd h (by omega),fun h=>absurd h (by omega)⟩⟩
   ·rintro x w9 ⟨h0,h1,-⟩ x' e1 e2
    rw [← hcs]
    exact ⟨fun _=>(e2 0 (by decide)).trans (h0 (by omega)),fun h=>absurd h (by omega),fun _=>⟨w9,h1 (by omega),rfl,e1⟩,fun h=>absurd h (by omega),fun h=>absurd h (by omega)⟩
   ·rintro x w9 ⟨h0,-,h2,-⟩ ty
    obtain ⟨Y,hY,rfl,hx⟩:=h2 rfl
    obtain ⟨v',w8,hr,hown,hgr,hvb⟩:=run_append_any (P:=Tryz.prog) (Y.alloc (.cells cs 127)) W.heap.size 84 ty 127 iC _ 11 160 Tryz.underlying84 ci cz0 cz1 cz2 rfl (by decide) (.slice ca k cc) k _ ((hrow1.kept hY).kept (below1 Y _)) (some ⟨Y.heap.size,0,none⟩) 1 1 cs.toList (by rw [hcs]; rfl) (alloc_news Y cs _) (fun h=>by cases h) (by rw [hcs]; intro u hu; simp at hu; rcases hu with rfl | rfl | rfl | rfl | rfl | rfl | rfl | rfl | rfl | rfl | rfl <;> rfl) (by unfold maxLen; omega) (by omega) (by have:=hY.size; have:=hB1.size; simp; omega)
    rw [hx]
    exact ⟨v',w8,hr,fun x' e1 e2=>⟨fun _=>(e2 0 (by decide)).trans (h0 (by omega)),fun h=>absurd h (by omega),fun h=>absurd h (by omega),fun _=>⟨Y,hY,by rw [e1]; exact ⟨hown,hgr⟩⟩,fun h=>absurd h (by omega)⟩⟩
   ·rintro x w9 ⟨h0,-,-,h3,-⟩
    obtain ⟨Y,hY,hown,hgr⟩:=h3 rfl
    obtain ⟨va,vc,e⟩:=owned_slice hown
    have hgb:w9.heap[bl]? = some (.cells #[.slice ca k cc,.map (some bh),.map (some bv)] 88 (0,0)):=by
     rw [hgr.block bl (by have:=hY.size; simp; omega) (fun e=>by have:=hrb bl e.symm; have:=HNE.out; omega),(below1 Y _).block bl (Nat.lt_of_lt_of_le hbl1 hY.size),hY.block bl hbl1,hB1.block bl (lt_of_block HBX.out)]
     exact HBX.out
    exact ⟨va,_,vc,.slice ca k cc,e,by simp [World.cell?,hgb],by simp [World.frozen?,hgb],fun _=>h0 (by omega),fun h=>absurd h (by omega),fun h=>absurd h (by omega),fun h=>absurd h (by omega),fun _=>⟨Y,w9,hY,⟨hown,hgr⟩,rfl⟩⟩
   intro s w9 hp
   obtain ⟨-,-,-,-,hp⟩:=hp
   obtain ⟨Y,w8,hY,⟨hown,hgr⟩,hw9⟩:=hp rfl
   replace hown:w8.ownsRow W.heap.size 127 11 (s 43) (k + 1) ((List.range (k * 11)).map (chCell p ps pv (fun _=>LV.zero)) ++ cs.toList):=hown
   replace hw9:w9=w8.setCell ⟨bl,0,none⟩ (s 43):=hw9
   obtain ⟨va,vc,hv43⟩:=owned_slice hown
   have hgb:w8.heap[bl]? = some (.cells #[.slice ca k cc,.map (some bh),.map (some bv)] 88 (0,0)):=by
    rw [hgr.block bl (by have:=hY.size; simp; omega) (fun e=>by have:=hrb bl e.symm; have:=HNE.out; omega),(below1 Y _).block bl (Nat.lt_of_lt_of_le hbl1 hY.size),hY.block bl hbl1,hB1.block bl (lt_of_block HBX.out)]
    exact HBX.out
   have HEND:Hid (KeepX (fun q=>q=bl) W w9∧∃ ca cc,w9.heap[bl]? = some (.cells #[.slice ca (k + 1) cc,.map (some bh),.map (some bv)] 88 (0,0))∧Row w9 W.heap.size 127 11 (.slice ca (k + 1) cc) (k + 1) (chCell p ps pv (fun _=>LV.zero))):=by
    rw [hv43] at hown hw9
    have hr8:Row w8 W.heap.size 127 11 (.slice va (k + 1) vc) (k + 1) (chCell p ps pv (fun _=>LV.zero)):=by
     unfold Row
     rw [HCC.out]
     rw [hcs] at hown
     exact hown
    refine ⟨?_,va,vc,?_,?_⟩
    ·have h1:KeepX (fun q=>q=bl) W w8:=((HW.out.kept hB1).kept (hY.trans ((below1 Y _).mono hY.size))).grown hgr (fun q hq=>(hrb q hq).1)
     rw [hw9]
     exact ⟨h1.os,h1.tape,h1.output,by simpa using h1.size,fun q hq=>(Below.heap_setCell _ _ _ _ hq.2).trans (h1.block q hq)⟩
    ·rw [hw9]
     exact heap_setCell_same _ bl 0 _ 88 _ hgb
    ·rw [hw9]
     exact hr8.set_other (p:=⟨bl,0,none⟩) (fun e=>by
      have:=(hr8.lt e).1
      have:=HNE.out
      simp at *
      omega) _
   clear hown hgr hY hgb hv43 hw9 hSt hrb hrow1 hB1 l0 q0 q1 q2 t1 t2 f0 f1 f2 g0 g1 g2 hw1 p0 p1 p2 c0 c1 c2 hX hBX
   simp only [putAll,Act.put,List.setIfInBounds_toArray,List.set_cons_succ,List.set_cons_zero]
   generalize s 24=t24
   generalize s 25=t25
   generalize s 26=t26
   generalize s 27=t27
   generalize s 28=t28
   generalize s 29=t29
   generalize s 30=t30
   generalize s 31=t31
   generalize s 32=t32
   generalize s 33=t33
   generalize s 34=t34
   generalize s 35=t35
   generalize s 36=t36
   generalize s 37=t37
   generalize s 38=t38
   generalize s 39=t39
   generalize s 40=t40
   generalize s 41=t41
   generalize s 42=t42
   generalize s 43=t43
   generalize s 44=t44
   go_wp2_with fail
   go_roundw
   case rel=>exact ⟨k + 1,by omega,by go_num,HEND.out.1,HEND.out.2⟩
   case measure=>simp [intOf]; omega
  ·have hkn:k=ps.length:=by omega
   subst hkn
   obtain ⟨d0,d1,d2⟩:wr.cell? ⟨bl,0,none⟩=some (.slice ca ps.length cc)∧wr.cell? ⟨bl,1,none⟩=some (.map (some bh))∧wr.cell? ⟨bl,2,none⟩=some (.map (some bv)):=by simp [World.cell?,hbx]
   have hne:=HNE.out
   have hrs:=(hw.block br ⟨lt_of_block HRS.out,fun e=>by have e:br=bl:=e; omega⟩).trans HRS.out
   obtain ⟨x0,x1,x2⟩:wr.cell? ⟨br,0,none⟩=some (.slice none 0 0)∧wr.cell? ⟨br,1,none⟩=some (.map none)∧wr.cell? ⟨br,2,none⟩=some (.map none):=by simp [World.cell?,hrs]
   obtain ⟨y0,y1,y2⟩:wr.frozen? ⟨br,0,none⟩=false∧wr.frozen? ⟨br,1,none⟩=false∧wr.frozen? ⟨br,2,none⟩=false:=by simp [World.frozen?,hrs]
   have HEND:Hid (∀ u0 u1 u2:Value,Row (((wr.setCell ⟨br,0,none⟩ u0).setCell ⟨br,1,none⟩ u1).setCell ⟨br,2,none⟩ u2) w.heap.size 127 11 (.slice ca ps.length cc) ps.length (chCell p ps pv (fun _=>LV.zero))∧CMap (((wr.setCell ⟨br,0,none⟩ u0).setCell ⟨br,1,none⟩ u1).setCell ⟨br,2,none⟩ u2) bh 0 (fun _=>0)∧LMap N (((wr.setCell ⟨br,0,none⟩ u0).setCell ⟨br,1,none⟩ u1).setCell ⟨br,2,none⟩ u2) bv 0 (fun _ _ _ _=>none)∧Below w.heap.size w (((wr.setCell ⟨br,0,none⟩ u0).setCell ⟨br,1,none⟩ u1).setCell ⟨br,2,none⟩ u2)):=Hid.intro fun u0 u1 u2=>by
    have hset:∀ q,q≠br→(((wr.setCell ⟨br,0,none⟩ u0).setCell ⟨br,1,none⟩ u1).setCell ⟨br,2,none⟩ u2).heap[q]? = wr.heap[q]?:=fun q hq=>by
     rw [Below.heap_setCell _ _ _ _ (by exact hq),Below.heap_setCell _ _ _ _ (by exact hq),Below.heap_setCell _ _ _ _ (by exact hq)]
    have hBW:=HBW.out
    refine ⟨?_,?_,?_,?_⟩
    ·have h1:Row wr w.heap.size 127 11 (.slice ca ps.length cc) ps.length (chCell p ps pv (fun _=>LV.zero)):=⟨hrow.1,hrow.2.imp id fun ⟨g,cap,cur,e,hg,r⟩=>⟨g,cap,cur,e,Nat.le_trans hBW.size hg,r⟩⟩
     exact h1.at fun q hq=>hset q fun e=>by
      have:=(hrow.lt hq).1
      omega
    ·exact HCM.out.at ((hset bh (by
      intro e
      have h9:=HRS.out
      obtain ⟨es,c9,hm⟩:=HCM.out.obj
      rw [e,h9] at hm; cases hm)).trans (hw.block bh ⟨HCM.out.lt,fun e=>by have e:bh=bl:=e; omega⟩))
    ·obtain ⟨es,c9,hm⟩:=HLM.out.obj
     refine ⟨fun _ _ _ _=>none,?_,fun _ _ _ _ _ _ _ _=>rfl⟩
     obtain ⟨g9,hg9,hg8⟩:=HLM.out
     have hz:VMap W bv 0 (fun _ _ _ _=>none):=by
      obtain ⟨D,e1,e2⟩:=hg9
      refine ⟨D,e1,fun s9 ty9 f9 k9 a1 a2 a3 a4=>?_⟩
      have h8:g9 s9 ty9 f9 k9=none:=hg8 s9 ty9 f9 k9 a1 a2 a3 a4
      have:=e2 s9 ty9 f9 k9 a1 a2 a3 a4
      rw [h8] at this
      exact this
     exact hz.at ((hset bv (by
      intro e
      have h9:=HRS.out
      rw [e,h9] at hm; cases hm)).trans (hw.block bv ⟨lt_of_block hm,fun e=>by have e:bv=bl:=e; omega⟩))
    ·refine ⟨hw.os.trans hBW.os,hw.tape.trans hBW.tape,hw.output.trans hBW.output,?_,fun q hq=>?_⟩
     ·have:=hw.size
      have:=hBW.size
      simp
      omega
     ·rw [hset q (by omega),hw.block q ⟨by have:=hBW.size; omega,fun e=>by have e:q=bl:=e; omega⟩,hBW.block q hq]
   have hnrl:br≠bl:=by omega
   clear hrow hbx hrs hw
   go_wp2_with fail
   obtain ⟨e1,e2,e3,e4⟩:=HEND.out (.slice ca ps.length cc) (.map (some bh)) (.map (some bv))
   exact bodyPost_ret (v:=.agg #[.slice ca ps.length cc,.map (some bh),.map (some bv)]) (by simp [results,Tryz.results43,go_sem,x0,x1,x2]) rfl ⟨ca,cc,bh,bv,rfl,e1,e2,e3,hne.2.2.2.2.2.1,hne.2.2.2.2.2.2.1,hne.2.2.2.2.2.2.2.1,e4⟩
end Go.Proofs.YtjjggefmmeminacGreat
