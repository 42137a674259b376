import Derived.Test.YtjjggefmmeminabGreatJSv
import Derived.Test.YtjjggefmmeminabGreatJGq
import Derived.DeepKeys4
import Derived.ChangeKeys
set_option maxRecDepth 100000
namespace Go.Proofs.YtjjggefmmeminabGreat
open Go.RowKit Go.Sort Go.PlainAid
theorem Tryz.gLaidOut:laidOutB Tryz.prog=true:=by kernel_rfl
theorem Tryz.gRowP:(167:TypeId)<Tryz.prog.types.size:=of_decide_eq_true (by kernel_rfl)
theorem Tryz.gWideP:(match Tryz.prog.underlying 167 with|some (.array _ _)|some (.struct _)=>true|_=>false)=true:=by kernel_rfl
theorem Tryz.gKeyedP:Maps.Keyed Tryz.prog 167:=Maps.Keyed.of_law (deep_law_laid Tryz.gLaidOut (m:=3) (by omega) Tryz.gRowP (by kernel_rfl) Tryz.gWideP)
theorem Tryz.gKeyTypeP:Tryz.prog.keyType 167=true:=by kernel_rfl
theorem Tryz.gCellsP:Tryz.prog.cellsOf 167=4:=by kernel_rfl
theorem Tryz.gCellsO:Tryz.prog.cellsOf 92=3:=by kernel_rfl
theorem Tryz.gCells1:Tryz.prog.cellsOf 3=1:=by kernel_rfl
theorem Tryz.gCells2:Tryz.prog.cellsOf 9=1:=by kernel_rfl
def Fz:Value:=.agg #[.string ⟨#[]⟩,.string ⟨#[]⟩,.slice none 0 0]
theorem Tryz.zeroV(w:World):(zeroValue 120).run Tryz.prog w= .ok Fz w:=by kernel_rfl
def Vi (s:Int) (ty f key:ByteArray):Value:=.agg #[.int .i64 s,.string ty,.string f,.string key]
def UI (s:Int) (ty f key:ByteArray):List Lit:=[.int .i64 s,.string ty.data.toList,.string f.data.toList,.string key.data.toList]
def Sr (s:Int) (ty f key:ByteArray):Lit:=.string (keyBytes (UI s ty f key))
theorem Mq{s:Int}{ty f key:ByteArray}(hs:(Lit.int .i64 s).wf=true)(d:BY ty)(hf:BY f)(hk:BY key)(m:Nat):Tryz.prog.keyLits (m+3) 167 [.int .i64 s,.string ty,.string f,.string key]=some (UI s ty f key):=by
 have a:ty.size<=maxLen:=d;have b:f.size<=maxLen:=hf;have c:key.size<=maxLen:=hk;simp[Program.keyLits,Tryz.underlying167,Tryz.underlying92,Tryz.underlying3,Tryz.underlying9,Tryz.gCellsP,Tryz.gCellsO,Tryz.gCells1,Tryz.gCells2,hs,a,b,c,UI];rw[Af]
 ·rfl
 ·intro i hi
  have:i=0\/i=1\/i=2:=by omega
  rcases this with rfl|rfl|rfl<;>simp
theorem PC{s:Int}{ty f key:ByteArray}(hs:(Lit.int .i64 s).wf=true)(a:BY ty)(hf:BY f)(hk:BY key):keyOf Tryz.prog 167 (Vi s ty f key)=some (Sr s ty f key):=by
 have b:2<=Tryz.prog.types.size:=of_decide_eq_true (by kernel_rfl);obtain⟨m,c⟩:∃m,Tryz.prog.types.size+1=m+3:=⟨Tryz.prog.types.size - 2,by omega⟩;have d:=Mq hs a hf hk m;unfold keyOf Vi Sr;rw[c];simp[Tryz.underlying167,Tryz.gKeyTypeP,Value.formed,Tryz.gCellsP,Value.cells,d]
theorem I9{s u:ByteArray}(h:s.data=u.data):s=u:=by
 cases s;cases u;cases h;rfl
theorem Up{s c:Int}{ty b f d key a:ByteArray}(hs:(Lit.int .i64 s).wf=true)(l:BY ty)(hf:BY f)(hk:BY key)(g:(Lit.int .i64 c).wf=true)(i:BY b)(j:BY d)(k:BY a)(h:Sr s ty f key=Sr c b d a):s=c/\ty=b/\f=d/\key=a:=by
 have e:UI s ty f key=UI c b d a:=keyLits_inj (Mq hs l hf hk 0) (Mq g i j k 0) (by simpa[Sr] using h);simp[UI]at e;exact⟨e.1,I9 e.2.1,I9 e.2.2.1,I9 e.2.2.2⟩
def KO (v:Value):Option (DataW Value × List MemPlace):=some (.held v,[])
def F7 (w:World) (b n:Nat) (g:Int->ByteArray->ByteArray->ByteArray->Option Value):Prop :=
 ∃D:DataW Value,w.ownsMap Tryz.prog 167 KO b n D/\∀s ty f key,(Lit.int .i64 s).wf=true->BY ty->BY f->BY key->Maps.has D (Sr s ty f key)=(g s ty f key).isSome/\D.atKey (Sr s ty f key) (.held Fz)= .held ((g s ty f key).getD Fz)
theorem F7.made(w:World):F7 (w.alloc (.map #[] 0)) w.heap.size 0 (λ_ _ _ _=>none) :=
 ⟨.map [],World.ownsMap_made w _ _ _,λ_ _ _ _ _ _ _ _=>⟨rfl,rfl⟩⟩
theorem F7.lt{w:World}{b n:Nat}{g:Int->ByteArray->ByteArray->ByteArray->Option Value}(h:F7 w b n g):b<w.heap.size:=let ⟨_,h,_⟩:=h;h.lt
theorem F7.obj{w:World}{b n:Nat}{g:Int->ByteArray->ByteArray->ByteArray->Option Value}(h:F7 w b n g):∃a c,w.heap[b]? = some (.map a c):=let ⟨_,⟨a,c,h,_⟩,_⟩:=h;⟨a,c,h⟩
theorem En.obj{w:World}{b n:Nat}{g:ByteArray->Option Int}(h:En w b n g):∃a c,w.heap[b]? = some (.map a c):=let ⟨_,⟨a,c,h,_⟩,_⟩:=h;⟨a,c,h⟩
theorem F7.at{w w':World}{b n:Nat}{g:Int->ByteArray->ByteArray->ByteArray->Option Value}(h:F7 w b n g)(hb:w'.heap[b]? = w.heap[b]?):F7 w' b n g:=by
 obtain⟨D,⟨c,a,h1,h2⟩,h3⟩:=h;exact⟨D,⟨c,a,hb.trans h1,h2⟩,h3⟩
theorem F7.mono{w:World}{b n m:Nat}{g:Int->ByteArray->ByteArray->ByteArray->Option Value}(h:F7 w b n g)(a:n<=m):F7 w b m g:=by
 obtain⟨D,h1,h2⟩:=h;exact⟨D,h1.mono a,h2⟩
theorem En.mono{w:World}{b n m:Nat}{g:ByteArray->Option Int}(h:En w b n g)(a:n<=m):En w b m g:=by
 obtain⟨D,h1,h2⟩:=h;exact⟨D,h1.mono a,h2⟩
theorem NB{u v:Value}{ps:List MemPlace}(h:KO u=some (.held v,ps)):u=v:=by
 unfold KO at h;cases h;rfl
theorem F7.look{w:World}{b n:Nat}{g:Int->ByteArray->ByteArray->ByteArray->Option Value}(h:F7 w b n g){s:Int}{ty f key:ByteArray}(hs:(Lit.int .i64 s).wf=true)(a:BY ty)(hf:BY f)(hk:BY key):(Instr.lookup 61 (.map (some b)) (.agg #[.int .i64 s,.string ty,.string f,.string key]) false).run Tryz.prog w= .ok ((g s ty f key).getD Fz) w:=by
 obtain⟨D,h1,h2⟩:=h;obtain⟨v,ps,c,hc⟩:=h1.lookup Tryz.gKeyedP Tryz.underlying61 (Tryz.zeroV w) (zd:=.held Fz) (zp:=[]) rfl (PC hs a hf hk);rw[(h2 s ty f key hs a hf hk).2]at hc;rw[NB hc]at c;exact c
theorem F7.look_ok{w:World}{b n:Nat}{g:Int->ByteArray->ByteArray->ByteArray->Option Value}(h:F7 w b n g){s:Int}{ty f key:ByteArray}(hs:(Lit.int .i64 s).wf=true)(a:BY ty)(hf:BY f)(hk:BY key):(Instr.lookup 61 (.map (some b)) (.agg #[.int .i64 s,.string ty,.string f,.string key]) true).run Tryz.prog w= .ok (.tuple #[(g s ty f key).getD Fz,.bool (g s ty f key).isSome]) w:=by
 obtain⟨D,h1,h2⟩:=h;obtain⟨v,ps,c,hc⟩:=h1.look_ok Tryz.gKeyedP Tryz.underlying61 (Tryz.zeroV w) (zd:=.held Fz) (zp:=[]) rfl (PC hs a hf hk);rw[(h2 s ty f key hs a hf hk).2]at hc;rw[NB hc,(h2 s ty f key hs a hf hk).1]at c;exact c
theorem F7.store{w:World}{b n:Nat}{g:Int->ByteArray->ByteArray->ByteArray->Option Value}(h:F7 w b n g)(hn:n<maxLen){s:Int}{ty f key:ByteArray}(hs:(Lit.int .i64 s).wf=true)(q:BY ty)(hf:BY f)(hk:BY key)(x:Value) :
  ∃w',(Instr.mapUpdate 61 (.map (some b)) (.agg #[.int .i64 s,.string ty,.string f,.string key]) x).run Tryz.prog w= .ok () w'/\F7 w' b (n+1) (λi c j a=>if i=s/\c=ty/\j=f/\a=key then some x else g i c j a)/\w.mapTurned w' b:=by
 obtain⟨D,h1,h2⟩:=h;have r:=h1.isMap;obtain⟨w',v,h3,h4⟩:=h1.store Tryz.gKeyedP Tryz.underlying61 hn (PC hs q hf hk) (val:=x) (d:=.held x) (ps:=[]) rfl;refine⟨w',v,⟨_,h3,λi c j a k l m o=>?_⟩,h4⟩
 by_cases e:i=s/\c=ty/\j=f/\a=key
 ·obtain⟨rfl,rfl,rfl,rfl⟩:=e
  have u:WideAt.IsKeyLit (Sr i c j a):=by simp[WideAt.IsKeyLit,Sr]
  simp only[and_self,BK];rw[Maps.has_put_same r u,Maps.atKey_put_same r u];exact⟨rfl,rfl⟩
 ·have p:Sr i c j a≠Sr s ty f key:=λh=>e (Up k l m o hs q hf hk h)
  simp only[e,Bd];rw[Maps.has_put_other p,Maps.atKey_put_other p];exact h2 i c j a k l m o
def Qa (x:LVal) (A:Option Addr) (C:Nat):Value:=.agg #[.string x.field,.string x.text,.slice A x.nk C]
structure ValIs (N:Nat) (w:World) (u:Value) (x:LVal):Prop where
 ex:∃A C,u=Qa x A C/\B9 w N 9 1 (.slice A x.nk C) x.nk (B3 x.K)
 nk:x.nk<=maxLen
 small:∀j,j<x.nk->BY (x.K j)
theorem ValIs.at{N:Nat}{w w':World}{u:Value}{x:LVal}(h:ValIs N w u x)(hk:∀k c,N<=k->k<w.heap.size->w.heap[k]? = some (.cells c 9 (0,0))->w'.heap[k]? = w.heap[k]?):ValIs N w' u x:=by
 obtain⟨⟨A,C,e,b⟩,h2,h3⟩:=h;refine⟨⟨A,C,e,b.at λk a=>?_⟩,h2,h3⟩;obtain⟨c,ho⟩:=b.obj a;exact hk k c (b.lt a).1 (b.lt a).2 ho
theorem ValIs.keys{N:Nat}{w:World}{u:Value}{x:LVal}(h:ValIs N w u x):∃A C,u=Qa x A C/\x.nk<=C/\CF w A x.nk x.K:=by
 obtain⟨⟨A,C,e,b⟩,h2,h3⟩:=h;obtain⟨a,c,d,hc,hk⟩:=b.keysAt h2 h3;cases d;exact⟨A,C,e,hc,hk⟩
def DC (N:Nat) (w:World) (b n:Nat) (v:Int->ByteArray->ByteArray->ByteArray->Option LVal):Prop :=
 ∃g,F7 w b n g/\∀s ty f key,(Lit.int .i64 s).wf=true->BY ty->BY f->BY key->match v s ty f key with
  |none=>g s ty f key=none
  |some x => ∃u,g s ty f key=some u/\ValIs N w u x
theorem DC.lt{N:Nat}{w:World}{b n:Nat}{v:Int->ByteArray->ByteArray->ByteArray->Option LVal}(h:DC N w b n v):b<w.heap.size:=let ⟨_,h,_⟩:=h;h.lt
theorem DC.obj{N:Nat}{w:World}{b n:Nat}{v:Int->ByteArray->ByteArray->ByteArray->Option LVal}(h:DC N w b n v):∃a c,w.heap[b]? = some (.map a c):=let ⟨_,h,_⟩:=h;h.obj
theorem DC.mono{N:Nat}{w:World}{b n m:Nat}{v:Int->ByteArray->ByteArray->ByteArray->Option LVal}(h:DC N w b n v)(a:n<=m):DC N w b m v:=let ⟨g,h1,h2⟩:=h;⟨g,h1.mono a,h2⟩
theorem DC.at{N:Nat}{w w':World}{b n:Nat}{v:Int->ByteArray->ByteArray->ByteArray->Option LVal}(h:DC N w b n v)(hb:w'.heap[b]? = w.heap[b]?)(hk:∀k c,N<=k->k<w.heap.size->w.heap[k]? = some (.cells c 9 (0,0))->w'.heap[k]? = w.heap[k]?):DC N w' b n v:=by
 obtain⟨g,h1,h2⟩:=h;refine⟨g,h1.at hb,λs ty f key hs d hf a=>?_⟩;have:=h2 s ty f key hs d hf a
 cases e:v s ty f key with
 |none=>rw[e]at this;exact this
 |some x =>
  rw[e]at this;obtain⟨u,e1,e2⟩:=this;exact⟨u,e1,e2.at hk⟩
theorem DC.kept{N:Nat}{w w':World}{b n:Nat}{v:Int->ByteArray->ByteArray->ByteArray->Option LVal}(h:DC N w b n v)(hB:Below w.heap.size w w'):DC N w' b n v:=h.at (hB.block b h.lt) λk _ _ hk _=>hB.block k hk
theorem DC.made(N:Nat)(w:World):DC N (w.alloc (.map #[] 0)) w.heap.size 0 (λ_ _ _ _=>none):=⟨_,F7.made w,λ_ _ _ _ _ _ _ _=>rfl⟩
theorem EH{w w':World}{b:Nat}(h:w.mapTurned w' b){k:Nat}(hk:k<w.heap.size)(a:k≠b):w'.heap[k]? = w.heap[k]?:=h.grown.block k hk (λe=>a (by cases e;rfl))
theorem DC.store{N:Nat}{w:World}{b n:Nat}{v:Int->ByteArray->ByteArray->ByteArray->Option LVal}(h:DC N w b n v)(hn:n<maxLen){s:Int}{ty f key:ByteArray}(hs:(Lit.int .i64 s).wf=true)(B:BY ty)(hf:BY f)(hk:BY key){u:Value}{x:LVal}(C:ValIs N w u x) :
  ∃w',(Instr.mapUpdate 61 (.map (some b)) (.agg #[.int .i64 s,.string ty,.string f,.string key]) u).run Tryz.prog w= .ok () w'/\DC N w' b (n+1) (Oy v s ty f key x)/\w.mapTurned w' b:=by
 obtain⟨g,h1,h2⟩:=h;obtain⟨F,c,ho⟩:=h1.obj;obtain⟨w',D,h3,h4⟩:=h1.store hn hs B hf hk u;have i:∀k z,N<=k->k<w.heap.size->w.heap[k]? = some (.cells z 9 (0,0))->w'.heap[k]? = w.heap[k]?:=λk z _ hk j=>EH h4 hk λe=>by subst e;rw[ho]at j;cases j
 refine⟨w',D,⟨_,h3,λl d m a o p q r=>?_⟩,h4⟩;unfold Oy
 by_cases e:l=s/\d=ty/\m=f/\a=key
 ·rw[Af e]
  exact⟨u,Af e,C.at i⟩
 ·rw[Ae e]
  have:=h2 l d m a o p q r
  cases A:v l d m a with
  |none=>rw[A]at this;exact(Ae e).trans this
  |some y =>
   rw[A]at this;obtain⟨E,e1,e2⟩:=this;exact⟨E,(Ae e).trans e1,e2.at i⟩
theorem DC.look_ok{N:Nat}{w:World}{b n:Nat}{v:Int->ByteArray->ByteArray->ByteArray->Option LVal}(h:DC N w b n v){s:Int}{ty f key:ByteArray}(hs:(Lit.int .i64 s).wf=true)(a:BY ty)(hf:BY f)(hk:BY key) :
  (v s ty f key=none/\(Instr.lookup 61 (.map (some b)) (.agg #[.int .i64 s,.string ty,.string f,.string key]) true).run Tryz.prog w= .ok (.tuple #[Fz,.bool false]) w/\(Instr.lookup 61 (.map (some b)) (.agg #[.int .i64 s,.string ty,.string f,.string key]) false).run Tryz.prog w= .ok Fz w) \/
  ∃x A C,v s ty f key=some x/\x.nk<=C/\CF w A x.nk x.K/\(Instr.lookup 61 (.map (some b)) (.agg #[.int .i64 s,.string ty,.string f,.string key]) true).run Tryz.prog w= .ok (.tuple #[Qa x A C,.bool true]) w/\(Instr.lookup 61 (.map (some b)) (.agg #[.int .i64 s,.string ty,.string f,.string key]) false).run Tryz.prog w= .ok (Qa x A C) w:=by
 obtain⟨g,h1,h2⟩:=h;have l1:=h1.look_ok hs a hf hk;have l2:=h1.look hs a hf hk;have:=h2 s ty f key hs a hf hk
 cases e:v s ty f key with
 |none =>
  rw[e]at this;have this:g s ty f key=none:=this;rw[this]at l1 l2;exact .inl ⟨rfl,l1,l2⟩
 |some x =>
  rw[e]at this;obtain⟨u,e1,e2⟩:=this;obtain⟨A,C,rfl,c,d⟩:=e2.keys;rw[e1]at l1 l2;exact .inr ⟨x,A,C,rfl,c,d,l1,l2⟩
theorem QR{x:Int}(h0:0<=x)(h1:x<=9223372036854775807):(Lit.int .i64 x).wf=true:=by
 have h2:IntKind.i64.min = -9223372036854775808:=by decide
 have h3:IntKind.i64.max=9223372036854775807:=by decide
 simp[Lit.wf,h2,h3];omega
def Dt (w:World) (b n:Nat) (c:ByteArray->Nat):Prop := ∃g,En w b n g/\∀s,BY s->(g s).getD 0=(c s:Int)
theorem Dt.lt{w:World}{b n:Nat}{c:ByteArray->Nat}(h:Dt w b n c):b<w.heap.size:=let ⟨_,h,_⟩:=h;h.lt
theorem Dt.obj{w:World}{b n:Nat}{c:ByteArray->Nat}(h:Dt w b n c):∃a k,w.heap[b]? = some (.map a k):=let ⟨_,h,_⟩:=h;h.obj
theorem Dt.at{w w':World}{b n:Nat}{c:ByteArray->Nat}(h:Dt w b n c)(hb:w'.heap[b]? = w.heap[b]?):Dt w' b n c:=let ⟨g,h1,h2⟩:=h;⟨g,h1.at hb,h2⟩
theorem Dt.kept{w w':World}{b n:Nat}{c:ByteArray->Nat}(h:Dt w b n c)(hB:Below w.heap.size w w'):Dt w' b n c:=h.at (hB.block b h.lt)
theorem Dt.mono{w:World}{b n m:Nat}{c:ByteArray->Nat}(h:Dt w b n c)(a:n<=m):Dt w b m c:=let ⟨g,h1,h2⟩:=h;⟨g,h1.mono a,h2⟩
theorem Dt.made(w:World):Dt (w.alloc (.map #[] 0)) w.heap.size 0 (λ_=>0):=⟨_,En.made w,λ_ _=>rfl⟩
theorem Dt.look{w:World}{b n:Nat}{c:ByteArray->Nat}(h:Dt w b n c){s:ByteArray}(hs:BY s):(Instr.lookup 60 (.map (some b)) (.string s) false).run Tryz.prog w= .ok (.int .i64 (c s:Int)) w:=by
 obtain⟨g,h1,h2⟩:=h;rw[<-h2 s hs];exact h1.look hs
theorem Dt.bump{w:World}{b n:Nat}{c:ByteArray->Nat}(h:Dt w b n c)(hn:n<maxLen){s:ByteArray}(hs:BY s)(hx:c s<1000000):∃w',(Instr.mapUpdate 60 (.map (some b)) (.string s) (.int .i64 ((c s:Int)+1))).run Tryz.prog w= .ok () w'/\Dt w' b (n+1) (bump c s)/\w.mapTurned w' b:=by
 obtain⟨g,h1,h2⟩:=h;have a:(Lit.int .i64 ((c s:Int)+1)).wf=true:=QR (by omega) (by omega);obtain⟨w',d,h3,h4⟩:=h1.store hn hs a;refine⟨w',d,⟨_,h3,λu i=>?_⟩,h4⟩;unfold Go.Proofs.YtjjggefmmeminabGreat.bump;cases e:eqs u s
 ·exact h2 u i
 ·show (c s:Int)+1=_
  simp
def JC (w:World) (k:Nat):Prop := ∃a b,w.heap[k]? = some (.cells a 68 b)
structure RRow (N0:Nat) (w:World) (v:Value) (L:List PReq) (kv fv:Nat->Value):Prop where
 row:B9 w N0 68 4 v L.length (Dl L kv fv)
 keys:∀i,i<L.length->(Ej L i).keys.length<=maxLen/\B9 w N0 9 1 (kv i) (Ej L i).keys.length (B3 (CH (Ej L i).keys))/\∀j,j<(Ej L i).keys.length->BY (CH (Ej L i).keys j)
 fields:∀i,i<L.length->(Ej L i).fields.length<=maxLen/\B9 w N0 9 1 (fv i) (Ej L i).fields.length (B3 (CH (Ej L i).fields))/\∀j,j<(Ej L i).fields.length->BY (CH (Ej L i).fields j)
theorem RRow.nil(N0:Nat)(w:World)(kv fv:Nat->Value):RRow N0 w (.slice none 0 0) [] kv fv:=⟨⟨rfl,.inl ⟨rfl,rfl⟩⟩,λ_ hi=>absurd hi (Ak _),λ_ hi=>absurd hi (Ak _)⟩
theorem RRow.at{N0:Nat}{w w':World}{v:Value}{L:List PReq}{kv fv:Nat->Value}(h:RRow N0 w v L kv fv)(hv:∀k,v.ownBlock=some k->w'.heap[k]? = w.heap[k]?)(hk:∀k d,N0<=k->k<w.heap.size->w.heap[k]? = some (.cells d 9 (0,0))->w'.heap[k]? = w.heap[k]?):RRow N0 w' v L kv fv:=by
 have a:∀{n:Nat} {u:Value} {f : Nat->Value},B9 w N0 9 1 u n f->B9 w' N0 9 1 u n f:=λc=>c.at λk b=>by
  obtain⟨d,ho⟩:=c.obj b;exact hk k d (c.lt b).1 (c.lt b).2 ho
 exact⟨h.row.at hv,λi hi=>let ⟨h1,h2,h3⟩:=h.keys i hi;⟨h1,a h2,h3⟩,λi hi=>let ⟨h1,h2,h3⟩:=h.fields i hi;⟨h1,a h2,h3⟩⟩
theorem RRow.kept{N0:Nat}{w w':World}{v:Value}{L:List PReq}{kv fv:Nat->Value}(h:RRow N0 w v L kv fv)(hB:Below w.heap.size w w'):RRow N0 w' v L kv fv:=h.at (λk hk=>hB.block k (h.row.lt hk).2) λk _ _ hk _=>hB.block k hk
theorem RRow.slice{N0:Nat}{w:World}{v:Value}{L:List PReq}{kv fv:Nat->Value}(h:RRow N0 w v L kv fv):∃a cap,v= .slice a L.length cap/\L.length<=cap:=h.row.slice
theorem RRow.app{N0:Nat}{w w':World}{v g:Value}{L:List PReq}{kv fv:Nat->Value}{r:PReq}{k1 f1:Value}(h:RRow N0 w v L kv fv)(hk:r.keys.length<=maxLen/\B9 w N0 9 1 k1 r.keys.length (B3 (CH r.keys))/\∀j,j<r.keys.length->BY (CH r.keys j))(hf:r.fields.length<=maxLen/\B9 w N0 9 1 f1 r.fields.length (B3 (CH r.fields))/\∀j,j<r.fields.length->BY (CH r.fields j))(c:w'.ownsRow N0 68 4 g (L.length+1) ((List.range (L.length*4)).map (Dl L kv fv)++N7 r k1 f1))(hg:w.grownBy w' v.ownBlock) :
  RRow N0 w' g (L++[r]) (λi=>if i<L.length then kv i else k1) (λi=>if i<L.length then fv i else f1):=by
 have d:(L++[r]).length=L.length+1:=by simp
 have l:=Gr L [r] kv fv (λ_=>k1) (λ_=>f1);have e1:(List.range ([r].length*4)).map (Dl [r] (λ_=>k1) (λ_=>f1))=N7 r k1 f1:=by
  show (List.range 4).map _=_;rw[show List.range 4 = [0,1,2,3] from by decide];simp[Dl,N7,Ej]
 rw[e1]at l;have a:∀{n:Nat} {u:Value} {f : Nat->Value},B9 w N0 9 1 u n f->B9 w' N0 9 1 u n f:=λm=>m.grown hg λk hk e=>h.row.ne m (by decide) e hk;refine⟨?_,λi hi=>?_,λi hi=>?_⟩
 ·unfold B9;rw[d];exact l ▸ c
 ·rw[d]at hi
  rw[Gz]
  by_cases b:i<L.length
  ·rw[Af b,Af b]
   obtain⟨h1,h2,h3⟩:=h.keys i b;exact⟨h1,a h2,h3⟩
  ·rw[Ae b,Ae b,show i - L.length=0 by omega]
   exact⟨hk.1,a hk.2.1,hk.2.2⟩
 ·rw[d]at hi
  rw[Gz]
  by_cases b:i<L.length
  ·rw[Af b,Af b]
   obtain⟨h1,h2,h3⟩:=h.fields i b;exact⟨h1,a h2,h3⟩
  ·rw[Ae b,Ae b,show i - L.length=0 by omega]
   exact⟨hf.1,a hf.2.1,hf.2.2⟩
theorem RRow.out{N0:Nat}{w:World}{v:Value}{L:List PReq}{kv fv:Nat->Value}(h:RRow N0 w v L kv fv)(b:L.length<=maxLen):∃a cap,v= .slice a L.length cap/\L.length<=cap/\Ff w a L:=by
 rcases h.row.shape with⟨e,h0⟩|⟨g,cap,e,hg,hc,-⟩
 ·have:L = []:=AC h0
  subst this;exact⟨none,0,e,Aj _,Ff.none⟩
 ·subst e
  refine⟨_,cap,rfl,hc,b,λi hi=>?_⟩;obtain⟨c,d,s1⟩:=h.keys i hi;obtain⟨k,l,m⟩:=h.fields i hi;obtain⟨A,C,e1,l1,n⟩:=d.keysAt c s1;obtain⟨A2,C2,e2,l2,o⟩:=l.keysAt k m;have c0:=h.row.cell (j:=i*4) (by omega);have c1:=h.row.cell (j:=i*4+1) (by omega);have c2:=h.row.cell (j:=i*4+2) (by omega);have c3:=h.row.cell (j:=i*4+3) (by omega);unfold Dl at c0 c1 c2 c3;rw[Af (by omega),show i*4 / 4=i by omega]at c0;rw[Ae (by omega),Af (by omega),show (i*4+1) / 4=i by omega]at c1;rw[Ae (by omega),Ae (by omega),Af (by omega),show (i*4+2) / 4=i by omega,e1]at c2;rw[Ae (by omega),Ae (by omega),Ae (by omega),show (i*4+3) / 4=i by omega,e2]at c3;exact⟨g,0,A,C,A2,C2,rfl,by rw[AL];exact c0,by rw[AL];exact c1,by rw[AL];exact c2,by rw[AL];exact c3,l1,l2,n,o⟩
structure KeepQ (N0 bg:Nat) (w w':World):Prop where
 os:w'.os=w.os
 tape:w'.tape=w.tape
 output:w'.output=w.output
 size:w.heap.size<=w'.heap.size
 block:∀k,k<w.heap.size->k≠bg->(k<N0\/¬JC w k)->w'.heap[k]? = w.heap[k]?
theorem KeepQ.of{N0 bg:Nat}{w w':World}(h:Below w.heap.size w w'):KeepQ N0 bg w w':=⟨h.os,h.tape,h.output,h.size,λk hk _ _=>h.block k hk⟩
theorem KeepQ.trans{N0 bg:Nat}{w c d:World}(h:KeepQ N0 bg w c)(a:KeepQ N0 bg c d):KeepQ N0 bg w d :=
 ⟨a.os.trans h.os,a.tape.trans h.tape,a.output.trans h.output,Am h.size a.size,λk hk b hq=>by
  have e:=h.block k hk b hq;rw[a.block k (Ah hk h.size) b (hq.imp id λhn=>by unfold JC at hn ⊢;rw[e];exact hn),e]⟩
theorem KeepQ.below{N0 bg:Nat}{w w':World}(h:KeepQ N0 bg w w')(hb:N0<=bg)(a:N0<=w.heap.size):Below N0 w w':=⟨h.os,h.tape,h.output,h.size,λk hk=>h.block k (by omega) (by omega) (.inl hk)⟩
theorem KeepQ.cells{N0 bg:Nat}{w w':World}(h:KeepQ N0 bg w w'){k t:Nat}{a:Array Value}{b:Nat × Nat}(ho:w.heap[k]? = some (.cells a t b))(c:t≠68)(hk:k≠bg):w'.heap[k]? = w.heap[k]? :=
 h.block k (Ag ho) hk (.inr λ⟨cs',fz',e⟩=>by rw[ho]at e;cases e;exact c rfl)
theorem KeepQ.map{N0 bg:Nat}{w w':World}(h:KeepQ N0 bg w w'){k:Nat}{a:Array MapEntry}{c:Nat}(ho:w.heap[k]? = some (.map a c))(hk:k≠bg):w'.heap[k]? = w.heap[k]? :=
 h.block k (Ag ho) hk (.inr λ⟨cs',fz',e⟩=>by rw[ho]at e;cases e)
structure Later (N:Nat) (w w':World):Prop where
 size:w.heap.size<=w'.heap.size
 block:∀k,N<=k->k<w.heap.size->¬JC w k->w'.heap[k]? = w.heap[k]?
theorem Later.of{N:Nat}{w w':World}(h:Below w.heap.size w w'):Later N w w':=⟨h.size,λk _ hk _=>h.block k hk⟩
theorem Later.refl(N:Nat)(w:World):Later N w w:=⟨Aj _,λ_ _ _ _=>rfl⟩
theorem Later.trans{N:Nat}{w a b:World}(h:Later N w a)(c:Later N a b):Later N w b:=⟨Am h.size c.size,λk d hk hq=>by
  have e:=h.block k d hk hq;rw[c.block k d (Ah hk h.size) (by unfold JC at hq ⊢;rw[e];exact hq),e]⟩
theorem Later.mono{N a:Nat}{w w':World}(h:Later N w w')(b:N<=a):Later a w w':=⟨h.size,λk hk=>h.block k (by omega)⟩
theorem Later.cells{N:Nat}{w w':World}(h:Later N w w'){k t:Nat}{a:Array Value}{b:Nat × Nat}(ho:w.heap[k]? = some (.cells a t b))(c:t≠68)(hk:N<=k):w'.heap[k]? = w.heap[k]? :=
 h.block k hk (Ag ho) (λ⟨cs',fz',e⟩=>by rw[ho]at e;cases e;exact c rfl)
theorem Later.map{N:Nat}{w w':World}(h:Later N w w'){k:Nat}{a:Array MapEntry}{c:Nat}(ho:w.heap[k]? = some (.map a c))(hk:N<=k):w'.heap[k]? = w.heap[k]? :=
 h.block k hk (Ag ho) (λ⟨cs',fz',e⟩=>by rw[ho]at e;cases e)
theorem B9.later{N base e size n:Nat}{w w':World}{v:Value}{f : Nat->Value}(a:B9 w base e size v n f)(h:Later N w w')(he:e≠68)(hb:N<=base):B9 w' base e size v n f :=
 a.at λ_ hk=>let ⟨_,ho⟩:=a.obj hk;h.cells ho he (Am hb (a.lt hk).1)
theorem DC.later{N:Nat}{w w':World}{b n:Nat}{v:Int->ByteArray->ByteArray->ByteArray->Option LVal}(a:DC N w b n v)(h:Later N w w')(hb:N<=b):DC N w' b n v :=
 a.at (let ⟨_,_,ho⟩:=a.obj;h.map ho hb) λ_ _ c _ ho=>h.cells ho (by decide) c
theorem Dt.later{N:Nat}{w w':World}{b n:Nat}{c:ByteArray->Nat}(a:Dt w b n c)(h:Later N w w')(hb:N<=b):Dt w' b n c:=a.at (let ⟨_,_,ho⟩:=a.obj;h.map ho hb)
structure GateAt (N0 bg:Nat) (sv pv:Value) (w:World) (R:List PReq):Prop where
 ex:∃rv kv fv,w.heap[bg]? = some (.cells #[sv,pv,rv] 58 (0,0))/\RRow N0 w rv R kv fv
theorem GateAt.kept{N0 bg:Nat}{sv pv:Value}{w w':World}{R:List PReq}(h:GateAt N0 bg sv pv w R)(hB:Below w.heap.size w w'):GateAt N0 bg sv pv w' R:=by
 obtain⟨a,kv,fv,h1,h2⟩:=h;exact⟨a,kv,fv,(hB.block _ (Ag h1)).trans h1,h2.kept hB⟩
theorem GateAt.at{N0 bg:Nat}{sv pv:Value}{w w':World}{R:List PReq}(h:GateAt N0 bg sv pv w R)(hk:∀k a t,k<w.heap.size->w.heap[k]? = some (.cells a t (0,0))->t=58\/t=68\/t=9->w'.heap[k]? = w.heap[k]?):GateAt N0 bg sv pv w' R:=by
 obtain⟨d,kv,fv,h1,h2⟩:=h;refine⟨d,kv,fv,(hk _ _ _ (Ag h1) h1 (.inl rfl)).trans h1,h2.at (λk b=>?_) λk a _ c ho=>hk k a _ c ho (.inr (.inr rfl))⟩;obtain⟨a,ho⟩:=h2.row.obj b;exact hk k a _ (h2.row.lt b).2 ho (.inr (.inl rfl))
def Qv (N0 d:Nat) (r:Option (List (DH d))) (e:Ending) (w':World):Prop:=(r=none/\e= .returned (.tuple #[.slice none 0 0,.bool false]))\/∃L a c,r=some L/\e= .returned (.tuple #[.slice a L.length c,.bool true])/\L.length<=c/\Ev N0 d w' a c L
structure LV where
 a:Option Addr
 n:Nat
 c:Nat
 h:Option Nat
 v:Option Nat
def LV.zero:LV:=⟨none,0,0,none,none⟩
def EP (N:Nat) (w:World) (l:LV) (d:Nat) (S:List ByteArray) (f:ByteArray->Option (List (DH d))):Prop := ∀b,Later N w b->∀key,BY key->key∈S->Calls Tryz.prog 23 #[.agg #[.slice l.a l.n l.c,.map l.h,.map l.v],.string key] b λe w'=>Below b.heap.size b w'/\Qv b.heap.size d (f key) e w'
theorem EP.step{N:Nat}{w w':World}{l:LV}{d:Nat}{S:List ByteArray}{f : ByteArray->Option (List (DH d))}(h:EP N w l d S f)(a:Later N w w'):EP N w' l d S f:=λb h1=>h b (a.trans h1)
def CU {d:Nat} (p:PPart) (ps:List (Cg (d+1))) (pv:Nat->Value) (nx:Nat->LV) (j:Nat):Value :=
 if j % 11=0 then .string (B8 (BS ps (j / 11))) else if j % 11=1 then pv (j / 11) else if j % 11=2 then .string (EQ p (BT (BS ps (j / 11)))).name else if j % 11=3 then .int .i64 (EQ p (BT (BS ps (j / 11)))).kind else if j % 11=4 then .string (EQ p (BT (BS ps (j / 11)))).type
 else if j % 11=5 then .int .i64 (Dd p (BT (BS ps (j / 11)))).svc else if j % 11=6 then .string (Dd p (BT (BS ps (j / 11)))).type else if j % 11=7 then .string (Dd p (BT (BS ps (j / 11)))).field else if j % 11=8 then .slice (nx (j / 11)).a (nx (j / 11)).n (nx (j / 11)).c else if j % 11=9 then .map (nx (j / 11)).h else .map (nx (j / 11)).v
theorem J3{d:Nat}{p:PPart}{ps:List (Cg (d+1))}{pv:Nat->Value}{nx:Nat->LV}{w:World}{base g n cap:Nat}(h:B9 w base 131 11 (.slice (some ⟨g,0,none⟩) n cap) n (CU p ps pv nx)){i:Nat}(hi:i<n) :
  w.cell? ⟨g,i*11,none⟩=some (.string (B8 (BS ps i)))/\w.cell? ⟨g,i*11+1,none⟩=some (pv i)/\w.cell? ⟨g,i*11+2,none⟩=some (.string (EQ p (BT (BS ps i))).name)/\w.cell? ⟨g,i*11+3,none⟩=some (.int .i64 (EQ p (BT (BS ps i))).kind)/\w.cell? ⟨g,i*11+4,none⟩=some (.string (EQ p (BT (BS ps i))).type) /\
  w.cell? ⟨g,i*11+5,none⟩=some (.int .i64 (Dd p (BT (BS ps i))).svc)/\w.cell? ⟨g,i*11+6,none⟩=some (.string (Dd p (BT (BS ps i))).type)/\w.cell? ⟨g,i*11+7,none⟩=some (.string (Dd p (BT (BS ps i))).field)/\w.cell? ⟨g,i*11+8,none⟩=some (.slice (nx i).a (nx i).n (nx i).c)/\w.cell? ⟨g,i*11+9,none⟩=some (.map (nx i).h)/\w.cell? ⟨g,i*11+10,none⟩=some (.map (nx i).v):=by
 have b:∀q,q<11->(i*11+q) / 11=i/\(i*11+q) % 11=q:=λq hq=>by omega
 have hc:∀q,q<11->w.cell? ⟨g,i*11+q,none⟩=some (CU p ps pv nx (i*11+q)):=λq hq=>h.cell (by omega);refine⟨?_,?_,?_,?_,?_,?_,?_,?_,?_,?_,?_⟩
 ·have:=hc 0 (by omega);unfold CU at this;rw[(b 0 (by omega)).1,(b 0 (by omega)).2]at this;exact this
 ·have:=hc 1 (by omega);unfold CU at this;rw[(b 1 (by omega)).1,(b 1 (by omega)).2]at this;exact this
 ·have:=hc 2 (by omega);unfold CU at this;rw[(b 2 (by omega)).1,(b 2 (by omega)).2]at this;exact this
 ·have:=hc 3 (by omega);unfold CU at this;rw[(b 3 (by omega)).1,(b 3 (by omega)).2]at this;exact this
 ·have:=hc 4 (by omega);unfold CU at this;rw[(b 4 (by omega)).1,(b 4 (by omega)).2]at this;exact this
 ·have:=hc 5 (by omega);unfold CU at this;rw[(b 5 (by omega)).1,(b 5 (by omega)).2]at this;exact this
 ·have:=hc 6 (by omega);unfold CU at this;rw[(b 6 (by omega)).1,(b 6 (by omega)).2]at this;exact this
 ·have:=hc 7 (by omega);unfold CU at this;rw[(b 7 (by omega)).1,(b 7 (by omega)).2]at this;exact this
 ·have:=hc 8 (by omega);unfold CU at this;rw[(b 8 (by omega)).1,(b 8 (by omega)).2]at this;exact this
 ·have:=hc 9 (by omega);unfold CU at this;rw[(b 9 (by omega)).1,(b 9 (by omega)).2]at this;exact this
 ·have:=hc 10 (by omega);unfold CU at this;rw[(b 10 (by omega)).1,(b 10 (by omega)).2]at this;exact this
end Go.Proofs.YtjjggefmmeminabGreat
