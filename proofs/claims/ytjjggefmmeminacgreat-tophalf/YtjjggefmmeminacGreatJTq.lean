import Derived.Test.YtjjggefmmeminacGreatJGp
import Derived.Test.YtjjggefmmeminacGreatQpPlain
import Derived.KernelRfl
import Derived.Test.YtjjggefmmeminacGreatJMt
import Derived.Test.YtjjggefmmeminacGreatJTp
namespace Go.Proofs.YtjjggefmmeminacGreat
open Go.RowKit Go.Sort Go.PlainAid
def keyP (i:Nat):ByteArray:=⟨#[117,UInt8.ofNat (97 + i / 20),UInt8.ofNat (97 + i % 20)]⟩
def bUser:ByteArray:=⟨#[117,115,101,114]⟩
def bMan:ByteArray:=⟨#[109,97,110]⟩
def bName:ByteArray:=⟨#[110,97,109,101]⟩
def bUnder:ByteArray:=⟨#[117,110,100,101,114]⟩
def nameP (i:Nat):ByteArray:=⟨#[78,117,UInt8.ofNat (97 + i / 20),UInt8.ofNat (97 + i % 20)]⟩
structure Lie where
 a:Nat→Option Addr
 c:Nat→Nat
def pvA (z:Lie) (i:Nat):LVal:=⟨bName,nameP i,z.a (6 * i),0,z.c (6 * i),fun _=>⟨#[]⟩⟩
def pvB (z:Lie) (nk:Nat) (K:Nat→ByteArray) (i:Nat):LVal:=⟨bUnder,⟨#[]⟩,z.a (6 * i + 1),nk,z.c (6 * i + 1),K⟩
def ptA (z:Lie) (i:Nat):LThing:=⟨bUser,keyP i,z.a (6 * i + 2),1,z.c (6 * i + 2),fun _=>pvA z i⟩
def ptB (z:Lie) (nk:Nat→Nat) (K:Nat→Nat→ByteArray) (i:Nat):LThing:=⟨bMan,keyP i,z.a (6 * i + 3),1,z.c (6 * i + 3),fun _=>pvB z (nk i) (K i) i⟩
def pyA (z:Lie):LType:=⟨bUser,z.a 4,1,z.c 4,fun _=>⟨bName,1,⟨#[]⟩⟩⟩
def pyB (z:Lie):LType:=⟨bMan,z.a 5,1,z.c 5,fun _=>⟨bUnder,3,bMan⟩⟩
def pplV (z y:Lie) (nA:Nat) (X:Nat→Nat) (nB:Nat) (nk:Nat→Nat) (K:Nat→Nat→ByteArray) (s:Nat):LServ :=
 if s=0 then ⟨y.a 0,1,y.c 0,fun _=>pyA z,y.a 1,0,y.c 1,fun _=>⟨0,⟨#[]⟩,⟨#[]⟩,⟨#[]⟩⟩,y.a 2,nA,y.c 2,fun i=>ptA z (X i)⟩
 else ⟨y.a 3,1,y.c 3,fun _=>pyB z,y.a 4,1,y.c 4,fun _=>⟨1,bMan,⟨#[]⟩,bUser⟩,y.a 5,nB,y.c 5,fun i=>ptB z nk K i⟩
def chainV (z y:Lie) (n:Nat):Nat→LServ:=pplV z y n id n (fun i=>if i + 1 < n then 1 else 0) (fun i _=>keyP (i + 1))
def chainK:(d:Nat)→Nat→List (Pick d)
 | 0,_=>[]
 | _ + 1,0=>[mkPick ⟨#[]⟩ bName []]
 | d + 1,deep + 1=>[mkPick ⟨#[]⟩ bName [],mkPick ⟨#[]⟩ bUnder (chainK d deep)]
def chainH:Nat→ByteArray
 | 0=>⟨#[117,115,101,114,40,117,97,97,41,123,110,97,109,101]⟩
 | deep + 1=>chainH deep ++ ⟨#[32,117,110,100,101,114,123,110,97,109,101]⟩
def chainE:Nat→ByteArray
 | 0=>⟨#[125]⟩
 | deep + 1=>chainE deep ++ ⟨#[125]⟩
def thenAll (n:Nat) (p:Nat→Bool):Bool:=(List.range n).all p
theorem then_all {n:Nat} {p:Nat→Bool} (h:thenAll n p=true) {i:Nat} (hi:i < n):p i=true:=List.all_eq_true.1 h i (List.mem_range.2 hi)
def nthG {d:Nat} (S:List (List (Got d))) (j:Nat):List (Got d):=S.getD j []
def chainG (n:Nat):(d:Nat)→Nat→Nat→List (Got d)→Nat→Bool
 | 0,_,_,_,_=>false
 | _ + 1,0,i,g,q=>decide (g.length=1) && eqs (gText (gotN g 0)) (nameP i) && decide (q=2 * (i + 1))
 | d + 1,deep + 1,i,g,q=>decide (g.length=2) && eqs (gText (gotN g 0)) (nameP i) && (if n≤i + 1 then decide ((gSubs (gotN g 1)).length=0) && decide (q=2 * (i + 1)) else decide ((gSubs (gotN g 1)).length=1) && chainG n d deep (i + 1) (nthG (gSubs (gotN g 1)) 0) q)
def chainQ (z y:Lie) (n deep:Nat):Bool:=decide (meanE 2 (chainV z y n) 8 bUser (keyP 0) (chainK 8 deep)=0) && chainG n 8 deep 0 (meanG 2 (chainV z y n) 8 bUser (keyP 0) (chainK 8 deep)) (reqs 2 (chainV z y n) 8 bUser (keyP 0) (chainK 8 deep)).length
set_option maxRecDepth 100000 in
theorem chain_all (z y:Lie):thenAll 8 (fun deep=>thenAll 30 (fun n=>chainQ z y (n + 1) deep))=true:=by kernel_rfl
set_option maxRecDepth 100000 in
theorem chain_parse:∀ deep,deep < 8→parse (chainH deep ++ chainE deep) = .ok (bUser,keyP 0,chainK 8 deep)
 | 0,_=>by kernel_rfl
 | 1,_=>by kernel_rfl
 | 2,_=>by kernel_rfl
 | 3,_=>by kernel_rfl
 | 4,_=>by kernel_rfl
 | 5,_=>by kernel_rfl
 | 6,_=>by kernel_rfl
 | 7,_=>by kernel_rfl
 | n + 8,h=>absurd h (by omega)
theorem chain_plain (z y:Lie) {n deep:Nat} (h1:1≤n) (h2:n≤30) (h3:deep < 8):parse (chainH deep ++ chainE deep) = .ok (bUser,keyP 0,chainK 8 deep)∧chainQ z y n deep=true:=by
 refine ⟨chain_parse deep h3,?_⟩
 have:=then_all (then_all (chain_all z y) h3) (i:=n - 1) (by omega)
 rwa [show n - 1 + 1=n by omega] at this
def manyV (z y:Lie) (n:Nat):Nat→LServ:=pplV z y (n + 1) id (n + 1) (fun i=>if i=0 then n else if i < n then 1 else 0) (fun i j=>if i=0 then keyP (j + 1) else keyP (i + 1))
def manyK:List (Pick 8):=[mkPick ⟨#[]⟩ bUnder [mkPick ⟨#[]⟩ bName []]]
def manyT:ByteArray:=⟨#[117,115,101,114,40,117,97,97,41,123,117,110,100,101,114,123,110,97,109,101,125,125]⟩
def manyG (n:Nat) (g:List (Got 8)):Bool:=decide (g.length=1) && decide ((gSubs (gotN g 0)).length=n) && thenAll n (fun i=>decide ((nthG (gSubs (gotN g 0)) i).length=1) && eqs (gText (gotN (nthG (gSubs (gotN g 0)) i) 0)) (nameP (i + 1)))
def manyQ (z y:Lie) (n:Nat):Bool:=decide (meanE 2 (manyV z y n) 8 bUser (keyP 0) manyK=0) && manyG n (meanG 2 (manyV z y n) 8 bUser (keyP 0) manyK) && decide ((reqs 2 (manyV z y n) 8 bUser (keyP 0) manyK).length=4)
set_option maxRecDepth 100000 in
theorem many_all (z y:Lie):thenAll 20 (fun n=>manyQ z y (n + 1))=true:=by kernel_rfl
set_option maxRecDepth 100000 in
theorem many_parse:parse manyT = .ok (bUser,keyP 0,manyK):=by kernel_rfl
theorem many_plain (z y:Lie) {n:Nat} (h1:1≤n) (h2:n≤20):manyQ z y n=true:=by
 have:=then_all (many_all z y) (i:=n - 1) (by omega)
 rwa [show n - 1 + 1=n by omega] at this
def halfV (z y:Lie) (n gone:Nat):Nat→LServ:=pplV z y (n - 1) (fun i=>if i < gone then i else i + 1) n (fun i=>if i + 1 < n then 1 else 0) (fun i _=>keyP (i + 1))
def halfK:List (Pick 8):=[mkPick ⟨#[]⟩ bName [],mkPick ⟨#[]⟩ bUnder [mkPick ⟨#[]⟩ bName []]]
def halfT (gone:Nat):ByteArray:=⟨#[117,115,101,114,40]⟩ ++ keyP gone ++ ⟨#[41,123,110,97,109,101,32,117,110,100,101,114,123,110,97,109,101,125,125]⟩
def halfG (n gone:Nat) (g:List (Got 8)):Bool:=decide (g.length=2) && gNull (gotN g 0) && emp (gText (gotN g 0)) && !gNull (gotN g 1) && decide ((gSubs (gotN g 1)).length=min 1 (n - 1 - gone))
def halfQ (z y:Lie) (n gone:Nat):Bool:=decide (meanE 2 (halfV z y n gone) 8 bUser (keyP gone) halfK=0) && halfG n gone (meanG 2 (halfV z y n gone) 8 bUser (keyP gone) halfK)
set_option maxRecDepth 100000 in
theorem half_all (z y:Lie):thenAll 20 (fun n=>thenAll (n + 1) (fun gone=>halfQ z y (n + 1) gone))=true:=by kernel_rfl
set_option maxRecDepth 100000 in
theorem half_parse:∀ gone,gone < 20→parse (halfT gone) = .ok (bUser,keyP gone,halfK)
 | 0,_=>by kernel_rfl
 | 1,_=>by kernel_rfl
 | 2,_=>by kernel_rfl
 | 3,_=>by kernel_rfl
 | 4,_=>by kernel_rfl
 | 5,_=>by kernel_rfl
 | 6,_=>by kernel_rfl
 | 7,_=>by kernel_rfl
 | 8,_=>by kernel_rfl
 | 9,_=>by kernel_rfl
 | 10,_=>by kernel_rfl
 | 11,_=>by kernel_rfl
 | 12,_=>by kernel_rfl
 | 13,_=>by kernel_rfl
 | 14,_=>by kernel_rfl
 | 15,_=>by kernel_rfl
 | 16,_=>by kernel_rfl
 | 17,_=>by kernel_rfl
 | 18,_=>by kernel_rfl
 | 19,_=>by kernel_rfl
 | n + 20,h=>absurd h (by omega)
theorem half_plain (z y:Lie) {n gone:Nat} (h1:1≤n) (h2:n≤20) (h3:gone < n):halfQ z y n gone=true:=by
 have h4:=then_all (half_all z y) (i:=n - 1) (by omega)
 rw [show n - 1 + 1=n by omega] at h4
 exact then_all h4 h3
end Go.Proofs.YtjjggefmmeminacGreat
namespace Go.Proofs.YtjjggefmmeminacGreat
open Go.RowKit Go.Sort Go.PlainAid
end Go.Proofs.YtjjggefmmeminacGreat
namespace Go.Proofs.YtjjggefmmeminacGreat
open Go.RowKit Go.Sort Go.PlainAid
def lieZ (n fa fb:Nat) (p q r:Nat→Nat):Lie:=⟨fun m=>if m % 6=1 then (if m / 6 + 1 < n then some ⟨r (m / 6),0,none⟩ else none) else if m % 6=2 then some ⟨p (m / 6),0,none⟩ else if m % 6=3 then some ⟨q (m / 6),0,none⟩ else if m % 6=4 then some ⟨fa,0,none⟩ else if m % 6=5 then some ⟨fb,0,none⟩ else none,fun m=>if m % 6=0 then 0 else if m % 6=1 then (if m / 6 + 1 < n then 1 else 0) else 1⟩
def lieY (ta tb tc:Nat) (a1:Option Addr) (c1:Nat) (a4:Option Addr) (c4:Nat):Lie:=⟨fun m=>if m=0 then some ⟨ta,0,none⟩ else if m=1 then none else if m=2 then a1 else if m=3 then some ⟨tb,0,none⟩ else if m=4 then some ⟨tc,0,none⟩ else a4,fun m=>if m=1 then 0 else if m=2 then c1 else if m=5 then c4 else 1⟩
section
variable {n fa fb:Nat} {p q r:Nat→Nat} (i:Nat)
theorem lz0:(lieZ n fa fb p q r).a (6 * i)=none∧(lieZ n fa fb p q r).c (6 * i)=0:=by
 refine ⟨?_,?_⟩
 ·unfold lieZ; dsimp only; rw [if_neg (by omega),if_neg (by omega),if_neg (by omega),if_neg (by omega),if_neg (by omega)]
 ·unfold lieZ; dsimp only; rw [if_pos (by omega)]
theorem lz1:(lieZ n fa fb p q r).a (6 * i + 1)=(if i + 1 < n then some ⟨r i,0,none⟩ else none)∧(lieZ n fa fb p q r).c (6 * i + 1)=if i + 1 < n then 1 else 0:=by
 have e:(6 * i + 1) / 6=i:=by omega
 refine ⟨?_,?_⟩
 ·unfold lieZ; dsimp only; rw [if_pos (by omega),e]
 ·unfold lieZ; dsimp only; rw [if_neg (by omega),if_pos (by omega),e]
theorem lz2:(lieZ n fa fb p q r).a (6 * i + 2)=some ⟨p i,0,none⟩∧(lieZ n fa fb p q r).c (6 * i + 2)=1:=by
 have e:(6 * i + 2) / 6=i:=by omega
 refine ⟨?_,?_⟩
 ·unfold lieZ; dsimp only; rw [if_neg (by omega),if_pos (by omega),e]
 ·unfold lieZ; dsimp only; rw [if_neg (by omega),if_neg (by omega)]
theorem lz3:(lieZ n fa fb p q r).a (6 * i + 3)=some ⟨q i,0,none⟩∧(lieZ n fa fb p q r).c (6 * i + 3)=1:=by
 have e:(6 * i + 3) / 6=i:=by omega
 refine ⟨?_,?_⟩
 ·unfold lieZ; dsimp only; rw [if_neg (by omega),if_neg (by omega),if_pos (by omega),e]
 ·unfold lieZ; dsimp only; rw [if_neg (by omega),if_neg (by omega)]
end
theorem small_lit {s:ByteArray} (k:Nat) (h:s.size=k) (hk:k≤1000):Small s:=by unfold Small maxLen; omega
theorem fields_one {w:World} {b:Nat} {f : LField} (h:w.heap[b]? = some (.cells #[.string f.name,.int .i64 f.kind,.string f.type] 66 (0,0))) (hg:GoodF f):FieldsAt w (some ⟨b,0,none⟩) 1 (fun _=>f) :=
 ⟨by decide,fun i hi=>⟨b,0,rfl,by
  obtain rfl:i=0:=by omega
  exact ⟨by simp [World.cell?,h],by simp [World.cell?,h],by simp [World.cell?,h],hg⟩⟩⟩
theorem types_one {w:World} {b:Nat} {t : LType} (h:w.heap[b]? = some (.cells #[.string t.name,.slice t.fa t.nf t.fcap] 70 (0,0))) (h1:t.nf≤t.fcap) (h2:Small t.name) (h3:FieldsAt w t.fa t.nf t.F):TypesAt w (some ⟨b,0,none⟩) 1 (fun _=>t) :=
 ⟨by decide,fun i hi=>⟨b,0,rfl,by
  obtain rfl:i=0:=by omega
  exact ⟨by simp [World.cell?,h],by simp [World.cell?,h],h1,h2,h3⟩⟩⟩
theorem vals_one {w:World} {b:Nat} {v:LVal} (h:w.heap[b]? = some (.cells #[.string v.field,.string v.text,.slice v.ka v.nk v.kcap] 59 (0,0))) (h1:v.nk≤v.kcap) (h2:Small v.field) (h3:Small v.text) (h4:KeysAt w v.ka v.nk v.K):ValsAt w (some ⟨b,0,none⟩) 1 (fun _=>v) :=
 ⟨by decide,fun i hi=>⟨b,0,rfl,by
  obtain rfl:i=0:=by omega
  exact ⟨by simp [World.cell?,h],by simp [World.cell?,h],by simp [World.cell?,h],h1,h2,h3,h4⟩⟩⟩
theorem chain_servs {w:World} {N n ba bb ta fa tb fb tc lb:Nat} {p q r:Nat→Nat} {a1 a4:Option Addr} {c1 c4:Nat} (hn:n≤40) (hT:PpT ta fa tb fb tc w) (hF:PpF n n p q r w)
  (hTw:Two N w ba bb (.slice (some ⟨ta,0,none⟩) 1 1) (.slice none 0 0) (.slice (some ⟨tb,0,none⟩) 1 1) (.slice (some ⟨tc,0,none⟩) 1 1) (.slice a1 n c1) (.slice a4 n c4) n n (tcell ⟨#[117,115,101,114]⟩ p) (tcell ⟨#[109,97,110]⟩ q))
  (hl:w.heap[lb]? = some (.cells #[.slice (some ⟨ta,0,none⟩) 1 1,.slice none 0 0,.slice a1 n c1,.slice (some ⟨tb,0,none⟩) 1 1,.slice (some ⟨tc,0,none⟩) 1 1,.slice a4 n c4] 40 (0,0))) :
  ServsAt w (some ⟨lb,0,none⟩) 2 (chainV (lieZ n fa fb p q r) (lieY ta tb tc a1 c1 a4 c4) n):=by
 have hcap:n≤c1∧n≤c4:=by
  obtain ⟨a,c,e,h⟩:=hTw.r1.slice
  obtain ⟨a',c',e',h'⟩:=hTw.r2.slice
  cases e; cases e'
  exact ⟨h,h'⟩
 refine ⟨by decide,fun i hi=>⟨lb,0,rfl,?_⟩⟩
 have hi':i=0∨i=1:=by omega
 rcases hi' with rfl | rfl
 ·refine ⟨by simp [World.cell?,hl,chainV,pplV,lieY],by simp [World.cell?,hl,chainV,pplV,lieY],by simp [World.cell?,hl,chainV,pplV,lieY],⟨?_,?_,?_,Nat.le_refl _,hcap.1⟩⟩
  ·exact types_one (t:=pyA (lieZ n fa fb p q r)) hT.ta (Nat.le_refl _) (small_lit 4 rfl (by decide)) (fields_one (f:=⟨bName,1,⟨#[]⟩⟩) hT.fa ⟨small_lit 4 rfl (by decide),small_lit 0 rfl (by decide),by decide⟩)
  ·exact ⟨Nat.zero_le _,fun _ hi=>absurd hi (Nat.not_lt_zero _)⟩
  ·refine ⟨by show n≤maxLen; unfold maxLen; omega,fun i hi=>?_⟩
   have hi:i < n:=hi
   rcases hTw.r1.shape with ⟨-,h0⟩ | ⟨g,cap,e,-,-,-⟩
   ·omega
   cases e
   refine ⟨g,0,rfl,?_⟩
   have k0:=hTw.r1.cell (j:=i * 3) (by omega)
   have k1:=hTw.r1.cell (j:=i * 3 + 1) (by omega)
   have k2:=hTw.r1.cell (j:=i * 3 + 2) (by omega)
   rw [tcell0] at k0
   rw [tcell1] at k1
   rw [tcell2] at k2
   show ThingAt w g (0 + i * 3) (ptA (lieZ n fa fb p q r) i)
   rw [Nat.zero_add]
   refine ⟨k0,k1,?_,?_,small_lit 4 rfl (by decide),small_lit 3 rfl (by decide),?_⟩
   ·show w.cell? _=some (.slice ((lieZ n fa fb p q r).a (6 * i + 2)) 1 ((lieZ n fa fb p q r).c (6 * i + 2)))
    rw [(lz2 i).1,(lz2 i).2]; exact k2
   ·show 1≤(lieZ n fa fb p q r).c (6 * i + 2)
    rw [(lz2 i).2]; exact Nat.le_refl _
   ·show ValsAt w ((lieZ n fa fb p q r).a (6 * i + 2)) 1 _
    rw [(lz2 i).1]
    refine vals_one (v:=pvA (lieZ n fa fb p q r) i) ?_ (Nat.zero_le _) (small_lit 4 rfl (by decide)) (small_lit 4 rfl (by decide)) ⟨Nat.zero_le _,fun _ hi=>absurd hi (Nat.not_lt_zero _)⟩
    show w.heap[p i]? = some (.cells #[.string bName,.string (nameP i),.slice ((lieZ n fa fb p q r).a (6 * i)) 0 ((lieZ n fa fb p q r).c (6 * i))] 59 (0,0))
    rw [(lz0 i).1,(lz0 i).2]; exact hF.a i hi
 ·refine ⟨by simp [World.cell?,hl,chainV,pplV,lieY],by simp [World.cell?,hl,chainV,pplV,lieY],by simp [World.cell?,hl,chainV,pplV,lieY],⟨?_,?_,?_,Nat.le_refl _,hcap.2⟩⟩
  ·exact types_one (t:=pyB (lieZ n fa fb p q r)) hT.tb (Nat.le_refl _) (small_lit 3 rfl (by decide)) (fields_one (f:=⟨bUnder,3,bMan⟩) hT.fb ⟨small_lit 5 rfl (by decide),small_lit 3 rfl (by decide),by decide⟩)
  ·refine ⟨by show 1≤maxLen; decide,fun i hi=>⟨tc,0,rfl,?_⟩⟩
   have hi:i < 1:=hi
   obtain rfl:i=0:=by omega
   exact ⟨by simp [World.cell?,hT.tc,chainV,pplV],by simp [World.cell?,hT.tc,chainV,pplV,bMan],by simp [World.cell?,hT.tc,chainV,pplV],by simp [World.cell?,hT.tc,chainV,pplV,bUser],small_lit 3 rfl (by decide),small_lit 0 rfl (by decide),small_lit 4 rfl (by decide)⟩
  ·refine ⟨by show n≤maxLen; unfold maxLen; omega,fun i hi=>?_⟩
   have hi:i < n:=hi
   rcases hTw.r2.shape with ⟨-,h0⟩ | ⟨g,cap,e,-,-,-⟩
   ·omega
   cases e
   refine ⟨g,0,rfl,?_⟩
   have k0:=hTw.r2.cell (j:=i * 3) (by omega)
   have k1:=hTw.r2.cell (j:=i * 3 + 1) (by omega)
   have k2:=hTw.r2.cell (j:=i * 3 + 2) (by omega)
   rw [tcell0] at k0
   rw [tcell1] at k1
   rw [tcell2] at k2
   show ThingAt w g (0 + i * 3) (ptB (lieZ n fa fb p q r) (fun i=>if i + 1 < n then 1 else 0) (fun i _=>keyP (i + 1)) i)
   rw [Nat.zero_add]
   refine ⟨k0,k1,?_,?_,small_lit 3 rfl (by decide),small_lit 3 rfl (by decide),?_⟩
   ·show w.cell? _=some (.slice ((lieZ n fa fb p q r).a (6 * i + 3)) 1 ((lieZ n fa fb p q r).c (6 * i + 3)))
    rw [(lz3 i).1,(lz3 i).2]; exact k2
   ·show 1≤(lieZ n fa fb p q r).c (6 * i + 3)
    rw [(lz3 i).2]; exact Nat.le_refl _
   ·show ValsAt w ((lieZ n fa fb p q r).a (6 * i + 3)) 1 _
    rw [(lz3 i).1]
    have hb:=hF.b i hi
    refine vals_one (v:=pvB (lieZ n fa fb p q r) (if i + 1 < n then 1 else 0) (fun _=>keyP (i + 1)) i) ?_ ?_ (small_lit 5 rfl (by decide)) (small_lit 0 rfl (by decide)) ?_
    ·show w.heap[q i]? = some (.cells #[.string bUnder,.string ⟨#[]⟩,.slice ((lieZ n fa fb p q r).a (6 * i + 1)) (if i + 1 < n then 1 else 0) ((lieZ n fa fb p q r).c (6 * i + 1))] 59 (0,0))
     rw [(lz1 i).1,(lz1 i).2]
     unfold keyV at hb
     by_cases h1:i + 1 < n
     ·rw [if_pos h1] at hb ⊢; rw [if_pos h1]; exact hb
     ·rw [if_neg h1] at hb ⊢; rw [if_neg h1]; exact hb
    ·show (if i + 1 < n then 1 else 0)≤(lieZ n fa fb p q r).c (6 * i + 1)
     rw [(lz1 i).2]; exact Nat.le_refl _
    ·show KeysAt w ((lieZ n fa fb p q r).a (6 * i + 1)) (if i + 1 < n then 1 else 0) _
     rw [(lz1 i).1]
     by_cases h1:i + 1 < n
     ·rw [if_pos h1,if_pos h1]
      refine ⟨by decide,fun j hj=>⟨r i,0,rfl,?_,small_lit 3 rfl (by decide)⟩⟩
      obtain rfl:j=0:=by omega
      have:=hF.c i hi h1
      simp [World.cell?,this]
      rfl
     ·rw [if_neg h1,if_neg h1]
      exact ⟨Nat.zero_le _,fun _ hi=>absurd hi (Nat.not_lt_zero _)⟩
end Go.Proofs.YtjjggefmmeminacGreat
namespace Go.Proofs.YtjjggefmmeminacGreat
open Go.RowKit Go.Sort Go.PlainAid
def pairK:List (Pick 8):=[mkPick ⟨#[]⟩ bName [],mkPick ⟨#[]⟩ bUnder [mkPick ⟨#[]⟩ bName []]]
set_option maxRecDepth 100000 in
theorem pair_plain (z y:Lie):parse (halfT 0) = .ok (bUser,keyP 0,pairK)∧meanE 2 (chainV z y 2) 8 bUser (keyP 0) pairK=0∧meanG 2 (chainV z y 2) 8 bUser (keyP 0) pairK = [mkGot bName 1 false (nameP 0) [] [],mkGot bUnder 3 false ⟨#[]⟩ [] [[mkGot bName 1 false (nameP 1) [] []]]]:=⟨by kernel_rfl,by kernel_rfl,by kernel_rfl⟩
end Go.Proofs.YtjjggefmmeminacGreat
