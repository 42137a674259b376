import Derived.Test.YtjjggefmmeminacJMg
import Derived.Test.YtjjggefmmeminacJQy
import Derived.Test.YtjjggefmmeminacJMn
namespace Go.Proofs.Ytjjggefmmeminac
open Go.RowKit Go.Sort Go.PlainAid
def OwnersAt (w:World) (a:Option Addr) (n:Nat) (O:Nat→POwner):Prop:=n≤maxLen∧∀ i,i < n→∃ b o,a=some ⟨b,o,none⟩∧w.cell? ⟨b,o + i * 3,none⟩=some (.int .i64 (O i).svc)∧w.cell? ⟨b,o + i * 3 + 1,none⟩=some (.string (O i).type)∧w.cell? ⟨b,o + i * 3 + 2,none⟩=some (.string (O i).field)∧GoodO (O i)
theorem OwnersAt.kept {w w':World} {a:Option Addr} {n:Nat} {O:Nat→POwner} (h:OwnersAt w a n O) (hB:Below w.heap.size w w'):OwnersAt w' a n O :=
 ⟨h.1,fun i hi=>let ⟨b,o,e,c0,c1,c2,g⟩:=h.2 i hi; ⟨b,o,e,keptCell hB c0,keptCell hB c1,keptCell hB c2,g⟩⟩
theorem Row.ownersAt {w:World} {base e n:Nat} {v:Value} {O:Nat→POwner} (h:Row w base e 3 v n (ownerCell O)) (hn:n≤maxLen) (hg:∀ j,j < n→GoodO (O j)):∃ a cap,v = .slice a n cap∧n≤cap∧OwnersAt w a n O:=by
 rcases h.shape with ⟨rfl,rfl⟩ | ⟨g,cap,rfl,-,hc,-⟩
 ·exact ⟨none,0,rfl,Nat.le_refl _,Nat.zero_le _,fun i hi=>absurd hi (Nat.not_lt_zero _)⟩
 ·refine ⟨_,cap,rfl,hc,hn,fun i hi=>⟨g,0,rfl,?_,?_,?_,hg i hi⟩⟩
  ·rw [Nat.zero_add,h.cell (j:=i * 3) (by omega)]; unfold ownerCell; rw [if_pos (by omega),show i * 3 / 3=i by omega]
  ·rw [Nat.zero_add,h.cell (j:=i * 3 + 1) (by omega)]; unfold ownerCell; rw [if_neg (by omega),if_pos (by omega),show (i * 3 + 1) / 3=i by omega]
  ·rw [Nat.zero_add,h.cell (j:=i * 3 + 2) (by omega)]; unfold ownerCell; rw [if_neg (by omega),if_neg (by omega),show (i * 3 + 2) / 3=i by omega]
structure PtAt (w:World) (b o:Nat) (p:PPart) (fa oa ha:Option Addr) (fc oc hc:Nat):Prop where
 c0:w.cell? ⟨b,o,none⟩=some (.string p.name)
 c1:w.cell? ⟨b,o + 1,none⟩=some (.slice fa p.fs.length fc)
 c2:w.cell? ⟨b,o + 2,none⟩=some (.slice oa p.os.length oc)
 c3:w.cell? ⟨b,o + 3,none⟩=some (.slice ha p.hs.length hc)
 name:Small p.name
 fields:FieldsAt w fa p.fs.length (fsN p)
 owners:OwnersAt w oa p.os.length (osN p)
 homes:OwnersAt w ha p.hs.length (hsN p)
 fcap:p.fs.length≤fc
 ocap:p.os.length≤oc
 hcap:p.hs.length≤hc
theorem PtAt.kept {w w':World} {b o:Nat} {p:PPart} {fa oa ha:Option Addr} {fc oc hc:Nat} (h:PtAt w b o p fa oa ha fc oc hc) (hB:Below w.heap.size w w'):PtAt w' b o p fa oa ha fc oc hc :=
 ⟨keptCell hB h.c0,keptCell hB h.c1,keptCell hB h.c2,keptCell hB h.c3,h.name,h.fields.kept hB,h.owners.kept hB,h.homes.kept hB,h.fcap,h.ocap,h.hcap⟩
def PtsAt (w:World) (a:Option Addr) (L:List PPart):Prop:=L.length≤maxLen∧∀ i,i < L.length→∃ b o fa oa ha fc oc hc,a=some ⟨b,o,none⟩∧PtAt w b (o + i * 4) (nth L i) fa oa ha fc oc hc
theorem PtsAt.kept {w w':World} {a:Option Addr} {L:List PPart} (h:PtsAt w a L) (hB:Below w.heap.size w w'):PtsAt w' a L :=
 ⟨h.1,fun i hi=>let ⟨b,o,fa,oa,ha,fc,oc,hc,e,hp⟩:=h.2 i hi; ⟨b,o,fa,oa,ha,fc,oc,hc,e,hp.kept hB⟩⟩
theorem Parts.pts {Z:Nat→Prop} {w:World} {a:Option Addr} {n cap:Nat} {L:List PPart} {rv:Nat→Nat→Value} (h:Parts Z w (.slice a n cap) L rv):n=L.length∧L.length≤cap∧PtsAt w a L:=by
 obtain ⟨a',cap',e,hc⟩:=h.slice
 cases e
 refine ⟨rfl,hc,h.nmax,fun i hi=>?_⟩
 obtain ⟨g,cp,a1,c1,a2,c2,a3,c3,hv,e1,e2,e3,k0,k1,k2,k3⟩:=h.aggs hi
 cases hv
 have hg:=h.good i hi
 have r0:Row w 0 94 3 (rv 0 i) (nth L i).fs.length (fieldCell (fsN (nth L i))):=h.rows 0 i (by decide) hi
 have r1:Row w 0 107 3 (rv 1 i) (nth L i).os.length (ownerCell (osN (nth L i))):=h.rows 1 i (by decide) hi
 have r2:Row w 0 107 3 (rv 2 i) (nth L i).hs.length (ownerCell (hsN (nth L i))):=h.rows 2 i (by decide) hi
 obtain ⟨b1,d1,f1,g1,hF⟩:=r0.fieldsAt (hg.len 0) hg.fs
 obtain ⟨b2,d2,f2,g2,hO⟩:=r1.ownersAt (hg.len 1) hg.os
 obtain ⟨b3,d3,f3,g3,hH⟩:=r2.ownersAt (hg.len 2) hg.hs
 rw [e1] at f1
 rw [e2] at f2
 rw [e3] at f3
 cases f1
 cases f2
 cases f3
 refine ⟨g,0,a1,a2,a3,c1,c2,c3,rfl,?_⟩
 rw [Nat.zero_add]
 exact ⟨k0,k1,k2,k3,hg.name,hF,hO,hH,g1,g2,g3⟩
theorem PtsAt.check {w:World} {a:Option Addr} {L:List PPart} (h:PtsAt w a L):∃ P,PartsAt w a L.length P∧∀ (d:Nat) (type key:ByteArray) (ps:List (Pick d)),cA L.length P d type key ps=cA L.length (lpOf L) d type key ps:=by
 have hex:∀ i,∃ q:LPart,i < L.length→∃ b o,a=some ⟨b,o,none⟩∧w.cell? ⟨b,o + i * 4,none⟩=some (.string q.name)∧w.cell? ⟨b,o + i * 4 + 1,none⟩=some (.slice q.fa q.nf q.fcap)∧w.cell? ⟨b,o + i * 4 + 2,none⟩=some (.slice q.oa q.no q.ocap)∧w.cell? ⟨b,o + i * 4 + 3,none⟩=some (.slice q.ha q.nh q.hcap)∧Small q.name∧FieldsAt w q.fa q.nf q.F∧q.name=(nth L i).name∧q.nf=(nth L i).fs.length∧q.F=fsN (nth L i):=fun i=>by
  by_cases hi:i < L.length
  ·obtain ⟨b,o,fa,oa,ha,fc,oc,hc,e,hp⟩:=h.2 i hi
   exact ⟨⟨(nth L i).name,fa,(nth L i).fs.length,fc,fsN (nth L i),oa,(nth L i).os.length,oc,ha,(nth L i).hs.length,hc⟩,fun _=>⟨b,o,e,hp.c0,hp.c1,hp.c2,hp.c3,hp.name,hp.fields,rfl,rfl,rfl⟩⟩
  ·exact ⟨lpOf L i,fun h'=>absurd h' hi⟩
 obtain ⟨P,hP⟩:=Classical.axiomOfChoice hex
 refine ⟨P,⟨h.1,fun i hi=>?_⟩,fun d type key ps=>cA_congr (fun i hi=>?_) d type key ps⟩
 ·obtain ⟨b,o,e,c0,c1,c2,c3,s0,hF,-⟩:=hP i hi
  exact ⟨b,o,e,c0,c1,c2,c3,s0,hF⟩
 ·obtain ⟨b,o,-,-,-,-,-,-,-,e1,e2,e3⟩:=hP i hi
  refine ⟨e1,e2,fun j _=>?_⟩
  rw [e3]; rfl
end Go.Proofs.Ytjjggefmmeminac
