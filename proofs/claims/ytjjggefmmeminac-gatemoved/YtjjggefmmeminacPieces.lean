import Derived.Test.YtjjggefmmeminacJBase
namespace Go.Proofs.Ytjjggefmmeminac
def blockOf (n:Nat):Code→Option Code
 | .block m c=>if m=n then some (.block m c) else blockOf n c
 | .loop c=>blockOf n c
 | .scope c=>blockOf n c
 | .seq a b=>match blockOf n a with
  | some c=>some c
  | none=>blockOf n b
 | .cond _ a b=>match blockOf n a with
  | some c=>some c
  | none=>blockOf n b
 | _=>none
def seqOf (n:Nat):Code→Option Code
 | .seq (.region m os d) b=>if m=n then some (.seq (.region m os d) b) else seqOf n b
 | .block _ c=>seqOf n c
 | .loop c=>seqOf n c
 | .scope c=>seqOf n c
 | .seq a b=>match seqOf n a with
  | some c=>some c
  | none=>seqOf n b
 | .cond _ a b=>match seqOf n a with
  | some c=>some c
  | none=>seqOf n b
 | _=>none
def Calm (Q:Exit→Act→World→Prop):Exit→Act→World→Prop
 | .panic _,_,_=>False
 | e,a,w=>Q e a w
theorem calm {P:Program} {c:Code} {Q:Exit→Act→World→Prop} {a:Act} {w:World} (h:c.wp P (Calm Q) a w):c.wp P Q a w:=wp_mono h fun e _ _ hq=>by
 cases e with
 | normal=>exact hq
 | exit id=>exact hq
 | goto l=>exact hq
 | ret=>exact hq
 | panic ch=>exact hq.elim
 | outgrown=>exact hq
def regOf (n:Nat):Code→Option Code
 | .region m os d=>if m=n then some (.region m os d) else none
 | .block _ c=>regOf n c
 | .loop c=>regOf n c
 | .scope c=>regOf n c
 | .seq a b=>match regOf n a with
  | some c=>some c
  | none=>regOf n b
 | .cond _ a b=>match regOf n a with
  | some c=>some c
  | none=>regOf n b
 | _=>none
noncomputable def piece (f:Func) (look:Code→Option Code):Code:=(f.body.bind look).getD .skip
end Go.Proofs.Ytjjggefmmeminac
