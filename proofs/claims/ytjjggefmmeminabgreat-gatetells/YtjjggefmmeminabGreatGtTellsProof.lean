import Derived.Test.YtjjggefmmeminabGreatGtTellsW
import Derived.Test.YtjjggefmmeminabGreatGrRun
import Derived.Test.YtjjggefmmeminabGreatRqRun
import Derived.SizedLaws
/-
  Proved: stitchlaw7.GateTells, called with any services, anything that is asked, returns true and leaves its arguments as they were. No condition.
-/
set_option maxRecDepth 100000
namespace Go.Proofs.YtjjggefmmeminabGreat
open Go.ChangeShapes Go.WideShapes Go.ChangeAt Go.RowKit Go.Joins
theorem Je(os:Os)(b:os.Started)(H:Type)(enc:TypeId × Value->H) :
  ReturnsInHanded {} Tryz.checked os 4 .any (Rows.gateTellsSpec.pre6 enc Tryz.prog Tryz.f4 Rows.gateTellsRow.domain false) (Rows.gateTellsSpec.post enc Tryz.prog Tryz.f4 false true false false):=by
 refine returnsInHanded_of_change_sized (C:=Tryz.checked) Tryz.own b (by kernel_rfl) Tryz.func4
  (ChangeSpec.witness6 (enc:=enc) (C:=Tryz.checked) false ⟨#[],#[.slice none 0 0,.agg #[.string ⟨#[]⟩,.string ⟨#[]⟩,.slice none 0 0]],[]⟩ 8 (by kernel_rfl) (by kernel_rfl) (by kernel_rfl) (by kernel_rfl)) ?_
 intro W base args ds Y u c D E _ _;have d:∀(j:Nat) t v,Tryz.f4.params[j]? = some t->args[j]? = some v->Value.okWide Tryz.prog W .any base t v:=c;have g:=D;obtain⟨p,q,i,K,rfl,L,M⟩:=D;have F:DataW.TrodAll enc Tryz.prog W 0 (λ_=>true) true Tryz.f4.params.toList args.toList ds p:=i;rw[Tryz.params4]at F d;obtain⟨N,O,d0,Z,G,I,rfl,rfl,rfl,h0,h1⟩:=trodAll_two F;obtain⟨rfl,rfl⟩:=trodVars_none K;obtain⟨P,k,o,rfl⟩:=okWide_slice Tryz.underlying22 (d 0 22 N rfl rfl);have w:=h0;have y:=h1;obtain⟨z,B⟩:=h0;obtain⟨u0,u1,u2,y0,y1,y2,m,rfl,-,-,Q,R,g2⟩:=open_agg3 Tryz.underlying25 (by kernel_rfl) Tryz.cells25 (d 1 25 O rfl rfl) h1;clear i c;simp only[Bm]at g;have r:∀x∈G,x.block<W.heap.size:=λx hx=>by simpa using g.lt x (by simp[hx])
 have s:∀x∈I,x.block<W.heap.size:=λx hx=>by simpa using g.lt x (by simp[hx])
 obtain⟨a,n,cap,V,J,-,hS⟩:=Lj B;simp[Value.cells]at J;obtain⟨rfl,rfl,rfl⟩:=J;obtain⟨s0,e1,-,S⟩:=Ba Tryz.underlying9 Q;obtain⟨s1,e2,-,T⟩:=Ba Tryz.underlying9 R;obtain⟨A,C,l,e3,U,X⟩:=O0 m m (by omega) g2;simp at e1 e2 e3;subst e1 e2 e3;refine(K9 Sk Tl P k o V m s0 s1 A C l W hS X U S T).mono λe W' ⟨he,hnx⟩=>?_;subst he;refine⟨_,rfl,_,_,_,[],G++I,[],g,?_,?_,rfl,hnx.frame _,λh=>by cases h⟩
 ·exact trodAll_mk1 (shut_bool Tryz.underlying4 true)
 ·exact trodAll_mk2 (Below.trod Tryz.laidOut (by kernel_rfl) (of_decide_eq_true (by kernel_rfl)) w hnx r) (Below.trod Tryz.laidOut (by kernel_rfl) (of_decide_eq_true (by kernel_rfl)) y hnx s)
theorem gateTells_holds:Rows.GateTellsSaid :=
 OpenClaim.holds_of_wide 4 Tryz.f4 rfl rfl rfl rfl rfl rfl rfl ⟨rfl,rfl,rfl,rfl,rfl⟩ rfl rfl rfl rfl rfl (by kernel_rfl) Tryz.func4 (by kernel_rfl)
  (of_decide_eq_true (by kernel_rfl)) (by unfold Func.isWrapper;first|(rw[Af (by decide +kernel)];kernel_rfl)|(rw[Ae (by decide +kernel)];exact⟨rfl,rfl⟩))
  (λos a H enc _=>Je os a H enc)
#print axioms gateTells_holds
end Go.Proofs.YtjjggefmmeminabGreat
