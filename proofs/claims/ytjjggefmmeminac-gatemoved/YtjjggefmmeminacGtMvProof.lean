import Derived.Test.YtjjggefmmeminacGtMvW
import Derived.Test.YtjjggefmmeminacJOpen
import Derived.Test.YtjjggefmmeminacGrRun
import Derived.Lib.SmallJoins
import Derived.ProofKit
import Derived.SizedLaws
/-
 Proved: stitchlaw7.GateMoved,called with any services,anything that is asked,any number,any number,returns true and leaves its arguments as they were. No condition.
-/
namespace Go.Proofs.Ytjjggefmmeminac
open Go.ChangeShapes Go.WideShapes Go.ChangeAt Go.RowKit Go.Joins
set_option maxRecDepth 100000 in
theorem gateMoved_lifted (os:Os) (started:os.Started) (H:Type) (enc:TypeId × Value→H) :
  ReturnsInHanded {} Try.checked os 6 .any (Rows.gateMovedSpec.pre6 enc Try.prog Try.f6 Rows.gateMovedRow.domain false) (Rows.gateMovedSpec.post enc Try.prog Try.f6 false true false false):=by
 refine returnsInHanded_of_change_sized (C:=Try.checked) Try.own started (by kernel_rfl) Try.func6
  (ChangeSpec.witness6 (enc:=enc) (C:=Try.checked) false ⟨#[],#[.slice none 0 0,.agg #[.string ⟨#[]⟩,.string ⟨#[]⟩,.slice none 0 0],.int .i64 0,.int .i64 0],[]⟩ 8 (by kernel_rfl) (by kernel_rfl) (by kernel_rfl) (by kernel_rfl)) ?_
 intro W base args ds gs before hval0 hW hcnd _ _
 have hval:∀ (j:Nat) t v,Try.f6.params[j]? = some t→args[j]? = some v→Value.okWide Try.prog W .any base t v:=hval0
 have hW':=hW
 obtain ⟨p,q,hA0,hV,rfl,hfz,hnd⟩:=hW
 have hA:DataW.TrodAll enc Try.prog W 0 (fun _=>true) true Try.f6.params.toList args.toList ds p:=hA0
 rw [Try.params6] at hA hval
 obtain ⟨v0,v1,v2,v3,d0,d1,d2,d3,p0,p1,p2,p3,rfl,rfl,rfl,h0,h1,h2,h3⟩:=trodAll_four hA
 obtain ⟨rfl,rfl⟩:=trodVars_none hV
 obtain ⟨a0,len0,cap0,rfl⟩:=okWide_slice Try.underlying22 (hval 0 22 v0 rfl rfl)
 obtain ⟨z,rfl,rfl,rfl,wz⟩:=open_int Try.underlying3 (hval 2 3 v2 rfl rfl) h2
 obtain ⟨z9,rfl,rfl,rfl,wz9⟩:=open_int Try.underlying3 (hval 3 3 v3 rfl rfl) h3
 have h0k:=h0
 have h1k:=h1
 obtain ⟨fuel0,hf0⟩:=h0
 obtain ⟨u0,u1,u2,y0,y1,y2,m,rfl,-,-,g0,g1,g2⟩:=open_agg3 Try.underlying25 (by kernel_rfl) Try.cells25 (hval 1 25 v1 rfl rfl) h1
 clear hA0 hval0
 simp only [List.append_nil] at hW'
 have hlt0:∀ x ∈ p0,x.block < W.heap.size:=fun x hx=>by simpa using hW'.lt x (by simp [hx])
 have hlt1:∀ x ∈ p1,x.block < W.heap.size:=fun x hx=>by simpa using hW'.lt x (by simp [hx])
 obtain ⟨a,n,cap,V,e0,-,hS⟩:=open_services hf0
 simp [Value.cells] at e0
 obtain ⟨rfl,rfl,rfl⟩:=e0
 obtain ⟨s0,e1,-,q0⟩:=DataW.trod_string Try.underlying9 g0
 obtain ⟨s1,e2,-,q1⟩:=DataW.trod_string Try.underlying9 g1
 obtain ⟨A,C,l,e3,hC,hP⟩:=open_picks m m (by omega) g2
 simp at e1 e2 e3
 subst e1 e2 e3
 refine (gateMoved_any grun_any a0 len0 cap0 V m s0 s1 A C l z z9 W hS hP hC q0 q1).mono fun e W' ⟨he,hnx⟩=>?_
 subst he
 refine ⟨_,rfl,_,_,_,[],p0 ++ (p1 ++ ([] ++ [])),[],hW',?_,?_,rfl,hnx.frame _,fun h=>by cases h⟩
 ·exact trodAll_mk1 (shut_bool Try.underlying4 true)
 ·exact trodAll_mk4 (Below.trod Try.laidOut (by kernel_rfl) (of_decide_eq_true (by kernel_rfl)) h0k hnx hlt0) (Below.trod Try.laidOut (by kernel_rfl) (of_decide_eq_true (by kernel_rfl)) h1k hnx hlt1) (shut_int Try.underlying3 wz) (shut_int Try.underlying3 wz9)
theorem gateMoved_holds:Rows.GateMovedSaid :=
 OpenClaim.holds_of_wide 6 Try.f6 rfl rfl rfl rfl rfl rfl rfl ⟨rfl,rfl,rfl,rfl,rfl⟩ rfl rfl rfl rfl rfl (by kernel_rfl) Try.func6 (by kernel_rfl)
  (of_decide_eq_true (by kernel_rfl)) (by unfold Func.isWrapper; first | (rw [if_pos (by decide +kernel)]; kernel_rfl) | (rw [if_neg (by decide +kernel)]; exact ⟨rfl,rfl⟩))
  (fun os started H enc _=>gateMoved_lifted os started H enc)
#print axioms gateMoved_holds
end Go.Proofs.Ytjjggefmmeminac
