import Derived.Test.YtjjggefmmeminacJMt
namespace Go.Proofs.Ytjjggefmmeminac
open Go.RowKit Go.Sort Go.PlainAid
def servCell (V:Nat→LServ) (j:Nat):Value:=if j % 3=0 then .slice (V (j / 3)).ta (V (j / 3)).nt (V (j / 3)).tcap else if j % 3=1 then .slice (V (j / 3)).ca (V (j / 3)).nc (V (j / 3)).ccap else .slice (V (j / 3)).xa (V (j / 3)).nx (V (j / 3)).xcap
theorem servCell0 (V:Nat→LServ) (i:Nat):servCell V (i * 3) = .slice (V i).ta (V i).nt (V i).tcap:=by unfold servCell; rw [if_pos (by omega),show i * 3 / 3=i by omega]
theorem servCell1 (V:Nat→LServ) (i:Nat):servCell V (i * 3 + 1) = .slice (V i).ca (V i).nc (V i).ccap:=by unfold servCell; rw [if_neg (by omega),if_pos (by omega),show (i * 3 + 1) / 3=i by omega]
theorem servCell2 (V:Nat→LServ) (i:Nat):servCell V (i * 3 + 2) = .slice (V i).xa (V i).nx (V i).xcap:=by unfold servCell; rw [if_neg (by omega),if_neg (by omega),show (i * 3 + 2) / 3=i by omega]
theorem servCells_snoc (V:Nat→LServ) (k:Nat):(List.range ((k + 1) * 3)).map (servCell V)=(List.range (k * 3)).map (servCell V) ++ [.slice (V k).ta (V k).nt (V k).tcap,.slice (V k).ca (V k).nc (V k).ccap,.slice (V k).xa (V k).nx (V k).xcap]:=by
 rw [show (k + 1) * 3=k * 3 + 1 + 1 + 1 by omega,List.range_succ,List.range_succ,List.range_succ]
 simp only [List.map_append,List.map_cons,List.map_nil,List.append_assoc]
 rw [servCell0,servCell1,show k * 3 + 1 + 1=k * 3 + 2 by omega,servCell2]
 rfl
theorem Try.info47:(Try.prog.info? 47).map (fun i=>(i.zero,i.size,i.bytes))=some (some (.agg #[.slice none 0 0,.slice none 0 0,.slice none 0 0]),3,72):=by kernel_rfl
theorem row_servs {w:World} {B n:Nat} {v:Value} {V:Nat→LServ} (h:Row w B 47 3 v n (servCell V)) (hn:n≤maxLen) (hok:∀ i,i < n→ServOk w (V i)):∃ a cap,v = .slice a n cap∧ServsAt w a n V:=by
 rcases h.shape with ⟨rfl,rfl⟩ | ⟨g,cap,rfl,-,hc,-⟩
 ·exact ⟨none,0,rfl,Nat.zero_le _,fun i hi=>absurd hi (Nat.not_lt_zero _)⟩
 ·refine ⟨_,cap,rfl,hn,fun i hi=>⟨g,0,rfl,?_,?_,?_,hok i hi⟩⟩
  ·rw [h.cell (by omega),Nat.zero_add,servCell0]
  ·rw [h.cell (by omega),Nat.zero_add,servCell1]
  ·rw [h.cell (by omega),Nat.zero_add,servCell2]
end Go.Proofs.Ytjjggefmmeminac
