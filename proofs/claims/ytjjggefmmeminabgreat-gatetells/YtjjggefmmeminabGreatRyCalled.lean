import Derived.Test.YtjjggefmmeminabGreatJQy
set_option maxRecDepth 100000
set_option maxHeartbeats 400000
namespace Go.Proofs.YtjjggefmmeminabGreat
open Go.RowKit Go.Sort Go.PlainAid
theorem G5(d:Nat)(p:Cg (d+1))(A:Option Addr)(n C:Nat)(w:World) :
  Calls Tryz.prog 46 #[.agg #[.string (Di p),.string (BT p),.slice A n C]] w λe w'=>e= .returned (.string (B8 p))/\Below w.heap.size w w':=by
 have a:=Nc (Di p)
 cases he:Ri (Di p) with
 |true =>
  rw[he]at a;have b:Hid (B8 p=BT p):=by unfold B8;rw[he];rfl
  clear he
  go_enter Tryz.func46,Tryz.ntmps46
  go_wp2_with fail
  go_ret;exact⟨by rw[b.out];rfl,BW _ _⟩
 |false =>
  rw[he]at a;have b:Hid (B8 p=Di p):=by unfold B8;rw[he];rfl
  clear he
  go_enter Tryz.func46,Tryz.ntmps46
  go_wp2_with fail
  go_ret;exact⟨by rw[b.out];rfl,BW _ _⟩
end Go.Proofs.YtjjggefmmeminabGreat
