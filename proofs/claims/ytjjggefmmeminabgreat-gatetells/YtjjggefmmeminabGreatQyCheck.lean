import Derived.Test.YtjjggefmmeminabGreatJQy
set_option maxRecDepth 100000
set_option maxHeartbeats 400000
namespace Go.Proofs.YtjjggefmmeminabGreat
open Go.RowKit Go.Sort Go.PlainAid
def FM (s f:ByteArray):ByteArray:=if Ri s then f else s
theorem G8(s f:ByteArray)(A:Option Addr)(n C:Nat)(w:World) :
  Calls Tryz.prog 67 #[.agg #[.string s,.string f,.slice A n C]] w λe w'=>e= .returned (.string (FM s f))/\Below w.heap.size w w':=by
 have a:=Nc s
 cases he:Ri s with
 |true =>
  rw[he]at a;have b:Hid (FM s f=f):=by unfold FM;rw[he];rfl
  clear he
  go_enter Tryz.func67,Tryz.ntmps67
  go_wp2_with fail
  go_ret;exact⟨by rw[b.out];rfl,BW _ _⟩
 |false =>
  rw[he]at a;have b:Hid (FM s f=s):=by unfold FM;rw[he];rfl
  clear he
  go_enter Tryz.func67,Tryz.ntmps67
  go_wp2_with fail
  go_ret;exact⟨by rw[b.out];rfl,BW _ _⟩
theorem Tryz.e127:∀args w,(callFunc 127 args).run Tryz.prog w= .ok (.enter 127 args) w:=AN Tryz.func127 (by kernel_rfl) rfl
theorem Lg(j:Nat)(s f name:ByteArray)(A:Option Addr)(n C:Nat)(w:World)(h:w.cell? ⟨j,0,none⟩=some (.string name)) :
  Calls Tryz.prog 127 #[.agg #[.string s,.string f,.slice A n C],.pointer (some ⟨j,0,none⟩)] w λe w'=>e= .returned (.bool (eqs (FM s f) name))/\Below w.heap.size w w':=by
 generalize b:w.alloc (Obj.cells #[.string s,.string f,.slice A n C] 72)=W;have a:Below w.heap.size w W:=by rw[<-b];exact BW _ _
 have c0:W.cell? ⟨w.heap.size,0,none⟩=some (.string s):=by rw[<-b,Ac _ _ _ _ rfl];rfl
 have c1:W.cell? ⟨w.heap.size,1,none⟩=some (.string f):=by rw[<-b,Ac _ _ _ _ rfl];rfl
 have c2:W.cell? ⟨w.heap.size,2,none⟩=some (.slice A n C):=by rw[<-b,Ac _ _ _ _ rfl];rfl
 have h:=BR a h;have d0:=As c0;have o:=As c1;have q:=As c2;have r:=As h;have l:∀d os,Calls Tryz.prog 67 #[.agg #[.string s,.string f,.slice A n C]] (grow (redrawn W d) os) λe w''=>e= .returned (.string (FM s f))/\∃p:Regrown,w''=grow (redrawn W p.d) p.os:=λd os=>AF (G8 _ _ _ _ _ _);have c:=C6 a;clear a c0 c1 c2 h
 go_enter Tryz.func127,Tryz.ntmps127
 go_wp2_with fail
 clear b;refine Ar (by kernel_rfl) (by kernel_rfl) ?_
 repeat (go_big_quiet_step (first|exact l _ _))
 refine AK ?_;intro _ i;obtain⟨⟨k,osq⟩,g⟩:=i;subst g;have hB:=Av W k osq;have m:Hid (Below w.heap.size w (grow (redrawn W k) osq)):=c.out.trans (hB.mono c.out.size);clear hB
 go_wp2_with fail
 go_ret;exact⟨by rw[<-CT];rfl,m.out⟩
def E6 {d:Nat} (L:List (Cg (d+1))) (name:ByteArray):Int:=Ds L.length (λi=>eqs (B8 (BS L i)) name)
theorem Qk{d:Nat}(p:Cg (d+1)):FM (Di p) (BT p)=B8 p:=rfl
theorem K6(d s:Nat)(a:Option Addr)(cap:Nat)(L:List (Cg (d+1)))(name:ByteArray)(w:World)(u:CB w (d+1) a L)(y:w.cell? ⟨s,0,none⟩=some (.string name)) :
  Calls Tryz.prog 146 #[.slice a L.length cap,.func (.func 127) #[] #[.pointer (some ⟨s,0,none⟩)]] w λe w'=>e= .returned (.int .i64 (E6 L name))/\Below w.heap.size w w':=by
 have hn:L.length<=9223372036854775807:=u.max;have z:=C6 u;have G:=Tryz.e127;clear u
 go_enter Tryz.func146,Tryz.ntmps146
 go_wp2_with fail
 go_loopw [8] (λi wr => ∃k:Nat,k<=L.length/\i= .int .i64 k/\Hid (∀j,j<k->eqs (B8 (BS L j)) name=false)/\Below w.heap.size w wr) (λi _=>L.length - (intOf i).toNat)
 case atStart=>exact⟨0,Ai _,rfl,(λj r=>absurd r (Ak _)),Aq _ _⟩
 case round =>
  obtain⟨k,hk,rfl,hb,m⟩:=hrel
  by_cases n:k<L.length
  ·obtain⟨b,o,A,C,ha,B,k1,D,-⟩:=(z.out.kept m).2 k n
   subst ha;have x:(k:Int)<(L.length:Int):=by omega
   have E:(0:Int)<=(k:Int):=by omega
   have l:=Lg s (Di (BS L k)) (BT (BS L k)) name A (subs (BS L k)).length C wr (BR m y);rw[Qk]at l
   go_wp2_with fail
   refine l.mono ?_;clear l;rintro e F ⟨rfl,p⟩;have q:Below w.heap.size w F:=m.trans (p.mono m.size);clear p B k1 D
   cases g:eqs (B8 (BS L k)) name with
   |true =>
    have c:Hid (E6 L name=(k:Int)):=DD n g hb;clear g
    go_wp2_with fail
    go_ret;exact⟨by rw[c.out];rfl,q⟩
   |false =>
    have v:Hid (∀j,j<k+1->eqs (B8 (BS L j)) name=false):=λj r=>by
     rcases Nat.lt_succ_iff_lt_or_eq.1 r with h|h
     ·exact hb j h
     ·rw[h];exact g
    clear g
    go_wp2_with fail
    go_roundw
    case rel=>exact⟨k+1,by omega,by go_num,v,q⟩
    case measure=>simp[intOf];omega
  ·have c:Hid (E6 L name = -1):=Em (λj r=>hb j (by omega))
   go_wp2_with fail
   go_ret;exact⟨by rw[c.out];rfl,m⟩
theorem IV{d:Nat}(L:List (Cg (d+1)))(name:ByteArray):decide (0<=E6 L name)=(L.map B8).any (λq=>eqs q name):=by
 rcases CE L.length (λi=>eqs (B8 (BS L i)) name) with⟨h1,h2⟩|⟨k,hk,h1,h2,-⟩
 ·have e : ¬0<=E6 L name:=by unfold E6;rw[h1];decide
  rw[AY e];symm;rw[List.any_eq_false];intro q hq;obtain⟨p,a,rfl⟩:=List.mem_map.1 hq;obtain⟨i,hi,rfl⟩:=List.mem_iff_getElem.1 a;rw[<-CL hi,h2 i hi];decide
 ·have e:0<=E6 L name:=by unfold E6;rw[h1];omega
  rw[Bi e];symm;rw[BN];exact⟨B8 (BS L k),List.mem_map.2 ⟨_,by rw[CL hk];exact AW hk,rfl⟩,h2⟩
theorem MD(d:Nat)(a:Option Addr)(cap:Nat)(L:List (Cg (d+1)))(name:ByteArray)(w:World)(h:CB w (d+1) a L) :
  Calls Tryz.prog 94 #[.slice a L.length cap,.string name] w λe w'=>e= .returned (.bool ((L.map B8).any (λq=>eqs q name)))/\Below w.heap.size w w':=by
 have j:=zm;have k:=C6 (IV L name);have hB:=BW w (Obj.cells #[Value.string name] 9);have b:=K6 d w.heap.size a cap L name _ (h.kept hB) (by rw[Ac _ _ _ _ rfl];rfl);have i:=C6 hB;clear hB h
 go_enter Tryz.func94,Tryz.ntmps94
 go_wp2_with (go_at_call 126;go_in)
 refine b.mono ?_;clear b;rintro e l ⟨rfl,c⟩;have g:Hid (Below w.heap.size w l):=i.out.trans (c.mono i.out.size);clear c
 go_wp2_with fail
 go_ret;exact⟨by rw[<-k.out];rfl,g.out⟩
theorem Tryz.e63':∀args w,(callFunc 63 args).run Tryz.prog w= .ok (.enter 63 args) w:=AN Tryz.func63 (by kernel_rfl) rfl
theorem Mr(a n1 c1 n2 c2 b c3:Nat)(c d g:Option Addr)(name s:ByteArray)(w:World)(h:w.cell? ⟨a,0,none⟩=some (.string name)) :
  Calls Tryz.prog 63 #[.agg #[.string s,.slice c n1 c1,.slice d n2 c2,.slice g b c3],.pointer (some ⟨a,0,none⟩)] w λe w'=>e= .returned (.bool (eqs s name))/\Below w.heap.size w w':=by
 have i:=An h
 go_enter Tryz.func63,Tryz.ntmps63
 go_wp2
 go_ret;exact⟨by rw[<-CT];rfl,BW w _⟩
theorem OX(s:Nat)(a:Option Addr)(n cap:Nat)(P:Nat->LPart)(name:ByteArray)(w:World)(u:EX w a n P)(y:w.cell? ⟨s,0,none⟩=some (.string name)) :
  Calls Tryz.prog 62 #[.slice a n cap,.func (.func 63) #[] #[.pointer (some ⟨s,0,none⟩)]] w λe w'=>e= .returned (.int .i64 (Ca n P name))/\Below w.heap.size w w':=by
 have hn:n<=9223372036854775807:=u.1;have z:=C6 u;have F:=Tryz.e63';clear u
 go_enter Tryz.func62,Tryz.ntmps62
 go_wp2_with fail
 go_loopw [8] (λi wr => ∃k:Nat,k<=n/\i= .int .i64 k/\Hid (∀j,j<k->eqs (P j).name name=false)/\Below w.heap.size w wr) (λi _=>n - (intOf i).toNat)
 case atStart=>exact⟨0,Ai _,rfl,(λj r=>absurd r (Ak _)),Aq _ _⟩
 case round =>
  obtain⟨k,hk,rfl,hb,g⟩:=hrel
  by_cases l:k<n
  ·obtain⟨b,o,ha,A,k1,B,C,-⟩:=(z.out.kept g).2 k l
   subst ha;have x:(k:Int)<(n:Int):=by omega
   have D:(0:Int)<=(k:Int):=by omega
   have m:=Mr s (P k).nf (P k).fcap (P k).no (P k).ocap (P k).nh (P k).hcap (P k).fa (P k).oa (P k).ha name (P k).name wr (BR g y)
   go_wp2_with fail
   refine m.mono ?_;clear m;rintro e E ⟨rfl,p⟩;have q:Below w.heap.size w E:=g.trans (p.mono g.size);clear p A k1 B C
   cases d:eqs (P k).name name with
   |true =>
    have c:Hid (Ca n P name=(k:Int)):=DD l d hb;clear d
    go_wp2_with fail
    go_ret;exact⟨by rw[c.out];rfl,q⟩
   |false =>
    have v:Hid (∀j,j<k+1->eqs (P j).name name=false):=λj r=>by
     rcases Nat.lt_succ_iff_lt_or_eq.1 r with h|h
     ·exact hb j h
     ·rw[h];exact d
    clear d
    go_wp2_with fail
    go_roundw
    case rel=>exact⟨k+1,by omega,by go_num,v,q⟩
    case measure=>simp[intOf];omega
  ·have c:Hid (Ca n P name = -1):=Em (λj r=>hb j (by omega))
   go_wp2_with fail
   go_ret;exact⟨by rw[c.out];rfl,g⟩
theorem Oo(a:Option Addr)(n cap:Nat)(P:Nat->LPart)(name:ByteArray)(w:World)(g:EX w a n P) :
  Calls Tryz.prog 34 #[.slice a n cap,.string name] w λe w'=>e= .returned (.int .i64 (Ca n P name))/\Below w.heap.size w w':=by
 have i:=zm;have hB:=BW w (Obj.cells #[Value.string name] 9);have b:=OX w.heap.size a n cap P name _ (g.kept hB) (by rw[Ac _ _ _ _ rfl];rfl);have h:=C6 hB;clear hB g
 go_enter Tryz.func34,Tryz.ntmps34
 go_wp2_with fail
 refine b.mono ?_;clear b;rintro e j ⟨rfl,c⟩;have d:Hid (Below w.heap.size w j):=h.out.trans (c.mono h.out.size);clear c
 go_wp2_with fail
 go_ret;exact⟨rfl,d.out⟩
end Go.Proofs.YtjjggefmmeminabGreat
