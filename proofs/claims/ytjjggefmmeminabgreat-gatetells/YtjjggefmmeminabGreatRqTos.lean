import Derived.Deep.CutBlock
import Derived.Test.YtjjggefmmeminabGreatJGk
import Derived.Deep.CutRange
set_option maxRecDepth 100000
set_option maxHeartbeats 80000000
namespace Go.Proofs.YtjjggefmmeminabGreat
open Go.RowKit Go.Sort Go.PlainAid
def MY (h:Bool) (l:List ByteArray) (x:ByteArray) (k:Nat):Bool:=h||(l.take k).any (λy=>eqs y x)
theorem LZ(h:Bool)(l:List ByteArray)(x:ByteArray):MY h l x 0=h:=by simp[MY]
theorem LC{h:Bool}{l:List ByteArray}{x:ByteArray}{k:Nat}(hk:k<l.length):MY h l x (k+1)=(MY h l x k||eqs (CH l k) x):=by
 have e:CH l k=l[k]:=by simp[CH,List.getD,hk]
 unfold MY;rw[AS hk,List.any_append,e,Bool.or_assoc];simp
theorem Ny(h:Bool)(l:List ByteArray)(x:ByteArray):MY h l x l.length=(h||l.any (λy=>eqs y x)):=by unfold MY;rw[Br]
theorem PA{Q:Exit->Act->World->Prop}{fa:Option Addr}{fc:Nat}{l:List ByteArray}{x:ByteArray}{C:World}{bo:Nat}(HT:Hid (DX C fa l))(cW:Hid (C.cell? ⟨bo,2,none⟩=some (.string x))){v0 v1 v2 v3 v4 v5 v6 v7 v8 v9 bI bJ bK bL bM bN bO bP cX bQ bR bS bT bU bV bW bX bY bZ b0 b1 b2 b3 b4 b5 b6 b7 b8 b9 ca cb cc cd ce cf cg ch ci cj cl cm cn cp cq cr cs ct cu cv cw cx cy cz cA cB cC cD cE cF cG cY cZ c0 c1 c2 c3 c4 c5 c6 c7 c8 cH cI cJ cK cL cM cN cO cP cQ cR cS cT cU c d e g h j m n p q r s u w z A B D E G H I J K L M N O P R S T U V W X Y Z aa ab ac ad ae af ag ah ai aj ak al am an ao ap aq ar zzq au av aw ax ay az aA aB aC aD aE aF aG aH aI aJ aK aL aM aN aO aP aQ aR aS aT aU aV aW aX aY aZ a0 a1 a2 a3 a4 a5 a6 a7 a8 a9 ba bb bc bd be bf bg bh bi bj bk bl bm bn bp bq br bs bt bu bv bw bx bz bA bB bC bD bE bF bG bH:Value}(a:Hid (∀(c9 da db dc dd de df dg dh di dj dk dl:Value),Q .normal ⟨#[v0,v1,v2,v3,v4,v5,v6,v7,v8,v9,bI,bJ,bK,bL,bM,bN,bO,.pointer (some ⟨bo,0,none⟩),.bool (false||l.any (λy=>eqs y x)),bP,c9,bQ,bR,bS,bT,bU,bV,bW,bX,bY,bZ,b0,b1,b2,b3,b4,b5,b6,b7,b8,b9,ca,cb,cc,cd,ce,cf,cg,ch,ci,cj,cl,cm,cn,cp,cq,cr,cs,ct,cu,cv,cw,cx,cy,cz,cA,cB,cC,cD,cE,cF,cG,.slice fa l.length fc,.int .i64 (l.length:Int),da,db,dc,dd,de,df,dg,dh,di,dj,dk,dl,cH,cI,cJ,cK,cL,cM,cN,cO,cP,cQ,cR,cS,cT,cU,c,d,e,g,h,j,m,n,p,q,r,s,u,w,z,A,B,D,E,G,H,I,J,K,L,M,N,O,P,R,S,T,U,V,W,X,Y,Z,aa,ab,ac,ad,ae,af,ag,ah,ai,aj,ak,al,am,an,ao,ap,aq,ar,zzq,au,av,aw,ax,ay,az,aA,aB,aC,aD,aE,aF,aG,aH,aI,aJ,aK,aL,aM,aN,aO,aP,aQ,aR,aS,aT,aU,aV,aW,aX,aY,aZ,a0,a1,a2,a3,a4,a5,a6,a7,a8,a9,ba,bb,bc,bd,be,bf,bg,bh,bi,bj,bk,bl,bm,bn,bp,bq,br,bs,bt,bu,bv,bw,bx,bz,bA,bB,bC,bD,bE,bF,bG,bH],[]⟩ C)) :
  Code.wp Tryz.prog (GA Tryz.f24 (DW 4)) Q ⟨#[v0,v1,v2,v3,v4,v5,v6,v7,v8,v9,bI,bJ,bK,bL,bM,bN,bO,.pointer (some ⟨bo,0,none⟩),.bool false,bP,cX,bQ,bR,bS,bT,bU,bV,bW,bX,bY,bZ,b0,b1,b2,b3,b4,b5,b6,b7,b8,b9,ca,cb,cc,cd,ce,cf,cg,ch,ci,cj,cl,cm,cn,cp,cq,cr,cs,ct,cu,cv,cw,cx,cy,cz,cA,cB,cC,cD,cE,cF,cG,.slice fa l.length fc,.int .i64 (l.length:Int),.int .i64 0,cY,cZ,c0,c1,c2,c3,c4,c5,c6,c7,c8,cH,cI,cJ,cK,cL,cM,cN,cO,cP,cQ,cR,cS,cT,cU,c,d,e,g,h,j,m,n,p,q,r,s,u,w,z,A,B,D,E,G,H,I,J,K,L,M,N,O,P,R,S,T,U,V,W,X,Y,Z,aa,ab,ac,ad,ae,af,ag,ah,ai,aj,ak,al,am,an,ao,ap,aq,ar,zzq,au,av,aw,ax,ay,az,aA,aB,aC,aD,aE,aF,aG,aH,aI,aJ,aK,aL,aM,aN,aO,aP,aQ,aR,aS,aT,aU,aV,aW,aX,aY,aZ,a0,a1,a2,a3,a4,a5,a6,a7,a8,a9,ba,bb,bc,bd,be,bf,bg,bh,bi,bj,bk,bl,bm,bn,bp,bq,br,bs,bt,bu,bv,bw,bx,bz,bA,bB,bC,bD,bE,bF,bG,bH],[]⟩ C:=by
 refine Iu ?_
 conv=>arg 2;whnf
 dsimp only;have hl:l.length<=9223372036854775807:=HT.out.1;rw[<-Ny]at a;obtain⟨F,hF⟩:∃F,F=MY false l x:=⟨_,rfl⟩;have HS:Hid (∀k,k<l.length->F (k+1)=(F k||eqs (CH l k) x)):=Aa λk hk=>by rw[hF];exact LC hk
 have h0:F 0=false:=by rw[hF];exact LZ _ _ _
 rw[<-hF]at a;clear hF
 go_wp2_with fail
 go_loopw [18,74] (λv i wr => ∃k:Nat,k<=l.length/\i= .int .i64 k/\v= .bool (F k)/\wr=C) (λ_ i _=>l.length - (intOf i).toNat)
 case atStart=>exact⟨0,Ai _,rfl,by rw[h0],rfl⟩
 case round =>
  obtain⟨k,hk,rfl,rfl,rfl⟩:=hrel
  by_cases cV:k<l.length
  ·obtain⟨b,o,rfl,ck,-⟩:=HT.out.2 k cV
   have hlt':(k:Int)<(l.length:Int):=by omega
   have hk0:(0:Int)<=(k:Int):=by omega
   have hs:=HS.out k cV;have co:=cW.out
   cases hf:F k with
   |true =>
    have HN:Hid (F (k+1)=true):=Aa (by rw[hs,hf];rfl);clear hs hf
    go_wp2_with fail
    go_roundw
    case rel=>exact⟨k+1,by omega,by go_num,by rw[HN.out],AM⟩
    case measure=>simp[intOf];omega
   |false =>
    have HN:Hid (F (k+1)=((CH l k).toList==x.toList)):=Aa (by rw[hs,hf,CT];rfl);clear hs hf
    go_wp2_with fail
    go_roundw
    case rel=>exact⟨k+1,by omega,by go_num,by rw[HN.out],AM⟩
    case measure=>simp[intOf];omega
  ·have hkn:k=l.length:=by omega
   subst hkn
   go_wp2_with fail
   exact a.out _ _ _ _ _ _ _ _ _ _ _ _ _
theorem Ot{Q:Exit->Act->World->Prop}{fa:Option Addr}{fc:Nat}{l:List ByteArray}{x:ByteArray}{C:World}{h:Bool}(HT:Hid (DX C fa l)){v0 v1 v2 v3 v4 v5 v6 v7 v8 v9 bu bv bw bx bz bA bB bC bD bE bF bG bH bI bJ bK bL bM bN bO bP bQ bR dh bS bT bU bV bW bX bY bZ b0 b1 b2 b3 b4 b5 b6 b7 b8 b9 ca cb cc cd ce cf cg ch ci cj cl cm cn co cp cq cr cs ct cu cv cw cx cy cz cA cB cC cD cE cF cG cH cI cJ cK cL cM cN cO cP cQ cR cS cT cU c d e g j m n p q r s u w z A B D E G H I J K L M N O P R S T U V W X Y Z aa ab ac ad ae af ag ah ai aj ak al am an ao ap aq ar zzq au av aw ax ay az aA aB aC aD aE aF aG aH aI aJ aK aL aM aN aO aP aQ aR aS aT aU aV aW cV cW cX cY cZ c0 c1 c2 c3 c4 aX aY aZ a0 a1 a2 a3 a4 a5 a6 a7 a8 a9 ba bb bc bd be bf bg bh bi bj bk bl bm bn bo bp bq br bs bt:Value}(a:Hid (∀(di c5 c6 c7 c8 c9 da db dc dd de df:Value),Q .normal ⟨#[v0,v1,v2,v3,v4,v5,v6,v7,v8,v9,bu,bv,bw,bx,bz,bA,bB,bC,bD,bE,bF,bG,bH,bI,bJ,bK,bL,bM,bN,bO,bP,bQ,.string x,.bool (h||l.any (λy=>eqs y x)),bR,di,bS,bT,bU,bV,bW,bX,bY,bZ,b0,b1,b2,b3,b4,b5,b6,b7,b8,b9,ca,cb,cc,cd,ce,cf,cg,ch,ci,cj,cl,cm,cn,co,cp,cq,cr,cs,ct,cu,cv,cw,cx,cy,cz,cA,cB,cC,cD,cE,cF,cG,cH,cI,cJ,cK,cL,cM,cN,cO,cP,cQ,cR,cS,cT,cU,c,d,e,g,j,m,n,p,q,r,s,u,w,z,A,B,D,E,G,H,I,J,K,L,M,N,O,P,R,S,T,U,V,W,X,Y,Z,aa,ab,ac,ad,ae,af,ag,ah,ai,aj,ak,al,am,an,ao,ap,aq,ar,zzq,au,av,aw,ax,ay,az,aA,aB,aC,aD,aE,aF,aG,aH,aI,aJ,aK,aL,aM,aN,aO,aP,aQ,aR,aS,aT,aU,aV,aW,.slice fa l.length fc,.int .i64 (l.length:Int),c5,c6,c7,c8,c9,da,db,dc,dd,de,df,aX,aY,aZ,a0,a1,a2,a3,a4,a5,a6,a7,a8,a9,ba,bb,bc,bd,be,bf,bg,bh,bi,bj,bk,bl,bm,bn,bo,bp,bq,br,bs,bt],[]⟩ C)) :
  Code.wp Tryz.prog (GA Tryz.f24 (DW 14)) Q ⟨#[v0,v1,v2,v3,v4,v5,v6,v7,v8,v9,bu,bv,bw,bx,bz,bA,bB,bC,bD,bE,bF,bG,bH,bI,bJ,bK,bL,bM,bN,bO,bP,bQ,.string x,.bool h,bR,dh,bS,bT,bU,bV,bW,bX,bY,bZ,b0,b1,b2,b3,b4,b5,b6,b7,b8,b9,ca,cb,cc,cd,ce,cf,cg,ch,ci,cj,cl,cm,cn,co,cp,cq,cr,cs,ct,cu,cv,cw,cx,cy,cz,cA,cB,cC,cD,cE,cF,cG,cH,cI,cJ,cK,cL,cM,cN,cO,cP,cQ,cR,cS,cT,cU,c,d,e,g,j,m,n,p,q,r,s,u,w,z,A,B,D,E,G,H,I,J,K,L,M,N,O,P,R,S,T,U,V,W,X,Y,Z,aa,ab,ac,ad,ae,af,ag,ah,ai,aj,ak,al,am,an,ao,ap,aq,ar,zzq,au,av,aw,ax,ay,az,aA,aB,aC,aD,aE,aF,aG,aH,aI,aJ,aK,aL,aM,aN,aO,aP,aQ,aR,aS,aT,aU,aV,aW,.slice fa l.length fc,.int .i64 (l.length:Int),.int .i64 0,cV,cW,cX,cY,cZ,c0,c1,c2,c3,c4,aX,aY,aZ,a0,a1,a2,a3,a4,a5,a6,a7,a8,a9,ba,bb,bc,bd,be,bf,bg,bh,bi,bj,bk,bl,bm,bn,bo,bp,bq,br,bs,bt],[]⟩ C:=by
 refine Iu ?_
 conv=>arg 2;whnf
 dsimp only;have hl:l.length<=9223372036854775807:=HT.out.1;rw[<-Ny]at a;obtain⟨F,hF⟩:∃F,F=MY h l x:=⟨_,rfl⟩;have HS:Hid (∀k,k<l.length->F (k+1)=(F k||eqs (CH l k) x)):=Aa λk hk=>by rw[hF];exact LC hk
 have h0:F 0=h:=by rw[hF];exact LZ _ _ _
 rw[<-hF]at a;clear hF
 go_wp2_with fail
 go_loopw [33,187] (λv i wr => ∃k:Nat,k<=l.length/\i= .int .i64 k/\v= .bool (F k)/\wr=C) (λ_ i _=>l.length - (intOf i).toNat)
 case atStart=>exact⟨0,Ai _,rfl,by rw[h0],rfl⟩
 case round =>
  obtain⟨k,hk,rfl,rfl,rfl⟩:=hrel
  by_cases dg:k<l.length
  ·obtain⟨b,o,rfl,ck,-⟩:=HT.out.2 k dg
   have hlt':(k:Int)<(l.length:Int):=by omega
   have hk0:(0:Int)<=(k:Int):=by omega
   have hs:=HS.out k dg
   cases hf:F k with
   |true =>
    have HN:Hid (F (k+1)=true):=Aa (by rw[hs,hf];rfl);clear hs hf
    go_wp2_with fail
    go_roundw
    case rel=>exact⟨k+1,by omega,by go_num,by rw[HN.out],AM⟩
    case measure=>simp[intOf];omega
   |false =>
    have HN:Hid (F (k+1)=((CH l k).toList==x.toList)):=Aa (by rw[hs,hf,CT];rfl);clear hs hf
    go_wp2_with fail
    go_roundw
    case rel=>exact⟨k+1,by omega,by go_num,by rw[HN.out],AM⟩
    case measure=>simp[intOf];omega
  ·have hkn:k=l.length:=by omega
   subst hkn
   go_wp2_with fail
   exact a.out _ _ _ _ _ _ _ _ _ _ _ _
structure SK (base:Nat) (w w':World):Prop where
 below:Below base w w'
 keep:∀(b:Nat) (cs:Array Value) (t:TypeId),w.heap[b]? = some (.cells cs t (0,0))->t≠9->w'.heap[b]? = some (.cells cs t (0,0))
theorem SK.refl(base:Nat)(w:World):SK base w w:=⟨Aq _ _,λ_ _ _ h _=>h⟩
theorem SK.trans{base:Nat}{w a c:World}(h:SK base w a)(d:SK base a c):SK base w c:=⟨h.below.trans d.below,λb e t hb g=>d.keep b e t (h.keep b e t hb g) g⟩
theorem SK.of{base:Nat}{w w':World}(hb:base<=w.heap.size)(h:Below w.heap.size w w'):SK base w w':=⟨h.mono hb,λb _ _ ho _=>(h.block b (Ag ho)).trans ho⟩
theorem SK.grown{base:Nat}{w w':World}{v:Value}{l:List ByteArray}(hb:base<=w.heap.size)(a:Df w base v l)(hg:w.grownBy w' v.ownBlock):SK base w w':=⟨(Aq _ _).grown hg hb (λk hk=>(B9.lt a hk).1),λb g t ho d=>by
 refine(hg.block b (Ag ho) (λe=>?_)).trans ho;obtain⟨cs',c⟩:=B9.obj a e.symm;rw[ho]at c;cases c;exact d rfl⟩
theorem KJ{l:List ByteArray}{x:ByteArray}(h:l.any (λy=>eqs y x)=true):CP l x=l:=by unfold CP;rw[Af h]
theorem J6{l:List ByteArray}{x:ByteArray}(h:l.any (λy=>eqs y x)=false):CP l x=l++[x]:=by unfold CP;rw[Ae (by rw[h];decide)]
theorem P1(l:List ByteArray)(x:ByteArray):(CP l x).length<=l.length+1:=by
 unfold CP;split
 ·omega
 ·simp
theorem G1:∀(m l:List ByteArray),(m.foldl CP l).length<=l.length+m.length
 | [],l=>by simp
 | x :: m,l=>by
  rw[By,AP];have h1:=G1 m (CP l x);have h2:=P1 l x;omega
def PH (e:Bool) (l:List ByteArray) (K:Nat->ByteArray) (k:Nat):List ByteArray:=if e=true then ((List.range k).map K).foldl CP l else l
theorem Tp(e:Bool)(l:List ByteArray)(K:Nat->ByteArray):PH e l K 0=l:=by cases e<;>rfl
theorem T1(l:List ByteArray)(K:Nat->ByteArray)(k:Nat):PH true l K (k+1)=CP (PH true l K k) (K k):=by
 unfold PH;rw[Af rfl,Af rfl,AA,AH,Bs];rfl
theorem PU(l:List ByteArray)(K:Nat->ByteArray)(k:Nat):PH false l K k=l:=rfl
theorem TD(e:Bool)(l:List ByteArray)(K:Nat->ByteArray)(k:Nat):(PH e l K k).length<=l.length+(if e=true then k else 0):=by
 cases e with
 |false=>exact Nat.le_add_right ..
 |true =>
  have:=G1 ((List.range k).map K) l;simp at this;exact this
theorem TX{e:Bool}{l:List ByteArray}{K:Nat->ByteArray}{k:Nat}{x:ByteArray}(h:x∈PH e l K k):x∈l\/∃j,j<k/\K j=x:=by
 cases e with
 |false=>exact .inl h
 |true =>
  unfold PH at h;rw[Af rfl,Gf]at h;rcases h with h|h
  ·exact .inl h
  ·obtain⟨j,a,rfl⟩:=List.mem_map.1 h
   exact .inr ⟨j,by simpa using a,rfl⟩
theorem Rj{Q:Exit->Act->World->Prop}{bo bv base nk kc nc:Nat}{ka na:Option Addr}{K:Nat->ByteArray}{l:List ByteArray}{vf fl:ByteArray}{vo vv:Array Value}{w0 C:World}(bz:Hid (CF w0 ka nk K))(HB:Hid (Below w0.heap.size w0 C))(hb0:w0.heap.size<=base)(hbC:base<=C.heap.size)(HCV:Hid (C.heap[bv]? = some (.cells vv 120 (0,0))/\vv[0]? = some (.string vf)))(HCO:Hid (C.heap[bo]? = some (.cells vo 92 (0,0))/\vo[2]? = some (.string fl)))(HR:Hid (Df C base (.slice na l.length nc) l))(HSl:Hid (∀x,x∈l->BY x))(hl:l.length+(if eqs vf fl=true then nk else 0)<=100000){v0 v1 v2 v3 v4 v5 v6 v7 v8 v9 v10 v11 v12 v13 v14 v15 v16 v17 v18 v19 v20 v21 v22 v23 v26 v27 v28 v29 v31 v32 v33 v34 v35 v36 v37 v38 v39 v40 v41 v42 v43 v44 v45 v46 v47 v48 v49 v50 v51 v52 v53 v54 v55 v56 v57 v58 v59 v60 v61 v62 v63 v64 v65 v66 v67 v68 v69 v70 v71 v72 v73 v74 v75 v76 v77 v78 v79 v80 v81 v82 v83 v84 v85 v86 v87 v88 v89 v90 v91 v92 v93 v94 v95 v96 v97 v98 v99 D E G H I J L M N O P R S T U V W X Y Z aa ab ac ad ae af ag ah ai aj ak al am an ao ap aq ar zzq au av aw ax ay az aA aB aC aD aE aF aG aH aI aJ aK aL aM aN aO aP aQ aR aS aT aU aV aW aX aY aZ a0 a1 a3 v177 v178 v179 v180 v181 v182 v183 v184 v185 v186 v187 v188 v189 v190 v191 v192 v193 v194 v195 v196 v197 v198 v199 v200 v201 v202 v203 v204 a4 a5 a6 a7 a8 a9 ba bb bc bd be bf bg bh bi bj bk bl bm bn bp bq br bs bt bu:Value}(bw:Hid (∀(u32 u33 bA u176 u177 u178 u179 u180 u181 u182 u183 u184 u185 u186 d g m n o p q r s w z u198 u199 u200 u201 u202 u203 u204:Value) (w':World) (na':Option Addr) (nc':Nat),Df w' base (.slice na' (PH (eqs vf fl) l K nk).length nc') (PH (eqs vf fl) l K nk)->SK base C w'->Q .normal ⟨#[v0,v1,v2,v3,v4,v5,v6,v7,v8,v9,v10,v11,v12,v13,v14,v15,v16,v17,v18,v19,v20,v21,v22,v23,.pointer (some ⟨bo,0,none⟩),.slice na' (PH (eqs vf fl) l K nk).length nc',v26,v27,v28,v29,.pointer (some ⟨bv,0,none⟩),v31,u32,u33,v34,bA,v36,v37,v38,v39,v40,v41,v42,v43,v44,v45,v46,v47,v48,v49,v50,v51,v52,v53,v54,v55,v56,v57,v58,v59,v60,v61,v62,v63,v64,v65,v66,v67,v68,v69,v70,v71,v72,v73,v74,v75,v76,v77,v78,v79,v80,v81,v82,v83,v84,v85,v86,v87,v88,v89,v90,v91,v92,v93,v94,v95,v96,v97,v98,v99,D,E,G,H,I,J,L,M,N,O,P,R,S,T,U,V,W,X,Y,Z,aa,ab,ac,ad,ae,af,ag,ah,ai,aj,ak,al,am,an,ao,ap,aq,ar,zzq,au,av,aw,ax,ay,az,aA,aB,aC,aD,aE,aF,aG,aH,aI,aJ,aK,aL,aM,aN,aO,aP,aQ,aR,aS,aT,aU,aV,aW,aX,aY,aZ,a0,a1,a3,.slice ka nk kc,.int .i64 (nk:Int),u176,u177,u178,u179,u180,u181,u182,u183,u184,u185,u186,d,g,m,n,o,p,q,r,s,w,z,u198,u199,u200,u201,u202,u203,u204,a4,a5,a6,a7,a8,a9,ba,bb,bc,bd,be,bf,bg,bh,bi,bj,bk,bl,bm,bn,bp,bq,br,bs,bt,bu],[]⟩ w')) :
  Code.wp Tryz.prog (GA Tryz.f24 (DW 12)) Q ⟨#[v0,v1,v2,v3,v4,v5,v6,v7,v8,v9,v10,v11,v12,v13,v14,v15,v16,v17,v18,v19,v20,v21,v22,v23,.pointer (some ⟨bo,0,none⟩),.slice na l.length nc,v26,v27,v28,v29,.pointer (some ⟨bv,0,none⟩),v31,v32,v33,v34,v35,v36,v37,v38,v39,v40,v41,v42,v43,v44,v45,v46,v47,v48,v49,v50,v51,v52,v53,v54,v55,v56,v57,v58,v59,v60,v61,v62,v63,v64,v65,v66,v67,v68,v69,v70,v71,v72,v73,v74,v75,v76,v77,v78,v79,v80,v81,v82,v83,v84,v85,v86,v87,v88,v89,v90,v91,v92,v93,v94,v95,v96,v97,v98,v99,D,E,G,H,I,J,L,M,N,O,P,R,S,T,U,V,W,X,Y,Z,aa,ab,ac,ad,ae,af,ag,ah,ai,aj,ak,al,am,an,ao,ap,aq,ar,zzq,au,av,aw,ax,ay,az,aA,aB,aC,aD,aE,aF,aG,aH,aI,aJ,aK,aL,aM,aN,aO,aP,aQ,aR,aS,aT,aU,aV,aW,aX,aY,aZ,a0,a1,a3,.slice ka nk kc,.int .i64 (nk:Int),.int .i64 0,v177,v178,v179,v180,v181,v182,v183,v184,v185,v186,v187,v188,v189,v190,v191,v192,v193,v194,v195,v196,v197,v198,v199,v200,v201,v202,v203,v204,a4,a5,a6,a7,a8,a9,ba,bb,bc,bd,be,bf,bg,bh,bi,bj,bk,bl,bm,bn,bp,bq,br,bs,bt,bu],[]⟩ C:=by
 refine Iu ?_
 conv=>arg 2;whnf
 dsimp only;obtain⟨i0,hi0,hz0,hz1,hz2⟩:=Cd Tryz.info9;obtain⟨F,hF⟩:∃F,F=PH (eqs vf fl) l K:=⟨_,rfl⟩;have HF:Hid (∀k,F k=PH (eqs vf fl) l K k):=Aa λk=>by rw[hF]
 rw[<-hF]at bw;have hnk:nk<=9223372036854775807:=bz.out.1;have HSF:Hid (∀k,k<=nk->∀x,x∈F k->BY x):=Aa λk hk x hx=>by
  rw[hF]at hx;rcases TX hx with h|⟨j,hj,rfl⟩
  ·exact HSl.out x h
  ·obtain⟨_,_,_,_,hs⟩:=bz.out.2 j (by omega)
   exact hs
 have HLF:Hid (∀k,k<=nk->(F k).length<=100000):=Aa λk hk=>by
  rw[hF];have:=TD (eqs vf fl) l K k
  by_cases e:eqs vf fl=true
  ·rw[Af e]at this hl;omega
  ·rw[Ae e]at this hl;omega
 clear hF hl
 go_wp2_with fail
 go_loopw [25,176] (λv i wr => ∃(k:Nat) (a:Option Addr) (c:Nat),k<=nk/\i= .int .i64 k/\v= .slice a (F k).length c/\Df wr base (.slice a (F k).length c) (F k)/\SK base C wr) (λ_ i _=>nk - (intOf i).toNat)
 case atStart =>
  have h0:F 0=l:=by rw[HF.out,Tp]
  exact⟨0,na,nc,Ai _,rfl,by rw[h0],by rw[h0];exact HR.out,SK.refl _ _⟩
 case round =>
  obtain⟨k,a,c,hk,rfl,rfl,hT,hS⟩:=hrel
  by_cases hlt:k<nk
  ·have hB0:Below w0.heap.size w0 wr:=HB.out.trans (hS.below.mono hb0)
   obtain⟨kb,ko,rfl,ck,hsk⟩:=(bz.out.kept hB0).2 k hlt;have hlt':(k:Int)<(nk:Int):=by omega
   have hk0:(0:Int)<=(k:Int):=by omega
   have hv:=hS.keep _ _ _ HCV.out.1 (by decide);have ho:=hS.keep _ _ _ HCO.out.1 (by decide);have cv:wr.cell? ⟨bv,0,none⟩=some (.string vf):=by simp[World.cell?,hv,HCV.out.2]
   have co:wr.cell? ⟨bo,2,none⟩=some (.string fl):=by simp[World.cell?,ho,HCO.out.2]
   obtain⟨a',c',hac,-,hTx⟩:=hT.at (by have:=HLF.out k hk;unfold maxLen;omega) (HSF.out k hk);cases hac;have HTx:=Aa hTx;have HT:=Aa hT;have HS:=Aa hS;have hbr:base<=wr.heap.size:=Am hbC hS.below.size;have hFl:=HLF.out k hk;clear hB0 hv ho hTx hT hS
   cases he:eqs vf fl with
   |false =>
    have bB:(vf.toList==fl.toList)=false:=by rw[CT];exact he
    have HN:Hid (F (k+1)=F k):=Aa (by rw[HF.out,HF.out,he,PU,PU]);clear he
    go_upto_block 14 with fail
    clear ck cv co bB;refine Ot (h:=true) (l:=F k) HTx (Aa ?_);intro bA d g m n o p q r s w z;rw[Bool.true_or];rename_i Kx b;refine b _ _ ?_;clear b
    go_wp2_with fail
    go_roundw
    case rel=>exact⟨k+1,a,c,by omega,by go_num,by rw[HN.out],by rw[HN.out];exact HT.out,HS.out⟩
    case measure=>simp[intOf];omega
   |true =>
    have bB:(vf.toList==fl.toList)=true:=by rw[CT];exact he
    have HN:Hid (F (k+1)=CP (F k) (K k)):=Aa (by rw[HF.out,HF.out,he,T1]);clear he
    go_upto_block 14 with fail
    clear ck cv co bB;refine Ot (h:=false) (l:=F k) HTx (Aa ?_);intro bA d g m n o p q r s w z;rw[Bool.false_or]
    cases hh:(F k).any (λy=>eqs y (K k)) with
    |true =>
     have A:Hid (F (k+1)=F k):=Aa (by rw[HN.out,KJ hh]);clear hh;rename_i Kx b;refine b _ _ ?_;clear b
     go_wp2_with fail
     go_roundw
     case rel=>exact⟨k+1,a,c,by omega,by go_num,by rw[A.out],by rw[A.out];exact HT.out,HS.out⟩
     case measure=>simp[intOf];omega
    |false =>
     have A:Hid (F (k+1)=F k++[K k]):=Aa (by rw[HN.out,J6 hh]);clear hh;rename_i Kx b;refine b _ _ ?_;clear b;have bC:=Aa (HT.out.kept (BW wr (Obj.cells #[.string (K k)] 9)));have bD:base<=(wr.alloc (Obj.cells #[.string (K k)] 9)).heap.size:=Am hbr (BW wr _).size
     go_wp2_with (at_builtin;refine Ck _ rfl _ _ 65 rfl base 9 i0 _ 1 16 Tryz.underlying65 hi0 hz0 hz1 hz2 rfl (by decide) _ (F k).length _ rfl bC.out (some ⟨wr.heap.size,0,none⟩) 1 1 [.string (K k)] rfl rfl (CI wr #[.string (K k)] _) (λh=>by cases h) (by intro u hu;simp at hu;rcases hu with rfl;rfl) (by unfold maxLen;omega) (by omega) bD ?_)
     intro v' w' bx hg _;have B:=Df.app (l:=F k) (x:=K k) (by rw[Bk];exact bx);have HS2:Hid (SK base C w'):=Aa (HS.out.trans ((SK.of hbr (BW wr _)).trans (SK.grown bD bC.out hg)));rw[<-A.out]at B;obtain⟨a2,c2,hv2,-⟩:=B.slice;subst hv2;have HT2:=Aa B;clear bx hg B bC bD
     go_wp2_with fail
     go_roundw
     case rel=>exact⟨k+1,a2,c2,by omega,by go_num,rfl,HT2.out,HS2.out⟩
     case measure=>simp[intOf];omega
  ·have hkn:k=nk:=by omega
   subst hkn;have HT:=Aa hT;have HS:=Aa hS;clear hT hS
   go_wp2_with fail
   exact bw.out _ _ _ _ _ _ _ _ _ _ _ _ _ _ _ _ _ _ _ _ _ _ _ _ _ _ _ _ _ _ _ _ _ a c HT.out HS.out
end Go.Proofs.YtjjggefmmeminabGreat
