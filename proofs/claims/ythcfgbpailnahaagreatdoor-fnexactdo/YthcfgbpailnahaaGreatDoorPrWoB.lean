import Derived.Test.YthcfgbpailnahaaGreatDoorPrG34
set_option maxHeartbeats 16000000
namespace Go.Proofs.YthcfgbpailnahaaGreatDoor
open Tryz
open Go.RowKit
set_option maxRecDepth 8000
set_option linter.all false
variable {w:World}
def jv(w:World)(A:Array Value)(t:TypeId)(g:Nat)(hg:g=w.heap.size):Row (w.alloc (.cells A t)) g A.toList:=by subst hg;exact ME w A t
structure Wo where
 w:Int
 ss:List ByteArray
 ws:List (Int×ByteArray)
 up:Bool
 W:Int
 S:Int
 L:Int
 T:Int
 H:Int
 F:Int
 R:Int
 U:Int
 O:Int
 rs:List (ByteArray×ByteArray)
 P:List (List (ByteArray×ByteArray))
 ts:List ByteArray
structure Wp where
 a:Option Addr
 c:Nat
 a':Option Addr
 c':Nat
 s:Option Addr
 cs:Nat
 p:Option Addr
 cp:Nat
 t:Option Addr
 ct:Nat
def MD(x:Wo)(q:Wp):Value:=.agg #[.int .i64 x.w,.slice q.a x.ss.length q.c,.slice q.a' x.ws.length q.c',.bool x.up,.int .i64 x.W,.int .i64 x.S,.int .i64 x.L,.int .i64 x.T,.int .i64 x.H,.int .i64 x.F,.int .i64 x.R,.int .i64 x.U,.int .i64 x.O,.slice q.s x.rs.length q.cs,.slice q.p x.P.length q.cp,.slice q.t x.ts.length q.ct]
structure Wo.at(x:Wo)(w:World)(q:Wp):Prop where
 h1:Strs w q.a x.ss
 h2:Wrs w q.a' x.ws
 h3:Prs w q.s x.rs
 h4:Pst w q.p x.P
 h5:Strs w q.t x.ts
def Wo.at.I{x:Wo}{w':World}{q:Wp}(h:x.at w q)(hb:Below w.heap.size w w'):x.at w' q:=⟨h.h1.I hb,h.h2.I hb,h.h3.I hb,h.h4.I hb,h.h5.I hb⟩
structure Wo.le(x:Wo)(m:Nat):Prop where
 l1:x.ss.length<=m
 s1:∀s∈x.ss,s.size<=m
 l2:x.ws.length<=m
 s2:∀s∈x.ws,s.2.size<=m
 l3:x.rs.length<=m
 s3:∀s∈x.rs,s.1.size<=m/\s.2.size<=m
 l4:x.P.length<=m
 s4:∀rs∈x.P,rs.length<=m/\∀s∈rs,s.1.size<=m/\s.2.size<=m
 l5:x.ts.length<=m
 s5:∀s∈x.ts,s.size<=m
def QV(x:Wo):List Nat:=VF x.ss x.ws++(PT x.rs++((x.P.length::x.P.flatMap PT)++(x.ts.length::x.ts.map ByteArray.size)))
def Bm(x:Wo)(h:0<=LO (QV x) 1048576):x.le 1048576:=by
 have hm:=ku (QV x) 1048576 (by omega) h
 have m:∀n:Nat,n∈QV x->n<=1048576:=λn hn=>by have:=hm n hn;omega
 refine⟨m _ ?_,λs hs=>m _ ?_,m _ ?_,λs hs=>m _ ?_,m _ ?_,λs hs=>⟨m _ ?_,m _ ?_⟩,m _ ?_,λrs hr=>⟨m _ ?_,λs hs=>⟨m _ ?_,m _ ?_⟩⟩,m _ ?_,λs hs=>m _ ?_⟩<;>unfold QV
 ·exact List.mem_append_left _ (by simp[VF])
 ·exact List.mem_append_left _ (by simp only[VF,BP,DK,CE];exact .inl (.inr ⟨s,hs,rfl⟩))
 ·exact List.mem_append_left _ (by simp[VF])
 ·exact List.mem_append_left _ (by simp only[VF,BP,DK,CE];exact .inr (.inr ⟨s,hs,rfl⟩))
 ·exact List.mem_append_right _ (List.mem_append_left _ (by simp[PT]))
 ·exact List.mem_append_right _ (List.mem_append_left _ (BQ _ (EE.2 ⟨s,hs,by simp[OV]⟩)))
 ·exact List.mem_append_right _ (List.mem_append_left _ (BQ _ (EE.2 ⟨s,hs,by simp[OV]⟩)))
 ·exact List.mem_append_right _ (List.mem_append_right _ (List.mem_append_left _ (by simp)))
 ·exact List.mem_append_right _ (List.mem_append_right _ (List.mem_append_left _ (BQ _ (EE.2 ⟨rs,hr,by simp[PT]⟩))))
 ·exact List.mem_append_right _ (List.mem_append_right _ (List.mem_append_left _ (BQ _ (EE.2 ⟨rs,hr,BQ _ (EE.2 ⟨s,hs,by simp[OV]⟩)⟩))))
 ·exact List.mem_append_right _ (List.mem_append_right _ (List.mem_append_left _ (BQ _ (EE.2 ⟨rs,hr,BQ _ (EE.2 ⟨s,hs,by simp[OV]⟩)⟩))))
 ·exact List.mem_append_right _ (List.mem_append_right _ (List.mem_append_right _ (by simp)))
 exact List.mem_append_right _ (List.mem_append_right _ (List.mem_append_right _ (BQ _ (CE.2 ⟨s,hs,rfl⟩))))
def OwnP.other{g k:Nat}{P:List (List (ByteArray×ByteArray))}{gs:Nat->Nat}(h:OwnP w g P gs k)(p:Addr)(hp:p.block<g)(v:Value):OwnP (w.setCell p v) g P gs k :=⟨h.row.other p (by omega) v,λi hi=>⟨(h.st i hi).1.other p (by have:=(h.st i hi).2;omega) v,(h.st i hi).2⟩,h.asc⟩
def vF(x:Wo)(q:Wp)(w:World)(h:x.at w q)(hm:x.le maxLen):Calls prog 4 #[MD x q,.int .i64 1048576] w λe w'=>e=.returned (.int .i64 (LO (QV x) 1048576))/\Below w.heap.size w w':=by
 unfold MD;have hE:Below w.heap.size w w:=AB _ _;obtain⟨R1,aB⟩:∃R,Hid (R=LO (VF x.ss x.ws) 1048576):=⟨_,LE rfl⟩;obtain⟨R2,aC⟩:∃R,Hid (R=LO (PT x.rs) R1):=⟨_,LE rfl⟩;obtain⟨R3,aD⟩:∃R,Hid (R=LO (x.P.length::x.P.flatMap PT) R2):=⟨_,LE rfl⟩;obtain⟨R4,aF⟩:∃R,Hid (R=LO (x.ts.length::x.ts.map ByteArray.size) R3):=⟨_,LE rfl⟩
 have aH:Hid (R1<0->LO (QV x) 1048576=-1):=λhc=>by unfold QV;exact VY _ _ _ (by omega) (by rw[<-aB.o];exact hc)
 have aI:Hid (0<=R1->R2<0->LO (QV x) 1048576=-1):=λh1 hc=>by unfold QV;rw[UD _ _ _ (by omega) (by rw[<-aB.o];exact h1),<-aB.o];exact VY _ _ _ h1 (by rw[<-aC.o];exact hc)
 have aJ:Hid (0<=R1->0<=R2->R3<0->LO (QV x) 1048576=-1):=λh1 h2 hc=>by unfold QV;rw[UD _ _ _ (by omega) (by rw[<-aB.o];exact h1),<-aB.o,UD _ _ _ h1 (by rw[<-aC.o];exact h2),<-aC.o];exact VY _ _ _ h2 (by rw[<-aD.o];exact hc)
 have aG:Hid (0<=R1->0<=R2->0<=R3->LO (QV x) 1048576=R4):=λh1 h2 h3=>by unfold QV;rw[UD _ _ _ (by omega) (by rw[<-aB.o];exact h1),<-aB.o,UD _ _ _ h1 (by rw[<-aC.o];exact h2),<-aC.o,UD _ _ _ h2 (by rw[<-aD.o];exact h3),<-aD.o,aF.o]
 have b1:=RV (VF x.ss x.ws) 1048576 (by omega);rw[<-aB.o]at b1;have C1:=LE (λw h h'=>Fu q.a x.ss q.c q.a' x.ws q.c' w h h' hm.l1 hm.s1 hm.l2 hm.s2);rw[<-aB.o]at C1;go_enter func4,ntmps4;go_wp2_with fail;generalize aE:w.alloc _=v1;obtain⟨hb,aQ,bA⟩:=LJ aE;clear aE;replace hE:=hE.j (hb.i hE.size);clear hb;refine(C1.o _ (h.h1.I hE) (h.h2.I hE)).i ?_;rintro e v2 ⟨rfl,hb⟩;have aN:v1.heap.size<=v2.heap.size:=hb.size;replace bA:=bA.I hb;replace hE:=hE.j (hb.i hE.size);clear hb
 by_cases c1:R1<0
 ·obtain rfl:R1=-1:=by omega
  go_wp2;go_ret;exact⟨MU (aH.o c1).symm,hE⟩
 have p1:0<=R1:=by omega
 have aK:R1<=1048576:=by omega
 clear b1;have b2:=RV (PT x.rs) R1 p1;rw[<-aC.o]at b2;have C2:=LE (λw h=>Ct x.W x.S x.L x.T x.H x.F x.R x.U x.O q.s x.rs q.cs w h R1 p1 aK hm.l3 hm.s3);unfold LV at C2;have e2:LO (x.rs.length::x.rs.flatMap OV) R1=R2:=aC.o.symm;rw[e2]at C2;clear e2;have aA:=c16 bA.l;go_wp2_with fail;clear aA;refine(C2.o _ (h.h3.I hE)).i ?_;rintro e v3 ⟨rfl,hb⟩;have aO:v2.heap.size<=v3.heap.size:=hb.size;replace bA:=bA.I hb;replace hE:=hE.j (hb.i hE.size);clear hb
 by_cases c2:R2<0
 ·obtain rfl:R2=-1:=by omega
  go_wp2;go_ret;exact⟨MU (aI.o p1 c2).symm,hE⟩
 have p2:0<=R2:=by omega
 have aL:R2<=1048576:=by omega
 clear b2;have b3:=RV (x.P.length::x.P.flatMap PT) R2 p2;rw[<-aD.o]at b3;have C3:=LE (λw h=>F6 q.p x.P q.cp R2 w h p2 aL hm.l4 hm.s4);rw[<-aD.o]at C3;have aA:=c16 bA.l;go_wp2_with fail;clear aA;refine(C3.o _ (h.h4.I hE)).i ?_;rintro e v4 ⟨rfl,hb⟩;have aP:v3.heap.size<=v4.heap.size:=hb.size;replace bA:=bA.I hb;replace hE:=hE.j (hb.i hE.size);clear hb
 by_cases c3:R3<0
 ·obtain rfl:R3=-1:=by omega
  go_wp2;go_ret;exact⟨MU (aJ.o p1 p2 c3).symm,hE⟩
 have p3:0<=R3:=by omega
 have aM:R3<=1048576:=by omega
 clear b3;have b4:=RV (x.ts.length::x.ts.map ByteArray.size) R3 p3;rw[<-aF.o]at b4;have C4:=LE (λw h=>ri q.t x.ts q.ct R3 w h p3 aM hm.l5 hm.s5);rw[<-aF.o]at C4;have aA:=c16 bA.l;go_wp2_with fail;clear aA;refine(C4.o _ (h.h5.I hE)).i ?_;rintro e v9 ⟨rfl,rfl⟩
 by_cases c4:R4<0
 ·obtain rfl:R4=-1:=by omega
  go_wp2;go_ret;exact⟨MU (aG.o p1 p2 p3).symm,hE⟩
 go_wp2;go_ret;exact⟨MU (aG.o p1 p2 p3).symm,hE⟩
structure OwnW(x:Wo)(w:World)(base g1 g2 g3 g4 g5:Nat)(gs:Nat->Nat):Prop where
 r1:Row w g1 (x.ss.map Value.string)
 r2:Row w g2 (LU x.ws)
 r3:Row w g3 (LI x.rs)
 r4:OwnP w g4 x.P gs x.P.length
 r5:Row w g5 (x.ts.map Value.string)
 b1:base<=g1
 b2:base<=g2
 n12:g1≠g2
 o13:g1<g3
 o23:g2<g3
 o34:g3<g4
 o45:g4<g5
 ogs:∀i,i<x.P.length->gs i<g5
abbrev SC(x:Wo)(g1 g2 g3 g4 g5:Nat):Wp:=⟨some ⟨g1,0,none⟩,x.ss.length,some ⟨g2,0,none⟩,x.ws.length,some ⟨g3,0,none⟩,x.rs.length,some ⟨g4,0,none⟩,x.P.length,some ⟨g5,0,none⟩,x.ts.length⟩
def OwnW.I{x:Wo}{w':World}{base g1 g2 g3 g4 g5:Nat}{gs:Nat->Nat}(h:OwnW x w base g1 g2 g3 g4 g5 gs)(hb:Below w.heap.size w w'):OwnW x w' base g1 g2 g3 g4 g5 gs :=⟨h.r1.I hb,h.r2.I hb,h.r3.I hb,h.r4.I hb,h.r5.I hb,h.b1,h.b2,h.n12,h.o13,h.o23,h.o34,h.o45,h.ogs⟩
def OwnW.at{x:Wo}{base g1 g2 g3 g4 g5:Nat}{gs:Nat->Nat}(h:OwnW x w base g1 g2 g3 g4 g5 gs):x.at w (SC x g1 g2 g3 g4 g5) :=⟨h.r1.strs,h.r2.wrs,h.r3.prs,h.r4.pst,h.r5.strs⟩
def rI{g lo:Nat}{P:List (List (ByteArray×ByteArray))}{gs:Nat->Nat}(h:OwnP w g P gs P.length)(h1:lo<=g):Dep w lo w.heap.size (λw=>OwnP w g P gs P.length) :=⟨h,AA _,λw' k1 k2=>⟨QW h.row (k1 g h1 h.row.lt) (AD h.row.lt k2),λi hi=>⟨QW (h.st i hi).1 (k1 (gs i) (by have:=(h.st i hi).2;omega) (h.st i hi).1.lt) (AD (h.st i hi).1.lt k2),(h.st i hi).2⟩,h.asc⟩⟩
def Eg(x:Wo)(q:Wp)(w:World)(h:x.at w q)(hm:x.le 1048576):Calls prog 7 #[MD x q] w λe w'=>∃g1 g2 g3 g4 g5 gs,e=.returned (MD x (SC x g1 g2 g3 g4 g5))/\OwnW x w' w.heap.size g1 g2 g3 g4 g5 gs/\Below w.heap.size w w':=by
 unfold MD;have hE:Below w.heap.size w w:=AB _ _;have C3:=LE (λw h=>Bd x.W x.S x.L x.T x.H x.F x.R x.U x.O q.s x.rs q.cs w h hm.l3);unfold LV at C3;go_enter func7,ntmps7;go_wp2_with fail;obtain⟨u0,cP⟩:∃xw,xw=(((w.alloc (.cells #[.int .i64 x.w,.slice q.a x.ss.length q.c,.slice q.a' x.ws.length q.c',.bool x.up,.int .i64 x.W,.int .i64 x.S,.int .i64 x.L,.int .i64 x.T,.int .i64 x.H,.int .i64 x.F,.int .i64 x.R,.int .i64 x.U,.int .i64 x.O,.slice q.s x.rs.length q.cs,.slice q.p x.P.length q.cp,.slice q.t x.ts.length q.ct] 35)).alloc (.cells #[.int .i64 0,.slice none 0 0,.slice none 0 0,.bool false,.int .i64 0,.int .i64 0,.int .i64 0,.int .i64 0,.int .i64 0,.int .i64 0,.int .i64 0,.int .i64 0,.int .i64 0,.slice none 0 0,.slice none 0 0,.slice none 0 0] 53)).alloc (.cells #[.int .i64 x.w,.slice none 0 0,.slice none 0 0,.bool false,.int .i64 0,.int .i64 0,.int .i64 0,.int .i64 0,.int .i64 0,.int .i64 0,.int .i64 0,.int .i64 0,.int .i64 0,.slice none 0 0,.slice none 0 0,.slice none 0 0] 53)):=⟨_,rfl⟩
 have fA:u0.heap.size=w.heap.size+1+1+1:=by rw[cP];simp
 have hb:Below w.heap.size w u0:=by rw[cP];exact((LG _ _).alloc (by simp) _).alloc (by simp;omega) _
 have eL:Row u0 w.heap.size [.int .i64 x.w,.slice q.a x.ss.length q.c,.slice q.a' x.ws.length q.c',.bool x.up,.int .i64 x.W,.int .i64 x.S,.int .i64 x.L,.int .i64 x.T,.int .i64 x.H,.int .i64 x.F,.int .i64 x.R,.int .i64 x.U,.int .i64 x.O,.slice q.s x.rs.length q.cs,.slice q.p x.P.length q.cp,.slice q.t x.ts.length q.ct]:=by rw[cP];exact((jv w #[.int .i64 x.w,.slice q.a x.ss.length q.c,.slice q.a' x.ws.length q.c',.bool x.up,.int .i64 x.W,.int .i64 x.S,.int .i64 x.L,.int .i64 x.T,.int .i64 x.H,.int .i64 x.F,.int .i64 x.R,.int .i64 x.U,.int .i64 x.O,.slice q.s x.rs.length q.cs,.slice q.p x.P.length q.cp,.slice q.t x.ts.length q.ct] 35 w.heap.size rfl).alloc _).alloc _
 have eN:Row u0 (w.heap.size+1) [.int .i64 0,.slice none 0 0,.slice none 0 0,.bool false,.int .i64 0,.int .i64 0,.int .i64 0,.int .i64 0,.int .i64 0,.int .i64 0,.int .i64 0,.int .i64 0,.int .i64 0,.slice none 0 0,.slice none 0 0,.slice none 0 0]:=by rw[cP];exact(jv _ #[.int .i64 0,.slice none 0 0,.slice none 0 0,.bool false,.int .i64 0,.int .i64 0,.int .i64 0,.int .i64 0,.int .i64 0,.int .i64 0,.int .i64 0,.int .i64 0,.int .i64 0,.slice none 0 0,.slice none 0 0,.slice none 0 0] 53 (w.heap.size+1) (by simp)).alloc _
 have eM:Row u0 (w.heap.size+1+1) [.int .i64 x.w,.slice none 0 0,.slice none 0 0,.bool false,.int .i64 0,.int .i64 0,.int .i64 0,.int .i64 0,.int .i64 0,.int .i64 0,.int .i64 0,.int .i64 0,.int .i64 0,.slice none 0 0,.slice none 0 0,.slice none 0 0]:=by rw[cP];exact jv _ #[.int .i64 x.w,.slice none 0 0,.slice none 0 0,.bool false,.int .i64 0,.int .i64 0,.int .i64 0,.int .i64 0,.int .i64 0,.int .i64 0,.int .i64 0,.int .i64 0,.int .i64 0,.slice none 0 0,.slice none 0 0,.slice none 0 0] 53 (w.heap.size+1+1) (by simp)
 have bA:Dep u0 (w.heap.size) (w.heap.size+1) (λW=>Row W (w.heap.size) [.int .i64 x.w,.slice q.a x.ss.length q.c,.slice q.a' x.ws.length q.c',.bool x.up,.int .i64 x.W,.int .i64 x.S,.int .i64 x.L,.int .i64 x.T,.int .i64 x.H,.int .i64 x.F,.int .i64 x.R,.int .i64 x.U,.int .i64 x.O,.slice q.s x.rs.length q.cs,.slice q.p x.P.length q.cp,.slice q.t x.ts.length q.ct]):=UU eL (AA _) (by omega) (by omega);have bR:Dep u0 (w.heap.size+1) (w.heap.size+1+1) (λW=>Row W (w.heap.size+1) [.int .i64 0,.slice none 0 0,.slice none 0 0,.bool false,.int .i64 0,.int .i64 0,.int .i64 0,.int .i64 0,.int .i64 0,.int .i64 0,.int .i64 0,.int .i64 0,.int .i64 0,.slice none 0 0,.slice none 0 0,.slice none 0 0]):=UU eN (AA _) (by omega) (by omega);have bO:Dep u0 (w.heap.size+1+1) (w.heap.size+1+1+1) (λW=>Row W (w.heap.size+1+1) [.int .i64 x.w,.slice none 0 0,.slice none 0 0,.bool false,.int .i64 0,.int .i64 0,.int .i64 0,.int .i64 0,.int .i64 0,.int .i64 0,.int .i64 0,.int .i64 0,.int .i64 0,.slice none 0 0,.slice none 0 0,.slice none 0 0]):=UU eM (AA _) (by omega) (by omega)
 clear eL eN eM;rw[<-cP];clear cP;replace hE:=hE.j (hb.i hE.size);clear hb;refine(uX q.a x.ss q.c q.a' x.ws q.c' _ (h.h1.I hE) (h.h2.I hE) hm.l1 hm.l2).i ?_;rintro e v2 ⟨g1,g2,rfl,eO,eP,eK,eF,eG,hb⟩;have eT:u0.heap.size<=v2.heap.size:=hb.size;replace bA:=bA.I hb;replace bR:=bR.I hb;replace bO:=bO.I hb;replace hE:=hE.j (hb.i hE.size);have d1:Dep v2 u0.heap.size v2.heap.size (λW=>Row W g1 (x.ss.map Value.string)):=UU eF eO eF.lt (AA _);have d2:Dep v2 u0.heap.size v2.heap.size (λW=>Row W g2 (LU x.ws)):=UU eG eP eG.lt (AA _);have l1:=eF.lt;have l2:=eG.lt;clear eF eG;clear hb;have b7:=c16 bA.l;obtain⟨aX,aY,aZ,bC,bE,bF,bI,bJ,bP,bQ,aG,aH,aI,aJ,aK,aL⟩:=bO.l.k16;obtain⟨aN,aO,aP,aQ,aR,aS,aT,aU,aV,aW,aA,aB,aC,aD,aE,aF⟩:=bO.l.z16;have bT:=bO.l.lt;go_wp2_with fail;clear b7 aX aN aY aO aZ aP bC aQ bE aR bF aS bI aT bJ aU bP aV bQ aW aG aA aH aB aI aC aJ aD aK aE aL aF bT
 generalize cQ:(((v2.setCell _ _).setCell _ _).setCell _ _)=v3;have bU:v2.grownBy v3 (some (w.heap.size+1+1)):=by rw[<-cQ];exact MC (MC (MC (BH _ _) _ _) _ _) _ _
 have aM:=cQ ▸ (((bO.l.set 1 (by simp) (.slice (some ⟨g1,0,none⟩) x.ss.length x.ss.length)).set 2 (by simp) (.slice (some ⟨g2,0,none⟩) x.ws.length x.ws.length)).set 3 (by simp) (.bool x.up));have eU:v2.heap.size<=v3.heap.size:=bU.size
 have bV:∀g,(some (w.heap.size+1+1):Option Nat)=some g->w.heap.size+1+1<=g/\g<w.heap.size+1+1+1:=λg hg=>by injection hg with hg;omega
 clear cQ;replace bA:=bA.z bU (λg hg=>by have:=bV g hg;omega);replace bR:=bR.z bU (λg hg=>by have:=bV g hg;omega);replace d1:=d1.z bU (λg hg=>by have:=bV g hg;omega);replace d2:=d2.z bU (λg hg=>by have:=bV g hg;omega);replace hE:=hE.j (NE bU hE.size (λg hg=>by have:=bV g hg;omega));have bW:=aM.lt;clear bO;have bO:=cd aM;clear aM bU bV bW;refine(C3.o _ (h.h3.I hE)).i ?_;rintro e v4 ⟨g3,rfl,eQ,eH,hb⟩;have eV:v3.heap.size<=v4.heap.size:=hb.size;replace bA:=bA.I hb;replace bR:=bR.I hb;replace bO:=bO.I hb;replace d1:=d1.I hb;replace d2:=d2.I hb;replace hE:=hE.j (hb.i hE.size);have d3:Dep v4 v3.heap.size v4.heap.size (λW=>Row W g3 (LI x.rs)):=UU eH eQ eH.lt (AA _);have l3:=eH.lt;clear eH;clear hb;have b7:=c16 bA.l;obtain⟨aX,aY,aZ,bC,bE,bF,bI,bJ,bP,bQ,aG,aH,aI,aJ,aK,aL⟩:=bO.l.k16;obtain⟨aN,aO,aP,aQ,aR,aS,aT,aU,aV,aW,aA,aB,aC,aD,aE,aF⟩:=bO.l.z16
 have bT:=bO.l.lt;go_wp2_with fail;clear b7 aX aN aY aO aZ aP bC aQ bE aR bF aS bI aT bJ aU bP aV bQ aW aG aA aH aB aI aC aJ aD aK aE aL aF bT;generalize cS:((((((((((v4.setCell _ _).setCell _ _).setCell _ _).setCell _ _).setCell _ _).setCell _ _).setCell _ _).setCell _ _).setCell _ _).setCell _ _)=v5;have bU:v4.grownBy v5 (some (w.heap.size+1+1)):=by rw[<-cS];exact MC (MC (MC (MC (MC (MC (MC (MC (MC (MC (BH _ _) _ _) _ _) _ _) _ _) _ _) _ _) _ _) _ _) _ _) _ _
 have aM:=cS ▸ ((((((((((bO.l.set 4 (by simp) (.int .i64 x.W)).set 5 (by simp) (.int .i64 x.S)).set 6 (by simp) (.int .i64 x.L)).set 7 (by simp) (.int .i64 x.T)).set 8 (by simp) (.int .i64 x.H)).set 9 (by simp) (.int .i64 x.F)).set 10 (by simp) (.int .i64 x.R)).set 11 (by simp) (.int .i64 x.U)).set 12 (by simp) (.int .i64 x.O)).set 13 (by simp) (.slice (some ⟨g3,0,none⟩) x.rs.length x.rs.length));have eW:v4.heap.size<=v5.heap.size:=bU.size
 have bV:∀g,(some (w.heap.size+1+1):Option Nat)=some g->w.heap.size+1+1<=g/\g<w.heap.size+1+1+1:=λg hg=>by injection hg with hg;omega
 clear cS;replace bA:=bA.z bU (λg hg=>by have:=bV g hg;omega);replace bR:=bR.z bU (λg hg=>by have:=bV g hg;omega);replace d1:=d1.z bU (λg hg=>by have:=bV g hg;omega);replace d2:=d2.z bU (λg hg=>by have:=bV g hg;omega);replace d3:=d3.z bU (λg hg=>by have:=bV g hg;omega);replace hE:=hE.j (NE bU hE.size (λg hg=>by have:=bV g hg;omega));have bW:=aM.lt;clear bO;have bO:=cd aM;clear aM bU bV bW;refine(xC q.p x.P q.cp _ (h.h4.I hE) hm.l4 (λrs hr=>(hm.s4 rs hr).1)).i ?_;rintro e v6 ⟨g4,gs,rfl,eR,eI,hb⟩;have eX:v5.heap.size<=v6.heap.size:=hb.size;replace bA:=bA.I hb;replace bR:=bR.I hb;replace bO:=bO.I hb;replace d1:=d1.I hb;replace d2:=d2.I hb;replace d3:=d3.I hb;replace hE:=hE.j (hb.i hE.size);have d4:Dep v6 v5.heap.size v6.heap.size (λW=>OwnP W g4 x.P gs x.P.length):=rI eI eR;have l4:=eI.row.lt
 have lg:Hid (∀i,i<x.P.length->gs i<v6.heap.size):=λi hi=>(eI.st i hi).1.lt
 clear eI;clear hb;have b7:=c16 bA.l;obtain⟨aX,aY,aZ,bC,bE,bF,bI,bJ,bP,bQ,aG,aH,aI,aJ,aK,aL⟩:=bO.l.k16;obtain⟨aN,aO,aP,aQ,aR,aS,aT,aU,aV,aW,aA,aB,aC,aD,aE,aF⟩:=bO.l.z16;have bT:=bO.l.lt;go_wp2_with fail;clear b7 aX aN aY aO aZ aP bC aQ bE aR bF aS bI aT bJ aU bP aV bQ aW aG aA aH aB aI aC aJ aD aK aE aL aF bT;generalize cT:(v6.setCell _ _)=v7;have bU:v6.grownBy v7 (some (w.heap.size+1+1)):=by rw[<-cT];exact MC (BH _ _) _ _
 have aM:=cT ▸ (bO.l.set 14 (by simp) (.slice (some ⟨g4,0,none⟩) x.P.length x.P.length));have eY:v6.heap.size<=v7.heap.size:=bU.size
 have bV:∀g,(some (w.heap.size+1+1):Option Nat)=some g->w.heap.size+1+1<=g/\g<w.heap.size+1+1+1:=λg hg=>by injection hg with hg;omega
 clear cT;replace bA:=bA.z bU (λg hg=>by have:=bV g hg;omega);replace bR:=bR.z bU (λg hg=>by have:=bV g hg;omega);replace d1:=d1.z bU (λg hg=>by have:=bV g hg;omega);replace d2:=d2.z bU (λg hg=>by have:=bV g hg;omega);replace d3:=d3.z bU (λg hg=>by have:=bV g hg;omega);replace d4:=d4.z bU (λg hg=>by have:=bV g hg;omega);replace hE:=hE.j (NE bU hE.size (λg hg=>by have:=bV g hg;omega));have bW:=aM.lt;clear bO;have bO:=cd aM;clear aM bU bV bW;refine(vx q.t x.ts q.ct _ (h.h5.I hE) hm.l5).i ?_;rintro e v8 ⟨g5,rfl,eS,eJ,hb⟩;have eZ:v7.heap.size<=v8.heap.size:=hb.size;replace bA:=bA.I hb;replace bR:=bR.I hb;replace bO:=bO.I hb;replace d1:=d1.I hb;replace d2:=d2.I hb;replace d3:=d3.I hb;replace d4:=d4.I hb;replace hE:=hE.j (hb.i hE.size);have d5:Dep v8 v7.heap.size v8.heap.size (λW=>Row W g5 (x.ts.map Value.string)):=UU eJ eS eJ.lt (AA _)
 have l5:=eJ.lt;clear eJ;clear hb;obtain⟨aX,aY,aZ,bC,bE,bF,bI,bJ,bP,bQ,aG,aH,aI,aJ,aK,aL⟩:=bO.l.k16;obtain⟨aN,aO,aP,aQ,aR,aS,aT,aU,aV,aW,aA,aB,aC,aD,aE,aF⟩:=bO.l.z16;have bT:=bO.l.lt;obtain⟨dM,dN,dP,dQ,dR,dU,dV,dZ,eB,eC,cI,cJ,cL,cM,cN,cO⟩:=bR.l.k16;obtain⟨cU,cV,cW,cX,cY,cZ,dB,dF,dH,dL,cA,cB,cC,cE,cF,cH⟩:=bR.l.z16;have eE:=bR.l.lt;go_wp2;clear aX aN aY aO aZ aP bC aQ bE aR bF aS bI aT bJ aU bP aV bQ aW aG aA aH aB aI aC aJ aD aK aE aL aF bT;have ne:w.heap.size+1+1≠w.heap.size+1:=by omega
 refine AJ (v:=.agg #[.int .i64 x.w,.slice (some ⟨g1,0,none⟩) x.ss.length x.ss.length,.slice (some ⟨g2,0,none⟩) x.ws.length x.ws.length,.bool x.up,.int .i64 x.W,.int .i64 x.S,.int .i64 x.L,.int .i64 x.T,.int .i64 x.H,.int .i64 x.F,.int .i64 x.R,.int .i64 x.U,.int .i64 x.O,.slice (some ⟨g3,0,none⟩) x.rs.length x.rs.length,.slice (some ⟨g4,0,none⟩) x.P.length x.P.length,.slice (some ⟨g5,0,none⟩) x.ts.length x.ts.length]) (by simp[results,results7,go_sem,dM,cU,dN,cV,dP,cW,dQ,cX,dR,cY,dU,cZ,dV,dB,dZ,dF,eB,dH,eC,dL,cI,cA,cJ,cB,cL,cC,cM,cE,cN,cF,cO,cH,eE]) rfl ⟨g1,g2,g3,g4,g5,gs,rfl,?_,?_⟩
 ·refine⟨?_,?_,?_,?_,?_,by omega,by omega,eK,by omega,by omega,by omega,by omega,λi hi=>by have:=lg.o i hi;omega⟩
  ·iterate 17(refine Row.other ?_ _ (by first|(show w.heap.size+1+1≠_;omega)|(show w.heap.size+1≠_;omega)) _)
   exact d1.l
  ·iterate 17(refine Row.other ?_ _ (by first|(show w.heap.size+1+1≠_;omega)|(show w.heap.size+1≠_;omega)) _)
   exact d2.l
  ·iterate 17(refine Row.other ?_ _ (by first|(show w.heap.size+1+1≠_;omega)|(show w.heap.size+1≠_;omega)) _)
   exact d3.l
  ·iterate 17(refine OwnP.other ?_ _ (by first|(show w.heap.size+1+1<_;omega)|(show w.heap.size+1<_;omega)) _)
   exact d4.l
  iterate 17(refine Row.other ?_ _ (by first|(show w.heap.size+1+1≠_;omega)|(show w.heap.size+1≠_;omega)) _)
  exact d5.l
 iterate 17(refine IB ?_ (by first|(show w.heap.size<=w.heap.size+1+1;omega)|(show w.heap.size<=w.heap.size+1;omega)) _)
 exact hE
def pB(x:Wo)(q r:Wp)(w:World)(h:x.at w q)(k:x.at w r)(hm:x.le 1048576):Calls prog 10 #[MD x q,MD x r] w λe w'=>e=.returned (.bool true)/\Below w.heap.size w w':=by
 unfold MD;have hE:Below w.heap.size w w:=AB _ _;have C3:=LE (λw h k=>A6 x.W x.S x.L x.T x.H x.F x.R x.U x.O q.s r.s x.rs q.cs r.cs w h k hm.l3);unfold LV at C3;go_enter func10,ntmps10;go_wp2_with fail;generalize aC:w.alloc _=v1;obtain⟨hb,aE,bA⟩:=LJ aC;clear aC;replace hE:=hE.j (hb.i hE.size);clear hb;generalize aD:v1.alloc _=v2;obtain⟨hb,aF,bB⟩:=LJ aD;clear aD;rw[aE]at bB aF;replace bA:=bA.I hb;replace hE:=hE.j (hb.i hE.size);clear hb;refine(Bj q.a r.a x.ss q.c r.c q.a' r.a' x.ws q.c' r.c' _ (h.h1.I hE) (k.h1.I hE) (h.h2.I hE) (k.h2.I hE) hm.l1 hm.l2).i ?_;rintro e v3 ⟨rfl,hb⟩;have aG:v2.heap.size<=v3.heap.size:=hb.size;replace bA:=bA.I hb;replace bB:=bB.I hb;replace hE:=hE.j (hb.i hE.size);clear hb;have aA:=c16 bA.l;have aB:=c16 bB.l;go_wp2_with fail;clear aA aB;refine(C3.o _ (h.h3.I hE) (k.h3.I hE)).i ?_;rintro e v4 ⟨rfl,hb⟩
 have aH:v3.heap.size<=v4.heap.size:=hb.size;replace bA:=bA.I hb;replace bB:=bB.I hb;replace hE:=hE.j (hb.i hE.size);clear hb;have aA:=c16 bA.l;have aB:=c16 bB.l;go_wp2_with fail;clear aA aB;refine(If q.p r.p x.P q.cp r.cp _ (h.h4.I hE) (k.h4.I hE) hm.l4 (λrs hr=>(hm.s4 rs hr).1)).i ?_;rintro e v5 ⟨rfl,hb⟩;have aI:v4.heap.size<=v5.heap.size:=hb.size;replace bA:=bA.I hb;replace bB:=bB.I hb;replace hE:=hE.j (hb.i hE.size);clear hb;have aA:=c16 bA.l;have aB:=c16 bB.l;go_wp2_with fail;clear aA aB;refine(oR q.t r.t x.ts q.ct r.ct _ (h.h5.I hE) (k.h5.I hE) hm.l5).i ?_;rintro e v6 ⟨rfl,hb⟩;have aJ:v5.heap.size<=v6.heap.size:=hb.size;replace bA:=bA.I hb;replace bB:=bB.I hb;replace hE:=hE.j (hb.i hE.size);clear hb;go_wp2;go_ret;exact⟨rfl,hE⟩
