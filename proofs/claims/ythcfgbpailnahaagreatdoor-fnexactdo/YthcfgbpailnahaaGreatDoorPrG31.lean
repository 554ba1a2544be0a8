import Derived.Test.YthcfgbpailnahaaGreatDoorPrG25
import Derived.Test.YthcfgbpailnahaaGreatDoorPrOpS
import Derived.Test.YthcfgbpailnahaaGreatDoorPrPfS
import Derived.Lib.AppendZeros
import Derived.Test.YthcfgbpailnahaaGreatDoorPrG30
set_option maxHeartbeats 16000000
set_option maxRecDepth 8000
set_option linter.all false
namespace Go.Proofs.YthcfgbpailnahaaGreatDoor
open _root_.ByteArray(empty)
open Tryz
open Go.RowKit
variable {cs:List Value}{B SB c k lo n:Nat}{a:Option Addr}{e:TypeId}{w:World}
def MK(e:Ev)(a:Option Addr)(c:Nat)(f:Option Addr)(d:Nat):Value:=.agg #[.int .i64 e.K,.slice a e.b.length c,.int .i64 e.cut,.slice f e.fs.length d]
structure Ev.le(e:Ev):Prop where
 b:e.b.length<=1048576/\∀x∈e.b,x.1.size<=1048576/\x.2.1.size<=1048576
 f:e.fs.length<=1048576
theorem iq{rs:List Pr}{aA:List NM}{b:Option Addr}(h:OwnDn w rs aA a b)(h1:∀g,blk a rs.length=some g->lo<=g)(h2:∀g,blk b aA.length=some g->lo<=g):Dep w lo w.heap.size (λW=>OwnDn W rs aA a b) :=⟨h,AA _,λw' k1 k2=>⟨(PG h.s QG h1).keep w' k1 k2,(PG h.p dt h2).keep w' k1 k2,h.ne⟩⟩
def rm(w w':World)(r:Ending)(D:Dd)(u:Bool):Prop:=∃a c b e,r=.returned (.tuple #[MQ D a c b e,.bool u])/\D.rs.length<=c/\OwnDn w' D.rs D.ops a b/\(∀g,blk a D.rs.length=some g->w.heap.size<=g)/\(∀g,blk b D.ops.length=some g->w.heap.size<=g)/\Below w.heap.size w w'
theorem WQ:(prog.info? 118).map (·.size)=some 12:=by kernel_rfl
theorem Cv(x:Wo)(q:Wp)(f:Option Addr)(fs:List Int)(d:Nat)(F:Nat->Prop)(w:World)(h:WoF x w F q)(hm:x.le 1048576)(hz:Ints w f fs)(aO:fs.length<=1048576):Calls prog 65 #[MD x q,.slice f fs.length d] w λe w'=>th w w' F e (x.pow fs):=by
 have CP:=LE (λw' k1 k2 k3=>zD q.a x.ss q.c q.a' x.ws q.c' f fs d w' k1 k2 k3 aO hm.l1 hm.l2 hm.s1 hm.s2);obtain⟨SS,aG⟩:∃SS,Hid (SS=PO fs x.ss x.ws):=⟨_,LE rfl⟩;rw[<-aG.o]at CP;unfold LN at CP;have HZ:=LE hz;clear hz;unfold MD;go_enter func65,ntmps65;go_upto_region 1 with fail;generalize aC:w.alloc _=v1;obtain⟨aK,aF,b2⟩:=LJ aC;clear aC;generalize aD:v1.alloc _=v2;obtain⟨aL,aM,b4⟩:=LJ aD;clear aD;rw[aF]at b4;have hb:=aK.j (aL.i aK.size);have hF:=(h.i (G:=λb=>(F b/\b<w.heap.size)\/w.heap.size+2<=b) (λb hl k=>.inl ⟨k,hl⟩)).I hb;have r2:=(b2.I aL).l;have r4:=b4.l;have l2:w.heap.size+2<=v2.heap.size:=by omega
 clear aK aL b2 b4 aF aM h;have c1:=r2.x 1;have c2:=r2.x 2;have cl:=r2.lt;go_wp2_with fail;clear c1 c2 cl;refine(CP.o _ hF.h1.l hF.h2.l (HZ.o.I hb)).i ?_;rintro r3 v3 ⟨a1,k1,aA,aB,rfl,ho,aN,aE⟩
 have d1:DepF v3 (λb=>(F b/\b<w.heap.size)\/w.heap.size+2<=b) (λW=>Strs W a1 SS):=(WW (PG (lo:=v2.heap.size) ho TC aN) (λb k _=>.inr (by omega))).map λW k=>k.strs
 replace hF:=hF.I aE;replace r2:=r2.I aE;replace r4:=r4.I aE;replace hb:=hb.j (aE.i hb.size);clear ho aN aE CP HZ l2;have q1:=r2.x 1;have q2:=r2.x 2;have q3:=r2.x 3;have f1:=r2.q 1;have f2:=r2.q 2;have f3:=r2.q 3;have cl:=r2.lt;go_upto_region 3 with fail;clear q1 f1 q2 f2 q3 f3;refine BA ?_;refine TD rfl (.agg (sK 0 0 0 0 0 0 0 0 0 (.slice none 0 0))) (by go_simp) ?_;simp only[PS];refine fx rfl _ _ _ rfl (.pointer (some ⟨w.heap.size,4,none⟩)) (by go_simp) ?_;simp only[PS];have G:=MC (MC (MC (BH v3 (some w.heap.size)) 1 (.slice a1 SS.length k1)) 2 (.slice aA 0 aB)) 3 (.bool false);have R:=((r2.set 1 (by simp) (.slice a1 SS.length k1)).set 2 (by simp) (.slice aA 0 aB)).set 3 (by simp) (.bool false);generalize aH:World.setCell (World.setCell (World.setCell _ _ _) _ _) _ _=v4 at G R⊢;clear aH cl;have R':Row v4 w.heap.size [.int .i64 x.w,.slice a1 SS.length k1,.slice aA 0 aB,.bool false,.int .i64 x.W,.int .i64 x.S,.int .i64 x.L,.int .i64 x.T,.int .i64 x.H,.int .i64 x.F,.int .i64 x.R,.int .i64 x.U,.int .i64 x.O,.slice q.s x.rs.length q.cs,.slice q.p x.P.length q.cp,.slice q.t x.ts.length q.ct]:=R
 clear R;refine BI rfl 50 _ _ rfl w.heap.size 4 (sK 0 0 0 0 0 0 0 0 0 (.slice none 0 0)) rfl rfl (Row.thereMid (pre:=[.int .i64 x.w,.slice a1 SS.length k1,.slice aA 0 aB,.bool false]) (cs:=(sJ x.W x.S x.L x.T x.H x.F x.R x.U x.O (.slice q.s x.rs.length q.cs))) (post:=[.slice q.p x.P.length q.cp,.slice q.t x.ts.length q.ct]) R' rfl) ZQ (by kernel_rfl) ?_
 try simp only[PS]
 replace G:=PY G (PJ v4 w.heap.size 4 (sJ 0 0 0 0 0 0 0 0 0 (.slice none 0 0)));have R3:Row _ w.heap.size [.int .i64 x.w,.slice a1 SS.length k1,.slice aA 0 aB,.bool false,.int .i64 0,.int .i64 0,.int .i64 0,.int .i64 0,.int .i64 0,.int .i64 0,.int .i64 0,.int .i64 0,.int .i64 0,.slice none 0 0,.slice q.p x.P.length q.cp,.slice q.t x.ts.length q.ct]:=Row.setsMid (pre:=[.int .i64 x.w,.slice a1 SS.length k1,.slice aA 0 aB,.bool false]) (cs:=(sJ x.W x.S x.L x.T x.H x.F x.R x.U x.O (.slice q.s x.rs.length q.cs))) (post:=[.slice q.p x.P.length q.cp,.slice q.t x.ts.length q.ct]) R' (sJ 0 0 0 0 0 0 0 0 0 (.slice none 0 0)) rfl;generalize aI:v4.setCells _ _ _=v5 at G R3⊢;clear aI R' r2;go_upto_region 4 with fail;refine BA ?_;refine AN rfl 53 _ rfl w.heap.size 0 rfl _ _ R3.range underlying53 rfl MF ?_;simp only[PS];have R4:=r4.z G (λe=>by injection e with e;omega);refine BI rfl 53 _ _ rfl (w.heap.size+1) 0 #[.int .i64 x.w,.slice a1 SS.length k1,.slice aA 0 aB,.bool false,.int .i64 0,.int .i64 0,.int .i64 0,.int .i64 0,.int .i64 0,.int .i64 0,.int .i64 0,.int .i64 0,.int .i64 0,.slice none 0 0,.slice q.p x.P.length q.cp,.slice q.t x.ts.length q.ct] rfl rfl (R4.there rfl) MF (by kernel_rfl) ?_
 try simp only[PS]
 have G2:=PJ v5 (w.heap.size+1) 0 [.int .i64 x.w,.slice a1 SS.length k1,.slice aA 0 aB,.bool false,.int .i64 0,.int .i64 0,.int .i64 0,.int .i64 0,.int .i64 0,.int .i64 0,.int .i64 0,.int .i64 0,.int .i64 0,.slice none 0 0,.slice q.p x.P.length q.cp,.slice q.t x.ts.length q.ct];have R5:=R4.sets [.int .i64 x.w,.slice a1 SS.length k1,.slice aA 0 aB,.bool false,.int .i64 0,.int .i64 0,.int .i64 0,.int .i64 0,.int .i64 0,.int .i64 0,.int .i64 0,.int .i64 0,.int .i64 0,.slice none 0 0,.slice q.p x.P.length q.cp,.slice q.t x.ts.length q.ct] rfl;generalize aJ:v5.setCells _ _ _=v6 at G2 R5⊢;clear aJ R3 R4
 try go_wp2
 have n1:¬((F w.heap.size/\w.heap.size<w.heap.size)\/w.heap.size+2<=w.heap.size):=by omega
 have n2:¬((F (w.heap.size+1)/\w.heap.size+1<w.heap.size)\/w.heap.size+2<=w.heap.size+1):=by omega
 replace hF:=(hF.z G (λg e=>by cases e;exact n1)).z G2 (λg e=>by cases e;exact n2);replace d1:=(d1.z G (λg e=>by cases e;exact n1)).z G2 (λg e=>by cases e;exact n2);refine RY 4 53 results65 _ rfl [.int .i64 x.w,.slice a1 SS.length k1,.slice aA 0 aB,.bool false,.int .i64 0,.int .i64 0,.int .i64 0,.int .i64 0,.int .i64 0,.int .i64 0,.int .i64 0,.int .i64 0,.int .i64 0,.slice none 0 0,.slice q.p x.P.length q.cp,.slice q.t x.ts.length q.ct] _ R5 underlying53 rfl MF rfl ⟨⟨a1,k1,aA,aB,none,0,q.p,q.cp,q.t,q.ct⟩,?_,WoF.i (F:=λb=>(F b/\b<w.heap.size)\/w.heap.size+2<=b) ⟨?_,SX (λW=>.inl rfl),SX (λW=>.inl rfl),hF.h4,hF.h5⟩ (λb _ k=>by rcases k with k|k;exact .inl k.1;exact .inr (by omega)),?_⟩
 ·unfold MD Wo.pow
  rw[<-aG.o];rfl
 ·unfold Wo.pow
  rw[<-aG.o];exact d1
 exact(hb.j (NE G hb.size (λx e=>by have e:=DA e;omega))).j (NE G2 (by have:=hb.size;have:=G.size;omega) (λx e=>by have e:=DA e;omega))
theorem lz{v v1:World}{D:Dd}{b:Option Addr}{e:Nat}{X:Nat}{vs:List Value}(hX:w.heap.size<=X/\X<v.heap.size)(hE:Below w.heap.size w v)(hD:RO v v1 (.returned (MQ D a c b e)) D)(aA:D.rs.length<=c)(ho:OwnDn v1 D.rs D.ops a b)(g1:∀g,blk a D.rs.length=some g->v.heap.size<=g)(g2:∀g,blk b D.ops.length=some g->v.heap.size<=g)(hb:Below v.heap.size v v1)(u:Bool):rm w (v1.setCells X 0 vs) (.returned (.tuple #[MQ D a c b e,.bool u])) D u:=by
 have G:=PJ v1 X 0 vs;have d:=(WW (F:=λb=>v.heap.size<=b) (iq ho g1 g2) (λb k _=>k)).z G (λg e=>by cases e;omega);have:=hE.size;exact⟨a,c,b,e,rfl,aA,d.l,λg k=>by have:=g1 g k;omega,λg k=>by have:=g2 g k;omega,(hE.j (hb.i hE.size)).j (NE G (AL hE.size hb.size) (λx e=>by have e:=DA e;omega))⟩
theorem tL(x:Wo)(q:Wp)(e:Ev)(a:Option Addr)(c:Nat)(f:Option Addr)(d:Nat)(w:World)(h:x.at w q)(hm:x.le 1048576)(h2:Chs w a e.b)(he:e.le):Calls prog 66 #[MD x q,MK e a c f d] w λr w'=>rm w w' r (x.call e).1 (x.call e).2:=by
 have CO:=LE (λw' k1 k2=>Bb q.a x.ss q.c q.a' x.ws q.c' x.w w' k1 k2 hm.l1 hm.l2 hm.s1 hm.s2);have CC:=LE (λw' k1 k2=>Cq x.W x.S x.L x.T x.H x.F x.R x.U x.O q.s x.rs q.cs a e.b c w' k1 hm.l3 hm.s3 k2 he.b.1 he.b.2);have CF:=LE (λw' k1=>Df x.W x.S x.L x.T x.H x.F x.R x.U x.O q.s x.rs q.cs w' k1 hm.l3 hm.s3);have CM:=LE (λw' k1=>sP x.W x.S x.L x.T x.H x.F x.R x.U x.O q.s x.rs q.cs w' k1 hm.l3 hm.s3);unfold LN at CO;unfold LV at CC CF CM;obtain⟨⟨D,u⟩,aG⟩:∃y,Hid (y=x.call e):=⟨_,LE rfl⟩;rw[<-aG.o];have HH:=LE h;have aT:=LE h2;clear h h2;unfold MD MK;go_enter func66,ntmps66;go_upto_region 1 with fail;generalize aI:w.alloc _=v1;obtain⟨aP,aM,b2⟩:=LJ aI;clear aI;generalize aJ:v1.alloc _=v2;obtain⟨aN,aH,b3⟩:=LJ aJ;clear aJ;generalize aK:v2.alloc _=v3;obtain⟨aO,aR,b4⟩:=LJ aK;clear aK;rw[aM]at b3 aH;rw[aH]at b4;have hE:=aP.j ((aN.j (aO.i aN.size)).i aP.size);have r2:Row v3 w.heap.size (wL x q):=((b2.I aN).I aO).l
 have r3:Row v3 (w.heap.size+1) [.int .i64 e.K,.slice a e.b.length c,.int .i64 e.cut,.slice f e.fs.length d]:=(b3.I aO).l;have r4:=b4.l;clear aP aN aO b2 b3 b4 aM aH aR;have c0:=r3.x 0;have cl:=r3.lt
 by_cases k1:e.K=1
 ·have eA:(D,u)=(PC x.ss x.ws x.w,!x.up):=by rw[aG.o];unfold Wo.call;rw[AK k1]
  obtain⟨eD,rfl⟩:=KO eA;rw[<-eD]at CO;have kb:(e.K == 1)=true:=by simp[k1]
  clear eA eD aG k1;go_upto_region 3 with fail;clear c0 cl;have dD:=(AB v3.heap.size v3).drew;refine AP (S:=λw'=>Row w' w.heap.size (wL x q)/\Row w' (w.heap.size+1) [.int .i64 e.K,.slice a e.b.length c,.int .i64 e.cut,.slice f e.fs.length d]) (by kernel_rfl) (⟨r2.I dD,r3.I dD⟩) (λaB=>?_);refine TK 0 (.pointer (some ⟨w.heap.size,1,none⟩)) rfl (BN ⟨by rfl,λw hw=>by obtain⟨z0,z1⟩:=hw;have l:=z0.lt;go_simp⟩) aB (TK 1 (.agg #[.slice q.a x.ss.length q.c,.slice q.a' x.ws.length q.c']) rfl (BN ⟨by rfl,λw hw=>by obtain⟨z0,z1⟩:=hw;have c:=z0.x 1;have d:=z0.x 2;have l:=z0.lt;go_simp⟩) aB (TK 2 (.pointer (some ⟨w.heap.size,0,none⟩)) rfl (BN ⟨by rfl,λw hw=>by obtain⟨z0,z1⟩:=hw;have l:=z0.lt;go_simp⟩) aB (TK 3 (.int .i64 x.w) rfl (BN ⟨by rfl,λw hw=>by obtain⟨z0,z1⟩:=hw;have c:=z0.x 0;go_simp⟩) aB (TK 5 (.pointer (some ⟨w.heap.size,3,none⟩)) rfl (BN ⟨by rfl,λw hw=>by obtain⟨z0,z1⟩:=hw;have l:=z0.lt;go_simp⟩) aB (TK 6 (.bool x.up) rfl (BN ⟨by rfl,λw hw=>by obtain⟨z0,z1⟩:=hw;have c:=z0.x 3;go_simp⟩) aB (TY 7 (.bool (!x.up)) rfl aB ?_))))))
  simp only[PS];refine RD 4 rfl (λKq aE=>?_);obtain⟨yb,aA⟩:∃y,y=v3.drew:=⟨_,rfl⟩;rw[<-aA];have hb:Below v3.heap.size v3 yb:=by rw[aA];exact(AB _ _).drew
  have hT:=hE.j (hb.i hE.size);have s4:=r4.I hb;have s2:=r2.I hb;have s3:=r3.I hb;clear aA hb;refine LK (by rfl) 107 #[.agg #[.slice q.a x.ss.length q.c,.slice q.a' x.ws.length q.c'],.int .i64 x.w] (by go_simp) (CO.o _ (HH.o.I hT).h1 (HH.o.I hT).h2) ?_;rintro r5 y5 ⟨oa,oc,ob,oe,rfl,aC,own,g1,g2,hb⟩;refine⟨_,rfl,?_⟩;refine aE.o _ _ (⟨s2.I hb,s3.I hb⟩) (λaL=>?_)
  try simp only[PS]
  refine RD 8 rfl (λKq aE=>?_);refine UK rfl 118 _ _ rfl (w.heap.size+1+1) 0 (dK D.C D.W D.S D.L D.T D.H D.F D.R D.U D.O (.slice oa D.rs.length oc) (.slice ob D.ops.length oe)) rfl rfl ((s4.I hb).there rfl) WQ (by kernel_rfl) ?_;have G:=PJ y5 (w.heap.size+1+1) 0 (dJ D.C D.W D.S D.L D.T D.H D.F D.R D.U D.O (.slice oa D.rs.length oc) (.slice ob D.ops.length oe));have R5:=(s4.I hb).sets (dJ D.C D.W D.S D.L D.T D.H D.F D.R D.U D.O (.slice oa D.rs.length oc) (.slice ob D.ops.length oe)) rfl;refine aE.o _ _ (⟨(s2.I hb).z G (λe=>by injection e with e;omega),(s3.I hb).z G (λe=>by injection e with e;omega)⟩) (λaF=>?_)
  try simp only[PS]
  refine TY 9 (.bool (!x.up)) rfl aF ?_;simp only[PS];refine DN ?_;have HP:=LE (lz (X:=w.heap.size+1+1) (vs:=(dJ D.C D.W D.S D.L D.T D.H D.F D.R D.U D.O (.slice oa D.rs.length oc) (.slice ob D.ops.length oe))) ⟨by omega,s4.lt⟩ hT ⟨oa,oc,ob,oe,rfl,aC,own,g1,g2,hb⟩ aC own g1 g2 hb (!x.up));generalize aD:y5.setCells _ _ _=y6 at R5 HP⊢;clear aD
  try go_wp2
  exact fw 4 5 118 results66 _ rfl _ rfl (dJ D.C D.W D.S D.L D.T D.H D.F D.R D.U D.O (.slice oa D.rs.length oc) (.slice ob D.ops.length oe)) _ R5 underlying118 rfl WQ rfl HP.o
 by_cases k2:e.K=2
 ·have eA:(D,u)=(RU x.W x.S x.L x.T x.H x.F x.R x.U x.O x.rs e.b,x.up):=by rw[aG.o];unfold Wo.call;rw[AE k1];rw[AK k2]
  obtain⟨eD,rfl⟩:=KO eA;rw[<-eD]at CC;have kb:(e.K == 2)=true:=by simp[k2]
  have aQ:(e.K == 1)=false:=by simp[k1]
  clear eA eD aG k2;go_upto_region 5 with fail;clear c0 cl;have dD:=(AB v3.heap.size v3).drew;refine AP (S:=λw'=>Row w' w.heap.size (wL x q)/\Row w' (w.heap.size+1) [.int .i64 e.K,.slice a e.b.length c,.int .i64 e.cut,.slice f e.fs.length d]) (by kernel_rfl) (⟨r2.I dD,r3.I dD⟩) (λaB=>?_);refine TK 0 (.pointer (some ⟨w.heap.size,4,none⟩)) rfl (BN ⟨by rfl,λw hw=>by obtain⟨z0,z1⟩:=hw;have l:=z0.lt;go_simp⟩) aB (TK 1 (.agg (sK x.W x.S x.L x.T x.H x.F x.R x.U x.O (.slice q.s x.rs.length q.cs))) rfl (BN ⟨by rfl,λw hw=>by obtain⟨z0,z1⟩:=hw;exact OP 50 _ rfl _ 4 rfl (sJ x.W x.S x.L x.T x.H x.F x.R x.U x.O (.slice q.s x.rs.length q.cs)) _ (Row.rangeMid (pre:=[.int .i64 x.w,.slice q.a x.ss.length q.c,.slice q.a' x.ws.length q.c',.bool x.up]) (cs:=(sJ x.W x.S x.L x.T x.H x.F x.R x.U x.O (.slice q.s x.rs.length q.cs))) (post:=[.slice q.p x.P.length q.cp,.slice q.t x.ts.length q.ct]) z0) underlying50 rfl ZQ⟩) aB (TK 2 (.pointer (some ⟨w.heap.size+1,1,none⟩)) rfl (BN ⟨by rfl,λw hw=>by obtain⟨z0,z1⟩:=hw;have l:=z1.lt;go_simp⟩) aB (TK 3 (.slice a e.b.length c) rfl (BN ⟨by rfl,λw hw=>by obtain⟨z0,z1⟩:=hw;have c:=z1.x 1;go_simp⟩) aB (TK 5 (.pointer (some ⟨w.heap.size,3,none⟩)) rfl (BN ⟨by rfl,λw hw=>by obtain⟨z0,z1⟩:=hw;have l:=z0.lt;go_simp⟩) aB (TK 6 (.bool x.up) rfl (BN ⟨by rfl,λw hw=>by obtain⟨z0,z1⟩:=hw;have c:=z0.x 3;go_simp⟩) aB ?_)))))
  simp only[PS];refine RD 4 rfl (λKq aE=>?_);obtain⟨yb,aA⟩:∃y,y=v3.drew:=⟨_,rfl⟩;rw[<-aA];have hb:Below v3.heap.size v3 yb:=by rw[aA];exact(AB _ _).drew
  have hT:=hE.j (hb.i hE.size);have s4:=r4.I hb;have s2:=r2.I hb;have s3:=r3.I hb;clear aA hb;refine LK (by rfl) 108 #[.agg (sK x.W x.S x.L x.T x.H x.F x.R x.U x.O (.slice q.s x.rs.length q.cs)),.slice a e.b.length c] (by go_simp) (CC.o _ (HH.o.I hT).h3 (aT.o.I hT)) ?_;rintro r5 y5 ⟨oa,oc,ob,oe,rfl,aC,own,g1,g2,hb⟩;refine⟨_,rfl,?_⟩;refine aE.o _ _ (⟨s2.I hb,s3.I hb⟩) (λaL=>?_)
  try simp only[PS]
  refine RD 7 rfl (λKq aE=>?_);refine UK rfl 118 _ _ rfl (w.heap.size+1+1) 0 (dK D.C D.W D.S D.L D.T D.H D.F D.R D.U D.O (.slice oa D.rs.length oc) (.slice ob D.ops.length oe)) rfl rfl ((s4.I hb).there rfl) WQ (by kernel_rfl) ?_;have G:=PJ y5 (w.heap.size+1+1) 0 (dJ D.C D.W D.S D.L D.T D.H D.F D.R D.U D.O (.slice oa D.rs.length oc) (.slice ob D.ops.length oe));have R5:=(s4.I hb).sets (dJ D.C D.W D.S D.L D.T D.H D.F D.R D.U D.O (.slice oa D.rs.length oc) (.slice ob D.ops.length oe)) rfl;refine aE.o _ _ (⟨(s2.I hb).z G (λe=>by injection e with e;omega),(s3.I hb).z G (λe=>by injection e with e;omega)⟩) (λaF=>?_)
  try simp only[PS]
  refine TY 8 (.bool (x.up)) rfl aF ?_;simp only[PS];refine DN ?_;have HP:=LE (lz (X:=w.heap.size+1+1) (vs:=(dJ D.C D.W D.S D.L D.T D.H D.F D.R D.U D.O (.slice oa D.rs.length oc) (.slice ob D.ops.length oe))) ⟨by omega,s4.lt⟩ hT ⟨oa,oc,ob,oe,rfl,aC,own,g1,g2,hb⟩ aC own g1 g2 hb (x.up));generalize aD:y5.setCells _ _ _=y6 at R5 HP⊢;clear aD
  try go_wp2
  exact fw 4 5 118 results66 _ rfl _ rfl (dJ D.C D.W D.S D.L D.T D.H D.F D.R D.U D.O (.slice oa D.rs.length oc) (.slice ob D.ops.length oe)) _ R5 underlying118 rfl WQ rfl HP.o
 by_cases k3:e.K=3
 focus
  have eA:(D,u)=(SN x.W x.S x.L x.T x.H x.F x.R x.U x.O x.rs,x.up):=by rw[aG.o];unfold Wo.call;rw[AE k1];rw[AE k2];rw[AK k3]
  obtain⟨eD,rfl⟩:=KO eA;rw[<-eD]at CF;have kb:(e.K == 3)=true:=by simp[k3]
  have aQ:(e.K == 1)=false:=by simp[k1]
  have aS:(e.K == 2)=false:=by simp[k2]
  clear eA eD aG k3;go_upto_region 7 with fail;clear c0 cl;have dD:=(AB v3.heap.size v3).drew;refine AP (S:=λw'=>Row w' w.heap.size (wL x q)/\Row w' (w.heap.size+1) [.int .i64 e.K,.slice a e.b.length c,.int .i64 e.cut,.slice f e.fs.length d]) (by kernel_rfl) (⟨r2.I dD,r3.I dD⟩) (λaB=>?_);refine TK 0 (.pointer (some ⟨w.heap.size,4,none⟩)) rfl (BN ⟨by rfl,λw hw=>by obtain⟨z0,z1⟩:=hw;have l:=z0.lt;go_simp⟩) aB (TK 1 (.agg (sK x.W x.S x.L x.T x.H x.F x.R x.U x.O (.slice q.s x.rs.length q.cs))) rfl (BN ⟨by rfl,λw hw=>by obtain⟨z0,z1⟩:=hw;exact OP 50 _ rfl _ 4 rfl (sJ x.W x.S x.L x.T x.H x.F x.R x.U x.O (.slice q.s x.rs.length q.cs)) _ (Row.rangeMid (pre:=[.int .i64 x.w,.slice q.a x.ss.length q.c,.slice q.a' x.ws.length q.c',.bool x.up]) (cs:=(sJ x.W x.S x.L x.T x.H x.F x.R x.U x.O (.slice q.s x.rs.length q.cs))) (post:=[.slice q.p x.P.length q.cp,.slice q.t x.ts.length q.ct]) z0) underlying50 rfl ZQ⟩) aB (TK 3 (.pointer (some ⟨w.heap.size,3,none⟩)) rfl (BN ⟨by rfl,λw hw=>by obtain⟨z0,z1⟩:=hw;have l:=z0.lt;go_simp⟩) aB (TK 4 (.bool x.up) rfl (BN ⟨by rfl,λw hw=>by obtain⟨z0,z1⟩:=hw;have c:=z0.x 3;go_simp⟩) aB ?_)))
  simp only[PS];refine RD 2 rfl (λKq aE=>?_);obtain⟨yb,aA⟩:∃y,y=v3.drew:=⟨_,rfl⟩;rw[<-aA];have hb:Below v3.heap.size v3 yb:=by rw[aA];exact(AB _ _).drew
  have hT:=hE.j (hb.i hE.size);have s4:=r4.I hb;have s2:=r2.I hb;have s3:=r3.I hb;clear aA hb;refine LK (by rfl) 109 #[.agg (sK x.W x.S x.L x.T x.H x.F x.R x.U x.O (.slice q.s x.rs.length q.cs))] (by go_simp) (CF.o _ (HH.o.I hT).h3) ?_
 rotate_left
 by_cases k4:e.K=4
 focus
  have eA:(D,u)=(QX x.W x.S x.L x.T x.H x.F x.R x.U x.O x.rs,x.up):=by rw[aG.o];unfold Wo.call;rw[AE k1];rw[AE k2];rw[AE k3];rw[AK k4]
  obtain⟨eD,rfl⟩:=KO eA;rw[<-eD]at CM;have kb:(e.K == 4)=true:=by simp[k4]
  have aQ:(e.K == 1)=false:=by simp[k1]
  have aS:(e.K == 2)=false:=by simp[k2]
  have aU:(e.K == 3)=false:=by simp[k3]
  clear eA eD aG k4;go_upto_region 9 with fail;clear c0 cl;have dD:=(AB v3.heap.size v3).drew;refine AP (S:=λw'=>Row w' w.heap.size (wL x q)/\Row w' (w.heap.size+1) [.int .i64 e.K,.slice a e.b.length c,.int .i64 e.cut,.slice f e.fs.length d]) (by kernel_rfl) (⟨r2.I dD,r3.I dD⟩) (λaB=>?_);refine TK 0 (.pointer (some ⟨w.heap.size,4,none⟩)) rfl (BN ⟨by rfl,λw hw=>by obtain⟨z0,z1⟩:=hw;have l:=z0.lt;go_simp⟩) aB (TK 1 (.agg (sK x.W x.S x.L x.T x.H x.F x.R x.U x.O (.slice q.s x.rs.length q.cs))) rfl (BN ⟨by rfl,λw hw=>by obtain⟨z0,z1⟩:=hw;exact OP 50 _ rfl _ 4 rfl (sJ x.W x.S x.L x.T x.H x.F x.R x.U x.O (.slice q.s x.rs.length q.cs)) _ (Row.rangeMid (pre:=[.int .i64 x.w,.slice q.a x.ss.length q.c,.slice q.a' x.ws.length q.c',.bool x.up]) (cs:=(sJ x.W x.S x.L x.T x.H x.F x.R x.U x.O (.slice q.s x.rs.length q.cs))) (post:=[.slice q.p x.P.length q.cp,.slice q.t x.ts.length q.ct]) z0) underlying50 rfl ZQ⟩) aB (TK 3 (.pointer (some ⟨w.heap.size,3,none⟩)) rfl (BN ⟨by rfl,λw hw=>by obtain⟨z0,z1⟩:=hw;have l:=z0.lt;go_simp⟩) aB (TK 4 (.bool x.up) rfl (BN ⟨by rfl,λw hw=>by obtain⟨z0,z1⟩:=hw;have c:=z0.x 3;go_simp⟩) aB ?_)))
  simp only[PS];refine RD 2 rfl (λKq aE=>?_);obtain⟨yb,aA⟩:∃y,y=v3.drew:=⟨_,rfl⟩;rw[<-aA];have hb:Below v3.heap.size v3 yb:=by rw[aA];exact(AB _ _).drew
  have hT:=hE.j (hb.i hE.size);have s4:=r4.I hb;have s2:=r2.I hb;have s3:=r3.I hb;clear aA hb;refine LK (by rfl) 110 #[.agg (sK x.W x.S x.L x.T x.H x.F x.R x.U x.O (.slice q.s x.rs.length q.cs))] (by go_simp) (CM.o _ (HH.o.I hT).h3) ?_
 rotate_left
 obtain⟨rfl,rfl⟩:=KO (show(D,u)=(LT 0,false) by rw[aG.o];unfold Wo.call;rw[AE k1,AE k2,AE k3,AE k4]);have aQ:(e.K == 1)=false:=by simp[k1]
 have aS:(e.K == 2)=false:=by simp[k2]
 have aU:(e.K == 3)=false:=by simp[k3]
 have aV:(e.K == 4)=false:=by simp[k4]
 go_upto_region 10 with fail;refine BA ?_;refine TD rfl (.agg (dK 0 0 0 0 0 0 0 0 0 0 (.slice none 0 0) (.slice none 0 0))) (by go_simp) ?_;simp only[PS];refine BI rfl 118 _ _ rfl (w.heap.size+1+1) 0 (dK 0 0 0 0 0 0 0 0 0 0 (.slice none 0 0) (.slice none 0 0)) rfl rfl (r4.there rfl) WQ (by kernel_rfl) ?_
 try simp only[PS]
 have G:=PJ v3 (w.heap.size+1+1) 0 (dJ 0 0 0 0 0 0 0 0 0 0 (.slice none 0 0) (.slice none 0 0));have R5:=r4.sets (dJ 0 0 0 0 0 0 0 0 0 0 (.slice none 0 0) (.slice none 0 0)) rfl;generalize aD:v3.setCells _ _ _=y6 at G R5⊢;clear aD
 try go_wp2
 exact fw 4 5 118 results66 _ rfl _ rfl (dJ 0 0 0 0 0 0 0 0 0 0 (.slice none 0 0) (.slice none 0 0)) _ R5 underlying118 rfl WQ rfl ⟨none,0,none,0,rfl,AA _,⟨.inl rfl,.inl rfl,.inl rfl⟩,λg k=>(by cases k),λg k=>(by cases k),hE.j (NE G hE.size (λx e=>by have e:=DA e;omega))⟩
 all_goals
  rintro r5 y5 ⟨oa,oc,ob,oe,rfl,aC,own,g1,g2,hb⟩;refine⟨_,rfl,?_⟩;refine aE.o _ _ (⟨s2.I hb,s3.I hb⟩) (λaL=>?_)
  try simp only[PS]
  refine RD 5 rfl (λKq aE=>?_);refine UK rfl 118 _ _ rfl (w.heap.size+1+1) 0 (dK D.C D.W D.S D.L D.T D.H D.F D.R D.U D.O (.slice oa D.rs.length oc) (.slice ob D.ops.length oe)) rfl rfl ((s4.I hb).there rfl) WQ (by kernel_rfl) ?_;have G:=PJ y5 (w.heap.size+1+1) 0 (dJ D.C D.W D.S D.L D.T D.H D.F D.R D.U D.O (.slice oa D.rs.length oc) (.slice ob D.ops.length oe));have R5:=(s4.I hb).sets (dJ D.C D.W D.S D.L D.T D.H D.F D.R D.U D.O (.slice oa D.rs.length oc) (.slice ob D.ops.length oe)) rfl;refine aE.o _ _ (⟨(s2.I hb).z G (λe=>by injection e with e;omega),(s3.I hb).z G (λe=>by injection e with e;omega)⟩) (λaF=>?_)
  try simp only[PS]
  refine TY 6 (.bool (x.up)) rfl aF ?_;simp only[PS];refine DN ?_;have HP:=LE (lz (X:=w.heap.size+1+1) (vs:=(dJ D.C D.W D.S D.L D.T D.H D.F D.R D.U D.O (.slice oa D.rs.length oc) (.slice ob D.ops.length oe))) ⟨by omega,s4.lt⟩ hT ⟨oa,oc,ob,oe,rfl,aC,own,g1,g2,hb⟩ aC own g1 g2 hb (x.up));generalize aD:y5.setCells _ _ _=y6 at R5 HP⊢;clear aD
  try go_wp2
  exact fw 4 5 118 results66 _ rfl _ rfl (dJ D.C D.W D.S D.L D.T D.H D.F D.R D.U D.O (.slice oa D.rs.length oc) (.slice ob D.ops.length oe)) _ R5 underlying118 rfl WQ rfl HP.o
theorem ZH:(prog.info? 9).map (λi=>(i.zero,i.size,i.bytes))=some (some (.string empty),1,16):=by kernel_rfl
theorem gy:(prog.info? 48).map (λi=>(i.zero,i.size,i.bytes))=some (some (.agg #[.slice none 0 0]),1,24):=by kernel_rfl
theorem VG{P:Program}{z:Value}{size aA:Nat}(h:(P.info? e).map (λi=>(i.zero,i.size,i.bytes))=some (some z,size,aA)):∃i,P.info? e=some i/\i.zero=some z/\i.size=size/\i.bytes=aA:=by
 obtain⟨i,hi,hh⟩:=EF.1 h;simp only[EA]at hh;exact⟨i,hi,hh⟩
theorem zf(aA:List NM)(j:Nat)(h:j<aA.length):OJ (aA.take (j+1))=OJ (aA.take j)++(if (aA.getD j (false,0,empty)).1=true then [] else [(aA.getD j (false,0,empty)).2.2]):=by
 rw[AQ h,xF];simp[List.getD,h]
theorem WN{x:Wo}{e:Ev}{D:Dd}{u:Bool}(h5:¬e.K=5)(hc:x.call e=(D,u))(h:u=false\/D.C≠0):x.doE e=x:=by unfold Wo.doE;rw[AE h5,hc,AK h]
theorem na{x:Wo}{e:Ev}{D:Dd}(h5:¬e.K=5)(hc:x.call e=(D,true))(h0:D.C=0)(h:2000<(QP x e D).length\/200<(OL x e D).length):x.doE e=x:=by unfold Wo.doE;rw[AE h5,hc,AE (by simp[h0]),AK h]
theorem pu{x:Wo}{e:Ev}{D:Dd}(h5:¬e.K=5)(hc:x.call e=(D,true))(h0:D.C=0)(h:¬(2000<(QP x e D).length\/200<(OL x e D).length))(hb:QH e D=true):x.doE e=(x.ran e D).pow e.fs:=by unfold Wo.doE;rw[AE h5,hc,AE (by simp[h0]),AE h,AK hb]
theorem pW{x:Wo}{e:Ev}{D:Dd}(h5:¬e.K=5)(hc:x.call e=(D,true))(h0:D.C=0)(h:¬(2000<(QP x e D).length\/200<(OL x e D).length))(hb:QH e D=false)(h2:e.K=2):x.doE e=(x.ran e D).upS D:=by unfold Wo.doE;rw[AE h5,hc,AE (by simp[h0]),AE h,AE (by simp[hb]),AK h2]
theorem oQ{x:Wo}{e:Ev}{D:Dd}(h5:¬e.K=5)(hc:x.call e=(D,true))(h0:D.C=0)(h:¬(2000<(QP x e D).length\/200<(OL x e D).length))(hb:QH e D=false)(h2:¬e.K=2):x.doE e={ (x.ran e D).upS D with P:=[D.rs] }:=by unfold Wo.doE;rw[AE h5,hc,AE (by simp[h0]),AE h,AE (by simp[hb]),AE h2]
theorem tP(b:Option Addr)(n oe:Nat)(aA:Int)(w:World)(h1:n<=oe)(h2:n<=1000):Calls prog 135 #[.slice b n oe,.int .i64 aA] w λr w'=>r=.returned (.tuple #[.slice b (if 0<=aA/\aA<=n then aA.toNat else n) oe,.bool (decide (0<=aA/\aA<=n))])/\w'=w:=by
 go_enter func135,ntmps135
 by_cases k1:0<=aA
 ·by_cases k2:aA<=(n:Int)
  ·obtain⟨m,rfl⟩:∃m:Nat,aA=(m:Int):=⟨aA.toNat,by omega⟩
   have k3:m<=oe:=by omega
   rw[AK ⟨k1,k2⟩,AO ⟨k1,k2⟩];go_wp2;exact AJ (v:=.tuple #[.slice b m oe,.bool true]) (by simp[results,results135,go_sem]) rfl ⟨rfl,rfl⟩
  rw[AE (λh=>k2 h.2),AI (λh=>k2 h.2)]
  go_wp2;exact AJ (v:=.tuple #[.slice b n oe,.bool false]) (by simp[results,results135,go_sem]) rfl ⟨rfl,rfl⟩
 rw[AE (λh=>k1 h.1),AI (λh=>k1 h.1)]
 go_wp2;exact AJ (v:=.tuple #[.slice b n oe,.bool false]) (by simp[results,results135,go_sem]) rfl ⟨rfl,rfl⟩
theorem Ei{P:Program}(t ty e:TypeId)(i:TypeInfo)(size:Nat)(ht:P.underlying t=some (.slice e))(hi:P.info? e=some i)(aB:i.size=size)(B n:Nat)(v:Value)(xs:List Value)(own:w.ownsRow B e size v n xs)(x:Value)(aA:Src P size t x 0 [] w):(Builtin.append_ #[t,t] ty #[v,x]).run P w=.ok v w:=by
 subst aB;rcases own.2 with ⟨rfl,_⟩|⟨g,cap,cur,rfl,_,_,h2,_⟩
 ·rcases aA.kind with ⟨e',hk⟩|hk<;>simp[Builtin.append_,FO ht,FO hk,sizeOf,typeInfo,hi,aA.len,aA.cells]
 exact run_append_room_src (P:=P) w t t ty e i ht hi g 0 n cap x 0 [] aA (by omega) (by simp) (by simp)
theorem sM(b:Option Addr)(aA:List NM)(oe:Nat)(w:World)(h:Ops w b aA)(hl:aA.length<=1000):Calls prog 137 #[.slice b aA.length oe] w λr w'=>∃v,r=.returned v/\w'.ownsRow w.heap.size 9 1 v (OJ aA).length ((OJ aA).map Value.string)/\Below w.heap.size w w':=by
 obtain⟨i0,aL,aN,aO,aP⟩:=VG ZH;have HI:=LE (AG aL (AG aN (AG aO aP)));clear aL aN aO aP;go_enter func137,ntmps137;go_wp2;go_loopw [3,8] (λdv iv wr=>∃j:Nat,j<=aA.length/\iv=.int .i64 (j:Int)/\wr.ownsRow w.heap.size 9 1 dv (OJ (aA.take j)).length ((OJ (aA.take j)).map Value.string)/\Below w.heap.size w wr) (λ_ iv _=>aA.length-(intOf iv).toNat)
 case atStart=>exact⟨0,AH _,rfl,BZ _ _ _ _,AB _ _⟩
 case round =>
  rename Value=>dv
  obtain⟨j,hj,rfl,aC,hB⟩:=hrel;have aK:=qh (aA.take j);rw[BC]at aK;obtain⟨LL,aF⟩:∃y,Hid (y=OJ (aA.take j)):=⟨_,LE rfl⟩;rw[<-aF.o]at aC aK
  by_cases aM:j<aA.length
  ·have aV:(j:Int)<(aA.length:Int):=by omega
   have aX:(0:Int)<=(j:Int):=by omega
   obtain⟨b1,o1,s0,n1,t2,rfl,c0,c1,c2,aS⟩:=(h.I hB).at aM;have aI:=zf aA j aM;rw[<-aS.o]at aI;have aJ:=LE aI;have aG:=LE aC;have aE:=LE hB;have bC:=vq c0;have aY:=hB.size;clear aC hB aI;have aZ:IntKind.i64.wrap ((j:Int)+1)=((j+1:Nat):Int):=by rw[dx _ (by omega) (by omega)];omega
   cases s0 with
   | true =>
    go_wp2;exact⟨⟨j+1,by omega,by go_num,by rw[aJ.o];simpa[aF.o] using(aG.o.alloc _),aE.o.alloc aE.o.size _⟩,by simp[intOf];omega⟩
   | false =>
    go_wp2_with (at_builtin;refine PU _ rfl _ _ 22 rfl w.heap.size underlying22 HI.o rfl (by omega) _ LL.length _ rfl ((aG.o.alloc _).alloc _) ⟨wr.heap.size+1,0,none⟩ 1 1 [.string t2] rfl rfl (World.news_of_block (by simpa using AY (wr.alloc _) _)) (by intro u hu;simp at hu;subst hu;rfl) (by simp;omega) (wr.heap.size+1+1) (by simp) ?_;intro g9 aT w9 aD aB aH aW;have aR:=LE aD;have aQ:=LE aB;clear aD aB aH);have e9:OJ (aA.take (j+1))=LL++[t2]:=by rw[aJ.o,aF.o];simp
    have aU:Below w.heap.size w w9:=RL ((aE.o.alloc aE.o.size _).alloc (by simp;omega) _) ((aG.o.alloc _).alloc _) aQ.o (by simp;omega);exact⟨⟨j+1,by omega,by go_num,by rw[e9];simpa using aR.o,aU⟩,by simp[intOf];omega⟩
  obtain rfl:j=aA.length:=by omega
  rw[DC]at aF;have aG:=LE aC;have aE:=LE hB;clear aC hB;go_wp2;go_ret;rw[<-aF.o];exact⟨_,rfl,aG.o,aE.o⟩
theorem uP(n:Nat)(w:World)(hn:n<=100000):Calls prog 183 #[.slice none 0 0,.int .i64 (n:Int)] w λr w'=>∃v,r=.returned v/\w'.ownsRow w.heap.size 9 1 v 0 []/\Below w.heap.size w w':=by
 obtain⟨i0,aA,aB,aE,aC⟩:=VG ZH;go_enter func183,ntmps183
 by_cases h0:n=0
 ·subst h0
  go_wp2;go_ret;exact⟨_,rfl,BZ _ _ _ _,AB _ _⟩
 have h1:(0:Int)<(n:Int):=by omega
 have HR:=LE (λty=>Lib.run_append_nil_zeros (P:=prog) w 22 3 ty 9 i0 _ .i64 .i64 underlying22 underlying3 aA aB n (by omega) (by omega) (by omega) (by rw[aC];omega));have aF:=JI w n 0 9;have aD:=GZ w n 0 9 (by unfold maxLen;omega);clear aA aB aE aC;go_wp2_with (at_builtin;refine Lib.wpList_append_run _ rfl _ _ _ _ rfl _ _ rfl rfl _ _ (HR.o _) ?_);go_ret;refine⟨_,rfl,⟨by simp,.inr ⟨w.heap.size,_,_,rfl,AA _,AY w.drew _,by omega,aD,?_,by simp⟩⟩,(AB _ _).drew.alloc (AA _) _⟩;simp[KF,Value.cells];omega
def QY(Ls:List (List ByteArray))(j:Nat):List ByteArray:=(Ls.take j).flatten
theorem ur(Ls:List (List ByteArray))(j:Nat)(h:j<Ls.length):QY Ls (j+1)=QY Ls j++Ls.getD j []:=by
 unfold QY;rw[List.take_add_one,List.flatten_append];simp[AM h,List.getD]
theorem jo(Ls:List (List ByteArray)):QY Ls Ls.length=Ls.flatten:=by unfold QY;rw[DC]
theorem fy(Ls:List (List ByteArray))(j:Nat):(QY Ls j).length<=(QY Ls Ls.length).length:=by
 have:=BT (λl:List (List ByteArray)=>l.flatten.length) (ES j Ls);simp only[List.flatten_append,AF]at this;rw[jo];unfold QY;omega
theorem Gr(g c0:Nat)(Ls:List (List ByteArray))(w:World)(hc:∀j,j<Ls.length->∃a c,w.cell? ⟨g,j,none⟩=some (.slice a (Ls.getD j []).length c)/\Strs w a (Ls.getD j []))(hg:g<w.heap.size)(hl:(QY Ls Ls.length).length<=10000)(hk:Ls.length<=100):Calls prog 136 #[.slice (some ⟨g,0,none⟩) Ls.length c0] w λr w'=>∃v,r=.returned v/\w'.ownsRow w.heap.size 9 1 v (QY Ls Ls.length).length ((QY Ls Ls.length).map Value.string)/\Below w.heap.size w w':=by
 obtain⟨i0,aS,aT,aU,aV⟩:=VG ZH;have HI:=LE (AG aS (AG aT (AG aU aV)));clear aS aT aU aV;have HC:=LE hc;clear hc;go_enter func136,ntmps136;go_wp2;go_loopw [3,11] (λsv iv wr=>∃j:Nat,j<=Ls.length/\iv=.int .i64 (j:Int)/\sv=.int .i64 (((QY Ls j).length:Nat):Int)/\wr=w) (λ_ iv _=>Ls.length-(intOf iv).toNat)
 case atStart=>exact⟨0,AH _,rfl,rfl,rfl⟩
 case round =>
  obtain⟨j,hj,rfl,rfl,bE⟩:=hrel;subst bE;have aN:=fy Ls j
  by_cases aG:j<Ls.length
  ·have aP:(j:Int)<(Ls.length:Int):=by omega
   have bI:(0:Int)<=(j:Int):=by omega
   obtain⟨a,c,aA,_⟩:=HC.o j aG;have aK:=fy Ls (j+1);have aL:=BT List.length (ur Ls j aG);rw[AF]at aL;obtain⟨m,HM⟩:∃m,Hid (m=(Ls.getD j []).length):=⟨_,LE rfl⟩;obtain⟨n,HN⟩:∃n,Hid (n=(QY Ls j).length):=⟨_,LE rfl⟩;rw[<-HM.o]at aA aL;rw[<-HN.o]at aL aN⊢;have bP:¬((n:Int)+(m:Int)<0):=by omega
   go_wp2
   exact⟨⟨j+1,by omega,by go_num,by congr 2;rw[aL];omega,by first|rfl|trivial⟩,by simp[intOf];omega⟩
  obtain rfl:j=Ls.length:=by omega
  have CG:=LE (uP (QY Ls Ls.length).length wr (by omega));go_wp2_with (go_at_call 183;refine CG.o.i ?_;rintro e w2 ⟨v2,rfl,aI,aQ⟩);go_loopw [6,27] (λnv iv wx=>∃j:Nat,j<=Ls.length/\iv=.int .i64 (j:Int)/\wx.ownsRow wr.heap.size 9 1 nv (QY Ls j).length ((QY Ls j).map Value.string)/\Below wr.heap.size wr wx) (λ_ iv _=>Ls.length-(intOf iv).toNat)
  case atStart=>exact⟨0,AH _,rfl,aI,aQ⟩
  case round =>
   rename World=>wx
   rename Value=>nv
   clear aI aQ;obtain⟨j,hj,rfl,aC,hB⟩:=hrel;have aN:=fy Ls j
   by_cases aG:j<Ls.length
   ·have aP:(j:Int)<(Ls.length:Int):=by omega
    have bI:(0:Int)<=(j:Int):=by omega
    obtain⟨a,c,aA,aH⟩:=HC.o j aG;replace aA:=LH hB aA;replace aH:=aH.I hB;have aK:=fy Ls (j+1);have aF:=LE (ur Ls j aG);rw[aF.o,AF]at aK;obtain⟨M,HM⟩:∃M,Hid (M=Ls.getD j []):=⟨_,LE rfl⟩;obtain⟨LL,aX⟩:∃M,Hid (M=(QY Ls j)):=⟨_,LE rfl⟩;rw[<-HM.o]at aA aH aF aK;rw[<-aX.o]at aC aN aK aF;have aE:=LE aC;have aJ:=LE hB;have bQ:=hB.size;have lg:g<wx.heap.size:=by omega
    clear aC hB
    by_cases hM:M=[]
    ·subst hM
     have HR:=LE (λty=>Ei (P:=prog) 22 ty 9 i0 1 underlying22 HI.o.1 HI.o.2.2.1 _ _ _ _ aE.o _ (af aH _ _ underlying22 c));simp only[AR]at aA HR;go_wp2_with (at_builtin;refine Lib.wpList_append_run _ rfl _ _ _ _ rfl _ _ rfl rfl _ _ (HR.o _) ?_);exact⟨⟨j+1,by omega,by go_num,by rw[aF.o,EY];exact aE.o,aJ.o⟩,by simp[intOf];omega⟩
    obtain⟨b,o,rfl,hb,aR⟩:=aH.resolve_left hM
    have hm:0<M.length:=by cases M;exact absurd rfl hM;simp
    have aY:Hid (∀k u,(M.map Value.string)[k]?=some u->wx.cell? ((⟨b,o,none⟩:Addr).add k)=some u):=λk u hu=>by
     obtain⟨aO,e'⟩:=CA.1 hu;simp only[BJ]at aO;rw[show(⟨b,o,none⟩:Addr).add k=⟨b,o+k,none⟩ by unfold Addr.add;split<;>simp_all,aR k aO,<-e'];simp[List.getD,aO]
    clear aR;go_wp2_with (at_builtin;refine wpList_append_lies _ rfl _ _ 22 rfl wr.heap.size 9 i0 (.string empty) 1 16 underlying22 HI.o.1 HI.o.2.1 HI.o.2.2.1 HI.o.2.2.2 rfl (by omega) _ LL.length _ rfl aE.o ⟨b,o,none⟩ M.length c (M.map Value.string) rfl (by simp) aY.o (by intro u hu;obtain⟨s,_,rfl⟩:=CE.1 hu;rfl) hm (by unfold maxLen;omega) (by omega) (by omega) wx.heap.size rfl ?_;intro g9 bC w9 aD aB aM bJ;have aZ:=LE aD;have aW:=LE aB;clear aD aB aM);have bF:Below wr.heap.size wr w9:=RL aJ.o aE.o aW.o (by omega);exact⟨⟨j+1,by omega,by go_num,by rw[aF.o,AF,BK];exact aZ.o,bF⟩,by simp[intOf];omega⟩
   obtain rfl:j=Ls.length:=by omega
   have aE:=LE aC;have aJ:=LE hB;clear aC hB;go_wp2;go_ret;exact⟨_,rfl,aE.o,aJ.o⟩
section
@[reducible] def QM(l:Int)(x:Wo)(q:Wp):List Value:=[.int .i32 l,.int .u32 0,.int .i64 x.w,.slice q.a x.ss.length q.c,.slice q.a' x.ws.length q.c',.bool x.up,.int .i64 x.W,.int .i64 x.S,.int .i64 x.L,.int .i64 x.T,.int .i64 x.H,.int .i64 x.F,.int .i64 x.R,.int .i64 x.U,.int .i64 x.O,.slice q.s x.rs.length q.cs,.slice q.p x.P.length q.cp,.slice q.t x.ts.length q.ct]
structure Sc(w v:World)(SB:Nat)(cs:List Value)(M:World->Prop):Prop where
 e:w.grownBy v (some SB)
 r:Row v SB cs
 m:DepF v (λb=>b≠SB) M
section
variable {w v v':World} {SB:Nat} {cs cs':List Value} {M N:World->Prop}
theorem Sc.I(h:Sc w v SB cs M)(hb:Below v.heap.size v v'):Sc w v' SB cs M :=⟨⟨hb.os.j h.e.os,hb.tape.j h.e.tape,hb.output.j h.e.output,AL h.e.size hb.size,λb hl hn=>(hb.block b (AD hl h.e.size)).j (h.e.block b hl hn)⟩,h.r.I hb,h.m.I hb⟩
theorem Sc.put(h:Sc w v SB cs M)(hg:v.grownBy v' (some SB))(hr:Row v' SB cs'):Sc w v' SB cs' M:=⟨PY h.e hg,hr,h.m.z hg (λg e k=>by cases e;exact k rfl)⟩
theorem Sc.set(h:Sc w v SB cs M)(i:Nat)(hi:i<cs.length)(u:Value):Sc w (v.setCell ⟨SB,i,none⟩ u) SB (cs.set i u) M:=h.put (MC (BH _ _) _ _) (h.r.set i hi u)
theorem Sc.add(h:Sc w v SB cs M)(k:DepF v (λb=>b≠SB) N):Sc w v SB cs (λW=>M W/\N W):=⟨h.e,h.r,h.m.and k⟩
theorem Sc.map(h:Sc w v SB cs M)(f:∀W,M W->N W):Sc w v SB cs N:=⟨h.e,h.r,h.m.map f⟩
theorem VW(r:Row w SB cs)(m:DepF w (λb=>b≠SB) M):Sc w w SB cs M:=⟨BH _ _,r,m⟩
end
theorem WoG.depF{c1 c2 c3:List Value}{R:Nat->List Pr}{c5:List Value}{q:Wp}{o:Nat->Nat}(h:WoG c1 c2 c3 n R c5 w q o)(h0:o SB=0):DepF w (λb=>b≠SB) (λW=>WoG c1 c2 c3 n R c5 W q o) :=⟨h,λw' h1 h2=>h.only (K:=λk=>k=0) ⟨h1.os,h1.tape,h1.output,h1.size,λb hb hk=>h2 b (λe=>hk (by rw[e];exact h0)) hb⟩ (λ_ k=>k)⟩
def WT(w w':World)(SB:Nat)(l:Int)(o:Nat->Nat)(y:Wo):Prop:=∃q o',Row w' SB (QM l y q)/\OO y w' q o'/\(∀b,b<w.heap.size->o' b=o b)/\w.grownBy w' (some SB)
theorem WoG.all{c1 c2 c3:List Value}{R:Nat->List Pr}{c5:List Value}{q:Wp}{o:Nat->Nat}(h:WoG c1 c2 c3 n R c5 w q o)(h0:o SB=0)(hS:SB<w.heap.size):DepF w (λb=>b≠SB) (λW=>∀o':Nat->Nat,(∀b,b<w.heap.size->o' b=o b)->WoG c1 c2 c3 n R c5 W q o') :=⟨λo' ho=>h.lab ho,λw' h1 h2 o' ho=>((h.lab ho).depF ((ho SB hS).j h0)).keep w' h1 h2⟩
theorem OwL.all{o:Nat->Nat}(h:OwL w o k a cs)(hk:k≠0)(h0:o SB=0)(hS:SB<w.heap.size):DepF w (λb=>b≠SB) (λW=>∀o':Nat->Nat,(∀b,b<w.heap.size->o' b=o b)->OwL W o' k a cs) :=⟨λo' ho=>h.lab ho,λw' h1 h2 o' ho=>(h.lab ho).only (K:=λk=>k=0) ⟨h1.os,h1.tape,h1.output,h1.size,λb hb hk=>h2 b (λe=>hk (by rw[e];exact(ho SB hS).j h0)) hb⟩ hk⟩
theorem PsR.all{o:Nat->Nat}{R:Nat->List Pr}{p:Option Addr}(h:PsR w o p n R)(h0:o SB=0)(hS:SB<w.heap.size):DepF w (λb=>b≠SB) (λW=>∀o':Nat->Nat,(∀b,b<w.heap.size->o' b=o b)->PsR W o' p n R) :=⟨λo' ho=>h.lab ho,λw' h1 h2 o' ho=>(h.lab ho).only (K:=λk=>k=0) ⟨h1.os,h1.tape,h1.output,h1.size,λb hb hk=>h2 b (λe=>hk (by rw[e];exact(ho SB hS).j h0)) hb⟩ (by omega) (λi=>by omega)⟩
theorem OwL.depF{o:Nat->Nat}(h:OwL w o k a cs)(hk:k≠0)(h0:o SB=0):DepF w (λb=>b≠SB) (λW=>OwL W o k a cs) :=⟨h,λw' h1 h2=>h.only (K:=λk=>k=0) ⟨h1.os,h1.tape,h1.output,h1.size,λb hb hk=>h2 b (λe=>hk (by rw[e];exact h0)) hb⟩ hk⟩
theorem cj{s:Nat}{v:Value}{xs:List Value}(h:w.ownsRow B e s v n xs):∃a c,v=.slice a n c:=by
 rcases h.2 with ⟨rfl,rfl⟩|⟨g,cap,cur,rfl,_⟩
 ·exact⟨_,_,rfl⟩
 exact⟨_,_,rfl⟩
theorem wK{ss:List ByteArray}(h:w.ownsRow B 9 1 (.slice a n c) ss.length (ss.map Value.string)):Strs w a ss:=by
 rcases MM h with ⟨e,h0⟩|⟨g,cap,e,_,_,hr⟩
 ·exact .inl (AC h0)
 injection e with e;subst e;exact OwnS.strs (.inr ⟨g,rfl,hr⟩)
theorem He{g:Nat}{a':Option Addr}{c':Nat}{ss ts:List ByteArray}(h1:w.cell? ⟨g,0,none⟩=some (.slice a ss.length c))(h2:w.cell? ⟨g,1,none⟩=some (.slice a' ts.length c'))(k1:Strs w a ss)(k2:Strs w a' ts)(j:Nat)(hj:j<[ss,ts].length):∃a c,w.cell? ⟨g,j,none⟩=some (.slice a ([ss,ts].getD j []).length c)/\Strs w a ([ss,ts].getD j []):=by
 match j,hj with
 | 0,_=>exact⟨a,c,h1,k1⟩
 | 1,_=>exact⟨a',c',h2,k2⟩
theorem xa{s:Nat}{xs:List Value}(h:w.ownsRow B e s (.slice a n c) n xs):OwnS w a xs/\∀g,blk a n=some g->B<=g/\g<w.heap.size:=by
 rcases MM h with ⟨e1,e2⟩|⟨g,cap,e1,e2,e3,e4⟩
 ·exact⟨.inl (AC (by rw[h.1,e2,Nat.zero_mul])),λg k=>by rw[e2]at k;simp[blk]at k⟩
 injection e1 with e1 _ _
 subst e1;exact⟨.inr ⟨g,rfl,e4⟩,λg' k=>by rw[WJ k];exact⟨e2,e3⟩⟩
def WM(N:Nat)(o:Nat->Nat)(r1 r2:Option Nat)(b:Nat):Nat:=if b<N then o b else if r1=some b then 1 else if r2=some b then 2 else 4
section
variable {N:Nat} {o:Nat->Nat} {r1 r2:Option Nat} {b:Nat}
theorem Ff(h:b<N):WM N o r1 r2 b=o b:=AK h
theorem Bt(h:N<=b)(h1:r1=some b):WM N o r1 r2 b=1:=by unfold WM;rw[AE (by omega),AK h1]
theorem Ed(h:N<=b)(h1:r2=some b)(hn:r1=none\/r2=none\/r1≠r2):WM N o r1 r2 b=2:=by unfold WM;rw[AE (by omega),AE (λe=>by rw[e,h1]at hn;simp at hn),AK h1]
theorem qZ(h:N<=b)(h1:r1≠some b)(h2:r2≠some b):WM N o r1 r2 b=4:=by unfold WM;rw[AE (by omega),AE h1,AE h2]
end
theorem RJ{o:Nat->Nat}(h:OwnS w a cs)(hn:cs≠[]->n≠0)(hg:∀g,blk a n=some g->lo<=g)(ho:∀g,blk a n=some g->o g=k):OwL w o k a cs :=mv h (λg e1 e2=>ho g (by rw[e1];exact MI _ _ _ (hn e2)))
theorem TA(h:OwnS w a cs)(hn:cs≠[]->n≠0)(hg:∀g,blk a n=some g->lo<=g)(hS:SB<lo):DepF w (λb=>b≠SB) (λW=>OwnS W a cs):=WW (PG h hn hg) (λb h1 _=>by omega)
theorem zj(x:Wo)(q:Wp)(f:Option Addr)(fs:List Int)(d SB:Nat)(l:Int)(o:Nat->Nat)(w:World)(hR:Row w SB (QM l x q))(h:OO x w q o)(h0:o SB=0)(hf:Ints w f fs)(hm:x.le 1048576)(aC:fs.length<=1048576):Calls prog 86 #[.pointer (some ⟨SB,0,none⟩),.slice f fs.length d] w λr w'=>r=.returned (.tuple #[])/\WT w w' SB l o (x.pow fs):=by
 have CP:=LE (Eb q.a x.ss q.c q.a' x.ws q.c' f fs d w h.at.h1 h.at.h2 hf aC hm.l1 hm.l2 hm.s1 hm.s2);unfold LN at CP;have lS:=hR.lt;have S0:=VW hR (h.all h0 lS);clear hR hf hm aC h;go_enter func86,ntmps86;have c3:=S0.r.x 3;have c4:=S0.r.x 4;have cl:=S0.r.lt;go_wp2_with fail;clear c3 c4 cl;refine CP.o.i ?_;rintro r v1 ⟨a1,c1,aA,aB,rfl,ho,hg,hb⟩;replace S0:=S0.I hb;have aN:=hb.size;obtain⟨X,HX⟩:∃X,Hid (X=PO fs x.ss x.ws):=⟨_,LE rfl⟩;rw[<-HX.o]at ho hg⊢;have HP:Hid (x.pow fs={ x with ss:=X,ws:=[],up:=false,W:=0,S:=0,L:=0,T:=0,H:=0,F:=0,R:=0,U:=0,O:=0,rs:=[] }):=LE (by rw[HX.o];rfl);replace S0:=S0.add (TA ho TC hg lS);clear hb CP HX ho;have c3:=S0.r.x 3;have c4:=S0.r.x 4;have c5:=S0.r.x 5;have c6:=S0.r.x 6;have c7:=S0.r.x 7;have c8:=S0.r.x 8;have c9:=S0.r.x 9;have c10:=S0.r.x 10;have aD:=S0.r.x 11
 have c12:=S0.r.x 12;have aE:=S0.r.x 13;have aF:=S0.r.x 14;have aG:=S0.r.x 15;have f3:=S0.r.q 3;have f4:=S0.r.q 4;have f5:=S0.r.q 5;have f6:=S0.r.q 6;have f7:=S0.r.q 7;have f8:=S0.r.q 8;have f9:=S0.r.q 9;have aH:=S0.r.q 10;have aI:=S0.r.q 11;have aJ:=S0.r.q 12;have aK:=S0.r.q 13;have aL:=S0.r.q 14;have aM:=S0.r.q 15;have cl:=S0.r.lt;go_wp2;clear c3 f3 c4 f4 c5 f5 c6 f6 c7 f7 c8 f8 c9 f9 c10 aH aD aI c12 aJ aE aK aF aL aG aM cl;have S1:=(((((((((((((S0.set 3 (by simp) (.slice a1 X.length c1)).set 4 (by simp) (.slice aA 0 aB)).set 5 (by simp) (.bool false)).set 6 (by simp) (.int .i64 0)).set 7 (by simp) (.int .i64 0)).set 8 (by simp) (.int .i64 0)).set 9 (by simp) (.int .i64 0)).set 10 (by simp) (.int .i64 0)).set 11 (by simp) (.int .i64 0)).set 12 (by simp) (.int .i64 0)).set 13 (by simp) (.int .i64 0)).set 14 (by simp) (.int .i64 0)).set 15 (by simp) (.slice none 0 0))
 generalize World.setCell _ _ _=v2 at S1⊢;rw[HP.o];refine FU (v:=.tuple #[]) (by simp[results,results86]) rfl ⟨rfl,⟨a1,c1,aA,aB,none,0,q.p,q.cp,q.t,q.ct⟩,λb=>if b<w.heap.size then o b else 1,S1.r,?_,λb hb=>AK hb,S1.e⟩;have HW:=S1.m.l.1 (λb=>if b<w.heap.size then o b else 1) (λb hb=>AK hb);exact⟨RJ S1.m.l.2 TC hg (λg e=>AE (by have:=hg g e;omega)),.inl rfl,.inl rfl,HW.h4,HW.h5⟩
def Wo.no(x:Wo)(e:Ev)(D:Dd):Prop:=D.C≠0\/200<(OL x e D).length\/2000<(QP x e D).length
def Wo.runE(x:Wo)(e:Ev)(D:Dd):Wo:=if D.C≠0\/200<(OL x e D).length\/2000<(QP x e D).length then x else if QH e D=true then (x.ran e D).pow e.fs else (x.ran e D).upS D
def Wo.runB(x:Wo)(e:Ev)(D:Dd):Bool:=if D.C≠0\/200<(OL x e D).length\/2000<(QP x e D).length then false else !QH e D
theorem Ar(ss:List ByteArray)(ws:List (Int×ByteArray))(aA:List NM)(N:Nat)(h:N<=aA.length):NU ss ws (aA.take N) (N:Int)=NU ss ws aA (N:Int):=by
 unfold NU PQ;simp[BC,Nat.min_eq_left h,GT]
theorem Hj{rs:List NM}(h:Ops w a rs)(k:Nat):Ops w a (rs.take k):=by
 rcases h with h|⟨b,o,e,hb,hc⟩
 ·exact .inl (by rw[h];exact List.take_nil)
 refine .inr ⟨b,o,e,hb,λi hi=>?_⟩
 rw[BC]at hi;have:=hc i (by omega);rw[show(rs.take k).getD i (false,0,empty)=rs.getD i (false,0,empty) by simp[List.getD,FH,show i<k by omega]];exact this
theorem o7(x:Wo)(q:Wp)(e:Ev)(a:Option Addr)(c:Nat)(f:Option Addr)(d:Nat)(D:Dd)(oa:Option Addr)(oc:Nat)(ob:Option Addr)(oe:Nat)(p:Option Addr)(cp SB:Nat)(l:Int)(o:Nat->Nat)(w:World)(hR:Row w SB (QM l x q))(h:OO x w q o)(h0:o SB=0)(hp:UY w o p (OL x e D))(hs:OwL w o 3 oa (LI D.rs))(hb:OwL w o 6 ob (MW D.ops))(cI:D.ops.length<=oe)(hf:DepF w (λb=>b≠SB) (λW=>Ints W f e.fs))(ho:x.ok)(hd:D.ok)(he:e.le):Calls prog 83 #[.pointer (some ⟨SB,0,none⟩),MK e a c f d,MQ D oa oc ob oe,.slice p (OL x e D).length cp] w λr w'=>r=.returned (.bool (x.runB e D))/\WT w w' SB l o (x.runE e D):=by
 have hm:=ho.le;have lS:=hR.lt;have S0:=((((VW hR (h.all h0 lS)).add (hp.all h0 lS)).add (hs.all (by omega) h0 lS)).add (hb.all (by omega) h0 lS)).add hf;clear hR h hp hs hb hf;have cT:=hd.2.1;obtain⟨aY,aB⟩:∃y,Hid (y=x.runE e D):=⟨_,LE rfl⟩;obtain⟨RB,aN⟩:∃y,Hid (y=x.runB e D):=⟨_,LE rfl⟩;rw[<-aB.o,<-aN.o];obtain⟨N,HN⟩:∃N,Hid (N=VE e D):=⟨_,LE rfl⟩;obtain⟨CB,aW⟩:∃b,Hid (b=QH e D):=⟨_,LE rfl⟩;have cS:N<=D.ops.length:=by rw[HN.o];exact tz e D
 obtain⟨PP,aG⟩:∃y,Hid (y=OL x e D):=⟨_,LE rfl⟩;rw[<-aG.o]at S0⊢;have bV:PP.length<=201:=by have:=ho.p.1;rw[aG.o];unfold OL;split<;>(try simp)<;>omega
 obtain⟨LL,aH⟩:∃y,Hid (y=QP x e D):=⟨_,LE rfl⟩;have CO:Hid (∀w',Calls prog 135 #[.slice ob D.ops.length oe,.int .i64 e.cut] w' λr cX=>r=.returned (.tuple #[.slice ob (VE e D) oe,.bool (QH e D)])/\cX=w'):=LE (λw'=>tP ob D.ops.length oe e.cut w' cI cT);rw[<-HN.o,<-aW.o]at CO;obtain⟨OT,aM⟩:∃y,Hid (y=D.ops.take N):=⟨_,LE rfl⟩;have cF:OT.length=N:=by rw[aM.o,BC];omega
 have CD:=LE (λw' k=>sM ob OT oe w' k (by omega));rw[cF]at CD;have cB:Hid (∀W,Ops W ob D.ops->Ops W ob OT):=LE (λW k=>by rw[aM.o];exact Hj k N);have aZ:[x.ts,OJ OT].flatten=LL:=by rw[aH.o,aM.o,HN.o];simp[QP]
 have bQ:LL.length<=3000:=by have h1:=ho.t.1;have h2:=qh OT;rw[<-aZ];simp;omega
 have CF:=LE (λw' k1 k2 k3=>Cm q.a x.ss q.c q.a' x.ws q.c' ob OT oe (N:Int) w' k1 k2 k3 (by omega) (by omega) (λo ho=>by have:=hd.2.2 o (by rw[aM.o]at ho;exact DQ ho);omega) hm.l1 hm.l2 hm.s1 hm.s2);obtain⟨RR,bE⟩:∃y,Hid (y=NU x.ss x.ws D.ops (N:Int)):=⟨_,LE rfl⟩;rw[show NU x.ss x.ws OT (N:Int)=RR by rw[bE.o,aM.o];exact Ar _ _ _ _ cS,cF]at CF;have HD:=LE hd;have HM:=LE hm;have HO:=LE ho;have HE:=LE he;clear hd hm ho he cI;unfold LN at CF;unfold MK MQ;go_enter func83,ntmps83;go_upto_region 1 with fail;generalize aP:w.alloc _=v1;obtain⟨cH,aU,b2⟩:=LJ aP;clear aP;generalize aQ:v1.alloc _=v2;obtain⟨bT,aV,b3⟩:=LJ aQ;clear aQ;rw[aU]at b3 aV;replace S0:=(((S0.I cH).I bT).add (QI (b2.I bT).l (by omega))).add (QI b3.l (by omega));have l2:w.heap.size+1<v2.heap.size:=by omega
 clear cH bT b2 b3 aU aV;have cY:=S0.m.l.1.2.lt;have e2:=S0.m.l.1.2.x 2;have cN:=S0.m.l.2.x 11;have dl:=S0.m.l.2.lt;go_wp2_with fail;clear e2 cN;refine(CO.o _).i ?_;rintro r w3 ⟨rfl,cJ⟩;rw[cJ];clear cJ w3 CO;go_upto_region 2 with fail;have aC:Hid (∀W,Below v2.heap.size v2 W->W.cell? ⟨SB,17,none⟩=some (.slice q.t x.ts.length q.ct)):=LE (λW hb=>(S0.I hb).r.x 17);have dD:=AB v2.heap.size v2;refine AP (S:=λw'=>w'.cell? ⟨SB,17,none⟩=some (.slice q.t x.ts.length q.ct)) (by kernel_rfl) (aC.o _ dD.drew) (λaA=>?_);refine TY 0 (.pointer (some ⟨SB,0,none⟩)) rfl aA (TY 1 (.pointer (some ⟨SB,0,none⟩)) rfl aA (TY 2 (.pointer (some ⟨SB,2,none⟩)) rfl aA (TK 3 (.pointer (some ⟨SB,17,none⟩)) rfl (BN ⟨by rfl,λw hw=>by obtain z0:=hw;have l:=BE _ _ hw;go_simp⟩) aA (TY 4 (.slice q.t x.ts.length q.ct) rfl aA (TY 5 (.slice ob N oe) rfl aA ?_)))))
 simp only[PS];refine RD 6 rfl (λKq aE=>?_);replace dD:=dD.drew;refine LK (by rfl) 137 #[.slice ob N oe] (by go_simp) (CD.o _ (cB.o _ ((S0.I dD).m.l.1.1.1.2 o (λ_ _=>rfl)).own.ops)) ?_;rintro r y1 ⟨vd,rfl,od,hb⟩;refine⟨_,rfl,?_⟩;have lD:=dD.size;replace dD:=dD.j (hb.i dD.size);clear hb CD;refine aE.o _ _ (aC.o _ dD) (λaD=>?_)
 try simp only[PS]
 refine RD 7 rfl (λKq aE=>?_);obtain⟨bW,b7,rfl⟩:∃a c,vd=.slice a (OJ OT).length c:=cj od;go_simp;obtain⟨y2,aK⟩:∃y,y=y1.alloc (.cells #[.slice q.t x.ts.length q.ct,.slice bW (OJ OT).length b7] 22):=⟨_,rfl⟩;rw[<-aK];have rB:=ME y1 #[.slice q.t x.ts.length q.ct,.slice bW (OJ OT).length b7] 22;have hb:=LG y1 (.cells #[.slice q.t x.ts.length q.ct,.slice bW (OJ OT).length b7] 22);rw[<-aK]at rB hb;obtain⟨GB,aO⟩:∃y,y=y1.heap.size:=⟨_,rfl⟩;rw[<-aO]at rB⊢;have oT:=LY od hb;replace dD:=dD.j (hb.i dD.size);have lY:=dD.size;clear aK aO hb od;refine aE.o _ _ (aC.o _ dD) (λaS=>?_)
 try simp only[PS]
 refine RD 8 rfl (λKq aE=>?_);have CC:=Gr GB 2 [x.ts,OJ OT] y2 (He (rB.x 0) (rB.x 1) ((S0.I dD).m.l.1.1.1.1.1.1 o (λ_ _=>rfl)).h5.own.strs (wK oT)) rB.lt (by rw[jo,aZ];omega) (by simp);rw[jo,aZ]at CC;refine LK (by rfl) 136 #[.slice (some ⟨GB,0,none⟩) 2 2] (by go_simp) CC ?_;rintro r y3 ⟨vt,rfl,ot,hb⟩;refine⟨_,rfl,?_⟩;have l3:=hb.size;replace dD:=dD.j (hb.i dD.size);clear hb CC oT rB;refine aE.o _ _ (aC.o _ dD) (λaT=>?_)
 try simp only[PS]
 refine RD 9 rfl (λKq aE=>?_);go_simp;refine aE.o _ _ aT (λ_=>?_)
 try simp only[PS]
 refine DN ?_;obtain⟨ta,tc,rfl⟩:=cj ot;obtain⟨oT,gT⟩:=xa ot
 have aR:∀g,blk ta LL.length=some g->w.heap.size<=g:=λg k=>by have:=(gT g k).1;omega
 replace S0:=(S0.I dD).add (TA oT TC aR lS);clear aC ot oT dD lD l3 aD aS aT aA;have d0:=S0.m.l.1.2.x 0;have dl:=S0.m.l.1.2.lt;go_upto_region 3 with fail;generalize Value.tuple _=T9;generalize Value.agg _=A8;generalize Value.agg _=A9;go_cut [41] from 29 to 40 (λbv wx=>bv=.bool (decide (D.C≠0\/200<PP.length\/2000<LL.length))/\wx=y3)
 case first =>
  by_cases t0:D.C=0
  ·have cU:(D.C == 0)=true:=by simp[t0]
   have T0:=LE t0;clear t0
   by_cases t1:200<PP.length
   ·have cV:(200:Int)<(PP.length:Int):=by omega
    go_wp2_with fail;go_meet;exact⟨by rw[AO (.inr (.inl t1))],rfl⟩
   have cV:¬((200:Int)<(PP.length:Int)):=by omega
   by_cases t2:2000<LL.length
   ·have cW:(2000:Int)<(LL.length:Int):=by omega
    go_wp2_with fail;go_meet;exact⟨by rw[AO (.inr (.inr t2))],rfl⟩
   have cW:¬((2000:Int)<(LL.length:Int)):=by omega
   go_wp2_with fail;go_meet;exact⟨by rw[AI (by have:=T0.o;omega)],rfl⟩
  have cU:(D.C == 0)=false:=by simp[t0]
  go_wp2_with fail;go_meet;exact⟨by rw[AO (.inl t0)],rfl⟩
 case rest =>
 obtain⟨rfl,cE⟩:=hcut;rw[cE];clear cE d0 dl
 by_cases aI:D.C≠0\/200<PP.length\/2000<LL.length
 ·rw[AO aI]
  have er:x=aY:=by rw[aB.o];unfold Wo.runE;rw[<-aG.o,<-aH.o,AK aI]
  have eb:false=RB:=by rw[aN.o];unfold Wo.runB;rw[<-aG.o,<-aH.o,AK aI]
  clear aB aN;subst er eb;have SH:=LE S0;clear S0 CF aI;go_wp2;refine AJ (v:=.bool false) (by simp[results,results83]) rfl ⟨rfl,q,o,SH.o.r,SH.o.m.l.1.1.1.1.1.1.1 o (λ_ _=>rfl),λ_ _=>rfl,SH.o.e⟩
 rw[AI aI];obtain⟨Y,HY⟩:∃y,Hid (y=x.ran e D):=⟨_,LE rfl⟩;have bF:Hid (Y={ x with ss:=RR.1,ws:=RR.2,P:=PP,ts:=LL }):=LE (by rw[HY.o,bE.o,aG.o,aH.o,HN.o];rfl);have cL:Hid (Y.le 1048576):=LE (by rw[HY.o];exact(HO.o.ran e (d:=D) HD.o (by rw[<-aG.o,<-aH.o];omega)).le);have er:aY=if CB=true then Y.pow e.fs else Y.upS D:=by rw[aB.o,HY.o,aW.o];unfold Wo.runE;rw[<-aG.o,<-aH.o,AE aI]
 have eb:RB=!CB:=by rw[aN.o,aW.o];unfold Wo.runB;rw[<-aG.o,<-aH.o,AE aI]
 have ER:=LE er;have EB:=LE eb;clear er eb aI aB aN bE HN aW HY bV bQ aZ aH aG;have c3:=S0.r.x 3;have c4:=S0.r.x 4;have c16:=S0.r.x 16;have cM:=S0.r.x 17;have cO:=S0.r.q 16;have cP:=S0.r.q 17;have cl:=S0.r.lt;go_wp2_with fail;clear c3 c4 c16 cO cM cP cl;replace S0:=(S0.set 16 (by simp) (.slice p PP.length cp)).set 17 (by simp) (.slice ta LL.length tc);have z6:((y3.setCell ⟨SB,16,none⟩ (.slice p PP.length cp)).setCell ⟨SB,17,none⟩ (.slice ta LL.length tc)).heap.size=y3.heap.size:=by rw[AV,AV]
 generalize bI:World.setCell (World.setCell _ _ _) _ _=v6 at S0 z6⊢;clear bI;have HW:=S0.m.l.1.1.1.1.1.1.1 o (λ_ _=>rfl);refine(CF.o _ HW.h1.own.strs HW.h2.own.wrs (cB.o _ (S0.m.l.1.1.1.1.2 o (λ_ _=>rfl)).own.ops)).i ?_;rintro r7 v7 ⟨a1,k1,aF,aJ,rfl,bC,g1,g2,hb⟩;have l6:=S0.e.size;have l7:=hb.size
 have gA:∀g,blk a1 RR.1.length=some g->w.heap.size<=g:=λg k=>by have:=g1 g k;omega
 have gB:∀g,blk aF RR.2.length=some g->w.heap.size<=g:=λg k=>by have:=g2 g k;omega
 replace S0:=((S0.I hb).add (TA bC.s TC gA lS)).add (TA bC.p VS gB lS);have bU:=bC.ne;clear hb CF bC HW;have c3:=S0.r.x 3;have c4:=S0.r.x 4;have f3:=S0.r.q 3;have f4:=S0.r.q 4;have cl:=S0.r.lt;go_upto_region 7 with fail;clear c3 f3 c4 f4 cl;replace S0:=(S0.set 3 (by simp) (.slice a1 RR.1.length k1)).set 4 (by simp) (.slice aF RR.2.length aJ);have z8:((v7.setCell ⟨SB,3,none⟩ (.slice a1 RR.1.length k1)).setCell ⟨SB,4,none⟩ (.slice aF RR.2.length aJ)).heap.size=v7.heap.size:=by rw[AV,AV]
 generalize bJ:World.setCell (World.setCell _ _ _) _ _=v8 at S0 z8⊢;clear bJ;obtain⟨o1,aL⟩:∃y,Hid (y=WM w.heap.size o (blk a1 RR.1.length) (blk aF RR.2.length)):=⟨_,LE rfl⟩
 have ag:∀b,b<w.heap.size->o1 b=o b:=λb hb=>by rw[aL.o];exact Ff hb
 have aX:DepF v8 (λb=>b≠SB) (λW=>OO Y W ⟨a1,k1,aF,aJ,q.s,q.cs,p,cp,ta,tc⟩ o1):=S0.m.map (λW ⟨⟨⟨⟨⟨⟨⟨⟨⟨mW,mP⟩,mS⟩,mO⟩,mI⟩,rE⟩,rD⟩,mT⟩,mA⟩,mB⟩=>by
  rw[bF.o];refine⟨RJ mA TC gA (λg k=>by rw[aL.o];exact Bt (gA g k) k),RJ mB VS gB (λg k=>by rw[aL.o];exact Ed (gB g k) k bU),(mW o1 ag).h3,mP o1 ag,RJ mT TC aR (λg k=>?_)⟩
  rw[aL.o];exact qZ (aR g k) (λe=>by have:=g1 g e;have:=(gT g k).2;omega) (λe=>by have:=g2 g e;have:=(gT g k).2;omega))
 have z1:o1 SB=0:=(ag SB lS).j h0
 cases CB with
 | true =>
  have CL:=zj Y ⟨a1,k1,aF,aJ,q.s,q.cs,p,cp,ta,tc⟩ f e.fs d SB l o1 v8 (by rw[bF.o];exact S0.r) aX.l z1 S0.m.l.1.1.1.1.1.2 cL.o HE.o.f;have e3:=S0.m.l.1.1.1.1.2.x 3;have el:=S0.m.l.1.1.1.1.2.lt;have SE:=LE S0.e;clear S0 aX gA gB gT aR g1 g2 bU h0 aL;have cA:=LE CL;clear CL;go_wp2_with fail;clear e3 el;refine cA.o.i ?_;rintro r9 v9 ⟨rfl,q2,o2,R9,W9,a9,G9⟩;have H9:=LE (AG R9 W9);have HG:=LE G9;clear R9 W9 cA G9;go_wp2;refine AJ (v:=.bool false) (by simp[results,results83]) rfl ⟨by rw[EB.o];rfl,q2,o2,?_,?_,λb hb=>(a9 b (by omega)).j (ag b hb),PY SE.o HG.o⟩
  ·rw[ER.o];exact H9.o.1
  rw[ER.o];exact H9.o.2
 | false =>
  have er:aY=Y.upS D:=by rw[ER.o,AE (by simp)]
  have cC:DepF v8 (λb=>b≠SB) (λW=>OO aY W ⟨a1,k1,aF,aJ,oa,oc,p,cp,ta,tc⟩ o1):=(aX.and S0.m).map (λW ⟨hW,⟨⟨⟨⟨⟨⟨⟨⟨⟨mW,mP⟩,mS⟩,mO⟩,mI⟩,rE⟩,rD⟩,mT⟩,mA⟩,mB⟩⟩=>by rw[er];exact⟨hW.h1,hW.h2,mS o1 ag,hW.h4,hW.h5⟩);replace S0:=S0.add cC;clear cC aX gA gB gT aR g1 g2 bU h0 aL;go_upto_region 10 with fail;refine AP (S:=λw'=>Row w' (w.heap.size+1) (dJ D.C D.W D.S D.L D.T D.H D.F D.R D.U D.O (.slice oa D.rs.length oc) (.slice ob D.ops.length oe))/\SB<w'.heap.size) (by kernel_rfl) (⟨(S0.I (AB v8.heap.size v8).drew).m.l.1.1.1.1.2,(S0.I (AB v8.heap.size v8).drew).r.lt⟩) (λaA=>?_);refine TY 0 (.pointer (some ⟨SB,0,none⟩)) rfl aA (TY 1 (.pointer (some ⟨SB,0,none⟩)) rfl aA (TK 2 (.pointer (some ⟨w.heap.size+1,1,none⟩)) rfl (BN ⟨by rfl,λw hw=>by obtain⟨z0,z1⟩:=hw;have l:=z0.lt;go_simp⟩) aA (TK 3 (.agg (sK D.W D.S D.L D.T D.H D.F D.R D.U D.O (.slice oa D.rs.length oc))) rfl (BN ⟨by rfl,λw hw=>by obtain⟨z0,z1⟩:=hw;exact OP 50 _ rfl _ 1 rfl (sJ D.W D.S D.L D.T D.H D.F D.R D.U D.O (.slice oa D.rs.length oc)) _ (Row.rangeMid (pre:=[.int .i64 D.C]) (cs:=(sJ D.W D.S D.L D.T D.H D.F D.R D.U D.O (.slice oa D.rs.length oc))) (post:=[.slice ob D.ops.length oe]) z0) underlying50 rfl OH⟩) aA (TY 4 (.pointer (some ⟨SB,0,none⟩)) rfl aA (TY 5 (.pointer (some ⟨SB,2,none⟩)) rfl aA (TY 6 (.pointer (some ⟨SB,5,none⟩)) rfl aA ?_))))))
  simp only[PS];refine RD 7 rfl (λKq aE=>?_);replace S0:=S0.I (AB v8.heap.size v8).drew;generalize bP:v8.drew=y9 at S0⊢;clear bP;have c5:=S0.r.x 5;have f5:=S0.r.q 5;go_simp;clear c5 f5;replace S0:=S0.set 5 (by simp) (.bool true);generalize World.setCell _ _ _=y4 at S0⊢;refine aE.o _ _ (⟨S0.m.l.1.1.1.1.2,S0.r.lt⟩) (λaD=>?_)
  try simp only[PS]
  refine TY 8 (.pointer (some ⟨SB,0,none⟩)) rfl aD (TY 9 (.pointer (some ⟨SB,2,none⟩)) rfl aD (TY 10 (.pointer (some ⟨SB,6,none⟩)) rfl aD ?_));simp only[PS];refine RD 11 rfl (λKq aE=>?_);refine UK rfl 50 _ _ rfl SB 6 (sK D.W D.S D.L D.T D.H D.F D.R D.U D.O (.slice oa D.rs.length oc)) rfl rfl (Row.thereMid (pre:=[.int .i32 l,.int .u32 0,.int .i64 x.w,.slice a1 RR.1.length k1,.slice aF RR.2.length aJ,.bool true]) (cs:=(sJ x.W x.S x.L x.T x.H x.F x.R x.U x.O (.slice q.s x.rs.length q.cs))) (post:=[.slice p PP.length cp,.slice ta LL.length tc]) S0.r rfl) OH (by kernel_rfl) ?_;replace S0:=S0.put (PJ _ SB 6 (sJ D.W D.S D.L D.T D.H D.F D.R D.U D.O (.slice oa D.rs.length oc))) (Row.setsMid (pre:=[.int .i32 l,.int .u32 0,.int .i64 x.w,.slice a1 RR.1.length k1,.slice aF RR.2.length aJ,.bool true]) (cs:=(sJ x.W x.S x.L x.T x.H x.F x.R x.U x.O (.slice q.s x.rs.length q.cs))) (post:=[.slice p PP.length cp,.slice ta LL.length tc]) S0.r (sJ D.W D.S D.L D.T D.H D.F D.R D.U D.O (.slice oa D.rs.length oc)) rfl)
  generalize World.setCells _ _ _ _=y5 at S0⊢;refine aE.o _ _ (⟨S0.m.l.1.1.1.1.2,S0.r.lt⟩) (λaS=>?_)
  try simp only[PS]
  refine DN ?_;have SH:=LE S0;have cQ:=LE er;clear S0 er;go_wp2;refine AJ (v:=.bool true) (by simp[results,results83]) rfl ⟨by rw[EB.o];rfl,⟨a1,k1,aF,aJ,oa,oc,p,cp,ta,tc⟩,o1,?_,?_,ag,SH.o.e⟩
  ·rw[cQ.o,bF.o];exact SH.o.r
  exact SH.o.m.l.2
end
def sU(v wx:World)(es:List ByteArray)(U L:Int)(v7:Value):Prop:=∃(BX:Nat) (ax:Option Addr) (cx:Nat),v7=.pointer (some ⟨BX,0,none⟩)/\Row wx BX [.slice ax es.length cx,.int .i64 U,.int .i64 L]/\v.heap.size<=BX/\OwnS wx ax (es.map Value.string)/\(∀g,blk ax es.length=some g->v.heap.size<=g)/\Below v.heap.size v wx
theorem yW(a:Option Addr)(ss:List ByteArray)(c:Nat)(a':Option Addr)(ws:List (Int×ByteArray))(c':Nat)(n:Int)(w:World)(h:Strs w a ss)(h':Wrs w a' ws)(hl:ss.length<=1048576)(cZ:ws.length<=1048576)(hs:∀s∈ss,s.size<=1048576)(dH:∀x∈ws,x.2.size<=1048576)
  (ty:TypeId)(v:Value)(cM:w.cell? ⟨1,0,none⟩=some (.iface ty v))(cH:w.cell? ⟨0,0,none⟩=some (.iface 318 (.agg #[.pointer (some ⟨3,223,none⟩)])))(eR:1<w.heap.size):Calls prog 81 #[LN a ss.length c a' ws.length c',.int .i64 n] w λx w'=>ZM w w' x (PC ss ws n):=by
 have HV:=LE (λ(wx:World) k1 k2=>UI a ss c a' ws c' wx k1 k2 hl cZ hs dH);obtain⟨D,HD⟩:∃D,Hid (D=PC ss ws n):=⟨_,LE rfl⟩;rw[<-HD.o];unfold LN;go_enter func81,ntmps81;go_upto_region 1 with fail;generalize bP:w.alloc _=v1;obtain⟨cW,cC,b1⟩:=LJ bP;clear bP;generalize bQ:v1.alloc _=v2;obtain⟨cX,dN,b2⟩:=LJ bQ;clear bQ;rw[cC]at b2;have B0:StB w v2 [.slice a ss.length c,.slice a' ws.length c'] (λ_=>True):=⟨cW.j (cX.i cW.size),(b1.I cX).l,b2.l,SX (λ_=>trivial)⟩;have l2:w.heap.size+1<v2.heap.size:=b2.l.lt;clear cW cX b1 b2 cC dN;have c0:=B0.r1.x 0;have c1:=B0.r1.x 1;have cl:=B0.r1.lt;unfold LN at HV;go_wp2_with fail;clear c0 c1 cl;refine(HV.o _ (h.I B0.e) (h'.I B0.e)).i ?_;rintro x v3 ⟨rfl,hb⟩;replace B0:=B0.I hb;clear hb l2 HV
 cases hok:LS ss ws with
 | false =>
  obtain rfl:D=LT 1:=HD.o.j (bh (λk=>by rw[hok]at k;exact absurd k.1 (by simp)));clear cM cH;go_upto_region 2 with fail;refine B0.noR 1 _ _ rfl (by go_simp) rfl rfl rfl rfl (λy R8 aE=>?_)
  try simp only[PS]
  clear B0
  try go_wp2
  refine TG 4 results81 _ ?_ R8 ?_ aE.o<;>rfl
 | true =>
 by_cases hn:1<=n/\n<=8
 case neg =>
  have hd:=AI hn;obtain rfl:D=LT 1:=HD.o.j (bh (λk=>hn k.2));clear cM cH;go_upto_region 2 with (go_at_call 72;refine(QZ _ _).i ?_;rw[hd];refine MT ?_);refine B0.noR 1 _ _ rfl (by go_simp) rfl rfl rfl rfl (λy R8 aE=>?_)
  try simp only[PS]
  clear B0
  try go_wp2
  refine TG 4 results81 _ ?_ R8 ?_ aE.o<;>rfl
 have aM:=AG hok hn;have hd:=AO hn;have hg:=dk aM;have dM:=ni aM;obtain⟨⟨eZ,fA,fB⟩,_,_⟩:=OZ aM.1;have hQ:=PH (S:=(ss.length:Int)) (by omega);obtain⟨T,H,F,R,bW⟩:∃T H F R,MS ss ws n=(T,H,F,R):=⟨_,_,_,_,rfl⟩;obtain⟨es,U,L,hX⟩:∃es U L,OM ss ws n=(es,U,L):=⟨_,_,_,rfl⟩;have eG:RM ss ws (2+H*hv ss.length) (hv ss.length) F R n=(es,U,L):=by rw[<-hX];unfold OM;rw[bW]
 rw[bW]at hg;rw[hX]at dM;unfold UL at hg;simp only at hg dM;obtain⟨hT,hH,hF,hR⟩:=hg;obtain⟨hU,hL,eY,eH⟩:=dM;have eM:=LE eH;clear eH;have eB:=LE (λwx (hb:Below w.heap.size w wx)=>((hb.cell (p:=⟨1,0,none⟩) eR).j cM));have dZ:=LE (λwx (hb:Below w.heap.size w wx)=>((hb.cell (p:=⟨0,0,none⟩) (by show 0<_;omega)).j cH));have cE:=LE (λwx k1 k2 (hb:Below w.heap.size w wx)=>Fz a ss c a' ws c' n wx k1 k2 hl cZ hs dH ty v (eB.o _ hb) (dZ.o _ hb) (by have:=hb.size;omega));rw[bW]at cE;simp only[WR]at cE;have eS:=il hH (q:=hv ss.length) (by omega);have aO:=LE (λwx k1 k2 (hb:Below w.heap.size w wx)=>(sH a ss c a' ws c' (2+H*hv ss.length) (hv ss.length) F R n wx k1 k2 hl cZ hs dH (by omega) (by omega) ty v (eB.o _ hb) (dZ.o _ hb) (by have:=hb.size;omega)).i (λe w2 hh=>ym hh));rw[eG]at aO;simp only[nu]at aO;have HH:=LE (λwx=>ZI (ss.length:Int) wx);have HB:=LE (λwx=>qT (ss.length:Int) H hH.1 hH.2 wx)
 have dV:=LE (λax cx wx k1=>G5 ax es cx wx k1 (by omega) (λe he=>by have:=eM.o e he;omega));unfold ja LR at dV;clear eS cM cH;have aH:=LE aM;have aR:=LE bW;have aX:=LE hX;clear aM bW hX eG
 have eK:Hid (NF es []=none->D=LT 2):=λhf=>HD.o.j (oy aH.o aX.o hf)
 have eL:Hid (∀rs,NF es []=some rs->60000<L+1->D=LT 3):=λrs hf h4=>HD.o.j (qj aH.o aX.o hf h4)
 have dR:Hid (∀rs,NF es []=some rs->¬60000<L+1->hv ss.length-1<MH (MN rs) n->D=LT 4):=λrs hf h4 h5=>HD.o.j (mn aH.o aX.o hf h4 h5)
 have dU:Hid (∀rs,NF es []=some rs->¬60000<L+1->¬hv ss.length-1<MH (MN rs) n->hv ss.length<=U->D=OY n ss.length (L+1) T H F rs):=λrs hf h4 h5 h6=>HD.o.j (jw aH.o aR.o aX.o hf h4 h5 h6)
 have cO:Hid (∀rs,NF es []=some rs->¬60000<L+1->¬hv ss.length-1<MH (MN rs) n->¬hv ss.length<=U->D=⟨0,n,ss.length,L+1,T,H,F,R,U+1,0,rs,[(false,2+H*hv ss.length+U,MP 3 (L+1) (F+U) empty n),(true,0,empty)]⟩):=λrs hf h4 h5 h6=>HD.o.j (kl aH.o aR.o aX.o hf h4 h5 h6)
 have eC:Hid (∀rs,¬60000<L+1->¬hv ss.length-1<MH (MN rs) n->VX n ss.length (L+1) T H F rs):=λrs h4 h5=>⟨aH.o.2,by omega,by omega,hT,hH,hF,by omega⟩
 clear aR aX HD;obtain⟨Q,HQ⟩:∃Q,Hid (Q=hv ss.length):=⟨_,LE rfl⟩;obtain⟨q,hq⟩:∃q,q=2+H*Q:=⟨_,rfl⟩;rw[<-HQ.o]at hQ hU aO HH HB dR dU cO eC;rw[<-hq]at aO HB cO;have fC:2<=q/\q<=101:=by have:=il hH (q:=Q) (by omega);omega
 have eN:Hid (2+H*hv ss.length=q):=by show _=_;rw[hq,HQ.o]
 clear hq;have fH:IntKind.i64.wrap (Q-1)=Q-1:=VI _ (by omega) (by omega);have fG:IntKind.i64.wrap (L+1)=L+1:=VI _ (by omega) (by omega);have fI:IntKind.i64.wrap (U+1)=U+1:=VI _ (by omega) (by omega);have fF:IntKind.i64.wrap (F+U)=F+U:=VI _ (by omega) (by omega);have fJ:IntKind.i64.wrap (q+U)=q+U:=VI _ (by omega) (by omega);have c0:=B0.r1.x 0;have c1:=B0.r1.x 1;have cl:=B0.r1.lt;unfold LN at cE aO;go_wp2_with (go_at_call 72;refine(QZ _ _).i ?_;rw[hd];refine MT ?_);clear c0 c1 cl;refine(cE.o _ (h.I B0.e) (h'.I B0.e) B0.e).i ?_;rintro x v4 ⟨rfl,hb⟩;replace B0:=B0.I hb;clear hb;go_upto_region 5 with fail;generalize bT:v4.alloc _=v5;obtain⟨hb,dP,b3⟩:=LJ bT;clear bT;obtain⟨BR,bI⟩:∃k,k=v4.heap.size:=⟨_,rfl⟩;rw[<-bI]at b3⊢;have rR:=b3.l;replace B0:=B0.I hb;clear hb b3 dP bI;go_cut [7] from 26 to 38 (λv7 wx=>sU v5 wx es U L v7)
 case first =>
  have dD:=(AB v5.heap.size v5).drew;refine UV (14) (S:=λw'=>Row w' w.heap.size [.slice a ss.length c,.slice a' ws.length c']/\Row w' BR [.int .i64 T,.int .i64 H,.int .i64 F,.int .i64 R]) (by kernel_rfl) (⟨B0.r1.I dD,rR.I dD⟩) (λaJ=>?_);refine MY 0 (.agg #[.slice a ss.length c,.slice a' ws.length c']) rfl (BN ⟨by rfl,λw hw=>by obtain⟨z0,z1⟩:=hw;have c:=z0.x 0;have d:=z0.x 1;have l:=z0.lt;go_simp⟩) aJ (NZ 1 (.int .i64 (ss.length:Int)) rfl aJ (MY 2 (.pointer (some ⟨BR,1,none⟩)) rfl (BN ⟨by rfl,λw hw=>by obtain⟨z0,z1⟩:=hw;have l:=z1.lt;go_simp⟩) aJ (MY 3 (.int .i64 H) rfl (BN ⟨by rfl,λw hw=>by obtain⟨z0,z1⟩:=hw;have c:=z1.x 1;go_simp⟩) aJ (NZ 5 (.int .i64 (ss.length:Int)) rfl aJ (MY 7 (.pointer (some ⟨BR,2,none⟩)) rfl (BN ⟨by rfl,λw hw=>by obtain⟨z0,z1⟩:=hw;have l:=z1.lt;go_simp⟩) aJ (MY 8 (.int .i64 F) rfl (BN ⟨by rfl,λw hw=>by obtain⟨z0,z1⟩:=hw;have c:=z1.x 2;go_simp⟩) aJ (MY 9 (.pointer (some ⟨BR,3,none⟩)) rfl (BN ⟨by rfl,λw hw=>by obtain⟨z0,z1⟩:=hw;have l:=z1.lt;go_simp⟩) aJ (MY 10 (.int .i64 R) rfl (BN ⟨by rfl,λw hw=>by obtain⟨z0,z1⟩:=hw;have c:=z1.x 3;go_simp⟩) aJ (NZ 11 (.int .i64 n) rfl aJ ?_)))))))))
  simp only[PS];refine PD (rs:=[4,13]) (by kernel_rfl) (by simp) ?_;refine AllReadyT.cons rfl (λKq aB=>?_) (AllReadyT.cons rfl (λKq aB=>?_) AllReadyT.nil)
  focus
   refine LK (by rfl) 122 #[.int .i64 (ss.length:Int),.int .i64 H] (by go_simp) (HB.o _) ?_;rintro e wz ⟨rfl,aG⟩;refine⟨_,rfl,?_⟩;rw[aG];clear aG wz;refine aB.o _ _ aJ (λ_=>?_)
   try simp only[PS]
   refine PD (rs:=[6,13]) (by kernel_rfl) (by simp) ?_;refine AllReadyT.cons rfl (λKq aB=>?_) (AllReadyT.cons rfl (λKq aB=>?_) AllReadyT.nil)
   focus
    refine LK (by rfl) 123 #[.int .i64 (ss.length:Int)] (by go_simp) (HH.o _) ?_;rintro e wz ⟨rfl,aG⟩;refine⟨_,rfl,?_⟩;rw[aG];clear aG wz;refine aB.o _ _ aJ (λ_=>?_)
    try simp only[PS]
    refine PD (rs:=[12,13]) (by kernel_rfl) (by simp) ?_;refine AllReadyT.cons rfl (λKq aB=>?_) (AllReadyT.cons rfl (λKq aB=>?_) AllReadyT.nil)
    focus
     obtain⟨yb,aA⟩:∃y,y=v5.drew:=⟨_,rfl⟩;rw[<-aA];have hT:Below v5.heap.size v5 yb:=by rw[aA];exact(AB _ _).drew
     clear aA;have aC:=B0.e.j (hT.i B0.e.size);refine LK (by rfl) 121 #[.agg #[.slice a ss.length c,.slice a' ws.length c'],.int .i64 q,.int .i64 Q,.int .i64 F,.int .i64 R,.int .i64 n] (by go_simp) (aO.o _ (h.I aC) (h'.I aC) aC) ?_;rintro e aQ ⟨ax,cx,rfl,aI,aK,hb⟩;refine⟨_,rfl,?_⟩;have dX:=PG (lo:=yb.heap.size) aI YA aK
     have cJ:∀g,blk ax es.length=some g->v5.heap.size<=g:=λg k=>AL hT.size (aK g k)
     replace hT:=hT.j (hb.i hT.size);clear hb aI aC;refine aB.o _ _ (⟨B0.r1.I hT,rR.I hT⟩) (λeP=>?_)
     try simp only[PS]
     refine ND 13 rfl (λKq aB=>?_);go_simp;generalize aF:World.alloc _ _=aU;obtain⟨hb,aW,bX⟩:=LJ aF;obtain⟨BX,aD⟩:∃k,k=aQ.heap.size:=⟨_,rfl⟩;rw[<-aD]at bX⊢;have bV:v5.heap.size<=BX:=by rw[aD];exact hT.size
     have rX:=bX.l;have tX:aQ.heap.size<=BX:=by rw[aD];exact AA _
     replace dX:=dX.I hb;replace hT:=hT.j (hb.i hT.size);clear hb bX aW aD aF;refine aB.o _ _ (⟨B0.r1.I hT,rR.I hT⟩) (λcQ=>?_)
     try simp only[PS]
     obtain⟨yz,rfl⟩:∃y,y=aU:=⟨_,rfl⟩;have cV:=cQ
    rotate_left
    focus
     obtain⟨yb,aA⟩:∃y,y=v5.drew:=⟨_,rfl⟩;rw[<-aA];have hT:Below v5.heap.size v5 yb:=by rw[aA];exact(AB _ _).drew
     clear aA;go_simp;generalize aF:World.alloc _ _=aU;obtain⟨hb,aW,bX⟩:=LJ aF;obtain⟨BX,aD⟩:∃k,k=yb.heap.size:=⟨_,rfl⟩;rw[<-aD]at bX⊢;have bV:v5.heap.size<=BX:=by rw[aD];exact hT.size
     have rX:=bX.l;replace hT:=hT.j (hb.i hT.size);clear hb bX aW aD aF;refine aB.o _ _ (⟨B0.r1.I hT,rR.I hT⟩) (λeQ=>?_)
     try simp only[PS]
     refine ND 12 rfl (λKq aB=>?_);have aC:=B0.e.j (hT.i B0.e.size);refine LK (by rfl) 121 #[.agg #[.slice a ss.length c,.slice a' ws.length c'],.int .i64 q,.int .i64 Q,.int .i64 F,.int .i64 R,.int .i64 n] (by go_simp) (aO.o _ (h.I aC) (h'.I aC) aC) ?_;rintro e aQ ⟨ax,cx,rfl,aI,aK,hb⟩;refine⟨_,rfl,?_⟩;have dX:=PG (lo:=aU.heap.size) aI YA aK
     have cJ:∀g,blk ax es.length=some g->v5.heap.size<=g:=λg k=>AL hT.size (aK g k)
     have lX:=rX.lt;replace rX:=rX.I hb;replace hT:=hT.j (hb.i hT.size);clear hb aI aC;refine aB.o _ _ (⟨B0.r1.I hT,rR.I hT⟩) (λcS=>?_)
     try simp only[PS]
     obtain⟨yz,rfl⟩:∃y,y=aQ:=⟨_,rfl⟩;have cV:=cS
   rotate_left 2
   focus
    obtain⟨yb,aA⟩:∃y,y=v5.drew:=⟨_,rfl⟩;rw[<-aA];have hT:Below v5.heap.size v5 yb:=by rw[aA];exact(AB _ _).drew
    clear aA;go_simp;generalize aF:World.alloc _ _=aU;obtain⟨hb,aW,bX⟩:=LJ aF;obtain⟨BX,aD⟩:∃k,k=yb.heap.size:=⟨_,rfl⟩;rw[<-aD]at bX⊢;have bV:v5.heap.size<=BX:=by rw[aD];exact hT.size
    have rX:=bX.l;replace hT:=hT.j (hb.i hT.size);clear hb bX aW aD aF;refine aB.o _ _ (⟨B0.r1.I hT,rR.I hT⟩) (λcT=>?_)
    try simp only[PS]
    refine ND 6 rfl (λKq aB=>?_);refine LK (by rfl) 123 #[.int .i64 (ss.length:Int)] (by go_simp) (HH.o _) ?_;rintro e wz ⟨rfl,aG⟩;refine⟨_,rfl,?_⟩;rw[aG];clear aG wz;refine aB.o _ _ cT (λ_=>?_)
    try simp only[PS]
    refine ND 12 rfl (λKq aB=>?_);have aC:=B0.e.j (hT.i B0.e.size);refine LK (by rfl) 121 #[.agg #[.slice a ss.length c,.slice a' ws.length c'],.int .i64 q,.int .i64 Q,.int .i64 F,.int .i64 R,.int .i64 n] (by go_simp) (aO.o _ (h.I aC) (h'.I aC) aC) ?_;rintro e aQ ⟨ax,cx,rfl,aI,aK,hb⟩;refine⟨_,rfl,?_⟩;have dX:=PG (lo:=aU.heap.size) aI YA aK
    have cJ:∀g,blk ax es.length=some g->v5.heap.size<=g:=λg k=>AL hT.size (aK g k)
    have lX:=rX.lt;replace rX:=rX.I hb;replace hT:=hT.j (hb.i hT.size);clear hb aI aC;refine aB.o _ _ (⟨B0.r1.I hT,rR.I hT⟩) (λcU=>?_)
    try simp only[PS]
    obtain⟨yz,rfl⟩:∃y,y=aQ:=⟨_,rfl⟩;have cV:=cU
  rotate_left 3
  focus
   obtain⟨yb,aA⟩:∃y,y=v5.drew:=⟨_,rfl⟩;rw[<-aA];have hT:Below v5.heap.size v5 yb:=by rw[aA];exact(AB _ _).drew
   clear aA;go_simp;generalize aF:World.alloc _ _=aU;obtain⟨hb,aW,bX⟩:=LJ aF;obtain⟨BX,aD⟩:∃k,k=yb.heap.size:=⟨_,rfl⟩;rw[<-aD]at bX⊢;have bV:v5.heap.size<=BX:=by rw[aD];exact hT.size
   have rX:=bX.l;replace hT:=hT.j (hb.i hT.size);clear hb bX aW aD aF;refine aB.o _ _ (⟨B0.r1.I hT,rR.I hT⟩) (λaP=>?_)
   try simp only[PS]
   refine ND 4 rfl (λKq aB=>?_);refine LK (by rfl) 122 #[.int .i64 (ss.length:Int),.int .i64 H] (by go_simp) (HB.o _) ?_;rintro e wz ⟨rfl,aG⟩;refine⟨_,rfl,?_⟩;rw[aG];clear aG wz;refine aB.o _ _ aP (λ_=>?_)
   try simp only[PS]
   refine ND 6 rfl (λKq aB=>?_);refine LK (by rfl) 123 #[.int .i64 (ss.length:Int)] (by go_simp) (HH.o _) ?_;rintro e wz ⟨rfl,aG⟩;refine⟨_,rfl,?_⟩;rw[aG];clear aG wz;refine aB.o _ _ aP (λ_=>?_)
   try simp only[PS]
   refine ND 12 rfl (λKq aB=>?_);have aC:=B0.e.j (hT.i B0.e.size);refine LK (by rfl) 121 #[.agg #[.slice a ss.length c,.slice a' ws.length c'],.int .i64 q,.int .i64 Q,.int .i64 F,.int .i64 R,.int .i64 n] (by go_simp) (aO.o _ (h.I aC) (h'.I aC) aC) ?_;rintro e aQ ⟨ax,cx,rfl,aI,aK,hb⟩;refine⟨_,rfl,?_⟩;have dX:=PG (lo:=aU.heap.size) aI YA aK
   have cJ:∀g,blk ax es.length=some g->v5.heap.size<=g:=λg k=>AL hT.size (aK g k)
   have lX:=rX.lt;replace rX:=rX.I hb;replace hT:=hT.j (hb.i hT.size);clear hb aI aC;refine aB.o _ _ (⟨B0.r1.I hT,rR.I hT⟩) (λb7=>?_)
   try simp only[PS]
   obtain⟨yz,rfl⟩:∃y,y=aQ:=⟨_,rfl⟩;have cV:=b7
  all_goals
   refine PD (rs:=[14]) (by kernel_rfl) (by simp) ?_;refine AllReadyT.last rfl (λKq aB=>?_);obtain⟨l0,l1,l2⟩:=rX.k3;obtain⟨f0,f1,f2⟩:=rX.z3;have ll:=rX.lt;go_simp;clear l0 l1 l2 f0 f1 f2 ll;refine aB.o _ _ trivial (λ_=>?_)
   try simp only[PS]
   refine UN (by kernel_rfl) ?_ _;have G:=MC (MC (MC (BH yz (some BX)) 0 (.slice ax es.length cx)) 1 (.int .i64 U)) 2 (.int .i64 L);have rY:=((rX.set 0 (by simp) (.slice ax es.length cx)).set 1 (by simp) (.int .i64 U)).set 2 (by simp) (.int .i64 L)
   have dY:=dX.z G (λg e=>by cases e;first|(left;omega)|(right;omega))
   have hY:=hT.j (NE G hT.size (λx e=>by have e:=DA e;omega));generalize cP:World.setCell (World.setCell (World.setCell _ _ _) _ _) _ _=yC at rY dY hY⊢;clear cP G;go_wp2_with fail;go_meet;exact⟨BX,ax,cx,rfl,rY,bV,dY.l,cJ,hY⟩
 case rest =>
 obtain⟨BX,ax,cx,rfl,rX,bV,aI,aK,hb⟩:=hcut
 rename World=>v6
 replace B0:=B0.I hb;replace rR:=rR.I hb;clear hb;have c0:=rX.x 0;have cl:=rX.lt;go_wp2_with fail;clear c0 cl;have aS:=LE (dV.o _ cx _ aI.strs)
 cases hf:NF es [] with
 | none =>
  obtain rfl:D=LT 2:=eK.o hf;rw[hf]at aS;simp only[JP,JD,AR]at aS;clear hf;refine(aS.o).i ?_;rintro e v7 ⟨a6,c6,rfl,_,_,_,hb⟩;replace B0:=B0.I hb;clear hb;go_upto_region 7 with fail;generalize aL:v7.alloc _=v8;obtain⟨hb,aV,b8⟩:=LJ aL;clear aL aV b8;replace B0:=B0.I hb;clear hb;go_upto_region 8 with fail;refine B0.noR 2 _ _ rfl (by go_simp) rfl rfl rfl rfl (λy R8 aE=>?_)
  try simp only[PS]
  clear B0
  try go_wp2
  refine TG 4 results81 _ ?_ R8 ?_ aE.o<;>rfl
 | some rs =>
  rw[hf]at aS;simp only[GA,JE]at aS;have cA:=bn es [] UR rs hf;have dL:=SG cA;have eE:=LE dL.2;have fE:=dL.1;have cN:=LE (eL.o rs hf);have aY:=LE (dR.o rs hf);have aZ:=LE (dU.o rs hf);have bC:=LE (cO.o rs hf);have bE:=LE (eC.o rs);have bF:=LE (λay cy wx k1 k2=>la n ss.length (L+1) T H F R U 0 ay rs cy wx k1 k2 (by omega) eE.o);have cF:=LE (λay cy wx=>oX n ss.length (L+1) T H F R U 0 ay rs.length cy wx (by omega) (by omega));unfold LV at bF cF;rw[<-HQ.o]at bF cF;obtain⟨r,eO⟩:∃r,Hid (r=MH (MN rs) n):=⟨_,LE rfl⟩;rw[<-eO.o]at bF aY aZ bC bE;clear hf dL cA;refine(aS.o).i ?_;rintro e v7 ⟨a6,c6,rfl,cI,dB,cY,hb⟩;have dT:=PG (lo:=v6.heap.size) dB QG cY
  have eJ:∀g,blk a6 rs.length=some g->g<v7.heap.size:=λg k=>XJ dB k
  have l6:=B0.r2.lt;have fQ:v6.heap.size<=v7.heap.size:=hb.size;replace B0:=B0.I hb;replace rX:=rX.I hb;replace rR:=rR.I hb;clear hb dB aS;go_upto_region 7 with fail;generalize aL:v7.alloc _=v8;obtain⟨hb,aV,b8⟩:=LJ aL;clear aL;obtain⟨B8,bI⟩:∃k,k=v7.heap.size:=⟨_,rfl⟩;rw[<-bI]at b8⊢;have r8:=b8.l;replace B0:=B0.I hb;replace rX:=rX.I hb;replace rR:=rR.I hb;replace dT:=dT.I hb;clear hb b8 aV bI;have x1:=rX.x 1;have x2:=rX.x 2;have xl:=rX.lt;obtain⟨t0,t1,t2,t3⟩:=rR.k4;have tl:=rR.lt;have s0:=r8.x 0;have sl:=r8.lt;go_upto_region 10 with fail;clear x1 x2 xl t0 t1 t2 t3 tl s0 sl;generalize bU:v8.alloc _=v9;obtain⟨hb,dQ,b9⟩:=LJ bU;clear bU;obtain⟨B9,bJ⟩:∃k,k=v8.heap.size:=⟨_,rfl⟩;rw[<-bJ]at b9⊢;have r9:Row v9 B9 (sJ n (ss.length:Int) (L+1) T H F R U 0 (.slice a6 rs.length c6)):=b9.l;replace B0:=B0.I hb;replace dT:=dT.I hb;clear hb b9 dQ rX rR r8 bJ;have q2:=r9.x 2
  have eU:=r9.lt
  by_cases h4:60000<L+1
  case pos =>
   obtain rfl:D=LT 3:=cN.o (by omega);go_upto_region 11 with fail;refine B0.noR 3 _ _ rfl (by go_simp) rfl rfl rfl rfl (λy R8 aE=>?_)
   try simp only[PS]
   clear B0
   try go_wp2
   refine TG 4 results81 _ ?_ R8 ?_ aE.o<;>rfl
  have eV:L+1<=60000:=by omega
  go_upto_region 12 with fail;clear q2 eU;refine BA ?_;refine AN rfl 50 _ rfl B9 0 rfl _ _ r9.range underlying50 rfl OH ?_;simp only[PS];go_wp2_with fail;refine(bF.o _ _ _ dT.l.prs cI).i ?_;rintro e va ⟨rfl,hb⟩;replace B0:=B0.I hb;replace r9:=r9.I hb;replace dT:=dT.I hb;clear hb bF
  by_cases h5:Q-1<r
  case pos =>
   obtain rfl:D=LT 4:=aY.o (by omega) (by omega);rw[AI (show ¬r<=Q-1 by omega)];go_upto_region 13 with fail;refine B0.noR 4 _ _ rfl (by go_simp) rfl rfl rfl rfl (λy R8 aE=>?_)
   try simp only[PS]
   clear B0
   try go_wp2
   refine TG 4 results81 _ ?_ R8 ?_ aE.o<;>rfl
  rw[AO (show r<=Q-1 by omega)];go_upto_region 14 with fail;refine BA ?_;refine AN rfl 50 _ rfl B9 0 rfl _ _ r9.range underlying50 rfl OH ?_;simp only[PS];go_wp2_with fail;refine(cF.o _ _ _).i ?_;rintro e vb ⟨rfl,hb⟩;replace B0:=B0.I hb;replace r9:=r9.I hb;replace dT:=dT.I hb;clear hb cF;have fS:v7.heap.size<=vb.heap.size:=dT.top
  by_cases h6:Q<=U
  case pos =>
   have eX:Q-U=0:=by omega
   have eI:=bE.o (by omega) (by omega);have hD:D=OY n ss.length (L+1) T H F rs:=aZ.o (by omega) (by omega) (by omega);have aN:=LE (λay cy wx k1 k2=>ud n ss.length (L+1) T H F R U 0 ay rs cy wx k1 k2 (by omega) eE.o eI);rw[<-hD]at aN;unfold LV at aN;clear hD eI;go_upto_region 15 with fail;refine BA ?_;refine AN rfl 50 _ rfl B9 0 rfl _ _ r9.range underlying50 rfl OH ?_;simp only[PS];go_wp2_with fail;refine(aN.o _ _ _ dT.l.prs cI).i ?_;rintro e vc ⟨oa,oc,ob,oe,rfl,dF,eT,cL,g2,hb⟩;have lb:=hb.size;replace B0:=B0.I hb;replace dT:=dT.I hb;clear hb aN;unfold MQ
   obtain⟨aT,own,g1⟩:D.rs.length<=oc/\OwnDn vc D.rs D.ops oa ob/\(∀g,blk oa D.rs.length=some g->v6.heap.size<=g):=by
    rcases eT with ⟨rfl,rfl,cB⟩|cB
    ·rw[cB]
     exact⟨cI,⟨dT.l,cL,XI eJ (λg k=>by have:=g2 g k;omega)⟩,cY⟩
    rw[cB]
    exact⟨AH _,⟨.inl rfl,cL,.inl rfl⟩,λg k=>by cases k⟩
   have fO:=l6
   try simp only[PS]
   refine‹∀(a:Act) (w:World),wpList _ _ _ _ a w->_› _ _ ?_
   refine BI rfl 118 _ _ rfl (w.heap.size+1) 0 (dK D.C D.W D.S D.L D.T D.H D.F D.R D.U D.O (.slice oa D.rs.length oc) (.slice ob D.ops.length oe)) rfl rfl (B0.r2.there rfl) RK (by kernel_rfl) ?_
   try simp only[PS]
   obtain⟨R8,HP⟩:=B0.fin D oa oc ob oe aT own (λg k=>by have:=g1 g k;omega) (λg k=>by have:=g2 g k;omega);have aE:=LE HP;clear HP;generalize aF:World.setCells _ _ _ _=y at R8 aE⊢;clear aF B0
   try go_wp2
   refine TG 4 results81 _ ?_ R8 ?_ aE.o dF<;>rfl
  have eF:¬Q-U=0:=by omega
  have eW:(Q-U == 0)=false:=by simp[eF]
  have aN:=LE (λay cy wx=>Gb n ss.length (L+1) T H F R U 0 ay rs cy wx hH hF (by omega));have hD:=bC.o (by omega) (by omega) (by omega);rw[eN.o]at aN;rw[<-hD]at aN;have cB:D.rs=rs:=by rw[hD]
  unfold LV at aN;clear hD eF;go_upto_region 16 with fail;refine BA ?_;refine AN rfl 50 _ rfl B9 0 rfl _ _ r9.range underlying50 rfl OH ?_;simp only[PS];go_wp2_with fail;refine(aN.o _ _ _).i ?_;rintro e vc ⟨ob,oe,rfl,dF,cL,g2,hb⟩;have lb:=hb.size;replace B0:=B0.I hb;replace dT:=dT.I hb;clear hb aN;unfold MQ;obtain⟨oa,rfl⟩:∃x,x=a6:=⟨_,rfl⟩;obtain⟨oc,rfl⟩:∃x,x=c6:=⟨_,rfl⟩
  obtain⟨aT,own,g1⟩:D.rs.length<=oc/\OwnDn vc D.rs D.ops oa ob/\(∀g,blk oa D.rs.length=some g->v6.heap.size<=g):=by
   rw[cB];exact⟨cI,⟨dT.l,cL,XI eJ (λg k=>by have:=g2 g k;omega)⟩,cY⟩
  try simp only[PS]
  refine‹∀(a:Act) (w:World),wpList _ _ _ _ a w->_› _ _ ?_
  refine BI rfl 118 _ _ rfl (w.heap.size+1) 0 (dK D.C D.W D.S D.L D.T D.H D.F D.R D.U D.O (.slice oa D.rs.length oc) (.slice ob D.ops.length oe)) rfl rfl (B0.r2.there rfl) RK (by kernel_rfl) ?_
  try simp only[PS]
  obtain⟨R8,HP⟩:=B0.fin D oa oc ob oe aT own (λg k=>by have:=g1 g k;omega) (λg k=>by have:=g2 g k;omega);have aE:=LE HP;clear HP;generalize aF:World.setCells _ _ _ _=y at R8 aE⊢;clear aF B0
  try go_wp2
  refine TG 4 results81 _ ?_ R8 ?_ aE.o dF<;>rfl
