import Derived.Test.YthcfgbpailnahaaGreatDoorPrG30
set_option maxHeartbeats 16000000
namespace Go.Proofs.YthcfgbpailnahaaGreatDoor
open Tryz
open Go.RowKit
set_option maxRecDepth 8000
set_option linter.all false
theorem zH{a b:Int}(h:¬a=b):(a == b)=false:=EP.2 h
theorem tI(x:Wo)(q:Wp)(w:World)(h:x.at w q)(hc:x.rs.length<=q.cs)(hm:x.le 1048576):Calls prog 74 #[MD x q] w λe w'=>e=.returned (.bool (PW x))/\Below w.heap.size w w':=by
 unfold MD;have hE:Below w.heap.size w w:=AB _ _;have CN:=LE (λw'=>Fh x q w' hm.l3);have CV:=LE (λw' k=>fh x.W x.S x.L x.T x.H x.F x.R x.U x.O q.s x.rs q.cs w' k hc hm.l3 hm.s3);unfold LV at CN CV;have aW:=hm.l1
 cases hup:x.up with
 | false =>
  have e:PW x=PK x:=by simp[PW,hup]
  rw[e];clear e;go_enter func74,ntmps74;go_wp2_with fail;generalize aA:w.alloc _=v1;obtain⟨hb,aT,bA⟩:=LJ aA;clear aA;replace hE:=hE.j (hb.i hE.size);clear hb;refine(CN.o _).i ?_;rintro e v2 ⟨rfl,hb⟩;have aS:v1.heap.size<=v2.heap.size:=hb.size;replace bA:=bA.I hb;replace hE:=hE.j (hb.i hE.size);clear hb;go_wp2;go_ret;exact⟨rfl,hE⟩
 | true =>
  cases hst:OF x.W x.S x.L x.T x.H x.F x.R x.U x.O x.rs with
  | false =>
   have e:PW x=false:=by simp[PW,hup,hst]
   rw[e];rw[hst]at CV;clear e;go_enter func74,ntmps74;go_wp2_with fail;generalize aA:w.alloc _=v1;obtain⟨hb,aT,bA⟩:=LJ aA;clear aA;replace hE:=hE.j (hb.i hE.size);clear hb;refine(CV.o _ (h.h3.I hE)).i ?_;rintro e v2 ⟨rfl,hb⟩;have aS:v1.heap.size<=v2.heap.size:=hb.size;replace bA:=bA.I hb;replace hE:=hE.j (hb.i hE.size);clear hb;obtain⟨aH,aI,aJ,aK,aL,aM,aN,aO,aP,aQ,aB,aC,aD,aE,aF,aG,aR⟩:=c16 bA.l;go_wp2;go_ret;exact⟨rfl,hE⟩
  | true =>
   rw[hst]at CV
   by_cases hw:x.W=x.w
   rotate_left
   ·have e:PW x=false:=by simp[PW,hup,hst,hw]
    rw[e];clear e;go_enter func74,ntmps74;go_wp2_with fail;generalize aA:w.alloc _=v1;obtain⟨hb,aT,bA⟩:=LJ aA;clear aA;replace hE:=hE.j (hb.i hE.size);clear hb;refine(CV.o _ (h.h3.I hE)).i ?_;rintro e v2 ⟨rfl,hb⟩;have aS:v1.heap.size<=v2.heap.size:=hb.size;replace bA:=bA.I hb;replace hE:=hE.j (hb.i hE.size);clear hb;obtain⟨aH,aI,aJ,aK,aL,aM,aN,aO,aP,aQ,aB,aC,aD,aE,aF,aG,aR⟩:=c16 bA.l;go_wp2;go_ret;exact⟨rfl,hE⟩
   by_cases hs:x.S=(x.ss.length:Int)
   rotate_left
   ·have e:PW x=false:=by unfold PW;rw[AK hup,hst,AI (λk=>hs k.2)];rfl
    rw[e];clear e;have aV:=LE hw;clear hw;have aU:=LE hs;clear hs;go_enter func74,ntmps74;go_wp2_with fail;generalize aA:w.alloc _=v1;obtain⟨hb,aT,bA⟩:=LJ aA;clear aA;replace hE:=hE.j (hb.i hE.size);clear hb;refine(CV.o _ (h.h3.I hE)).i ?_;rintro e v2 ⟨rfl,hb⟩;have aS:v1.heap.size<=v2.heap.size:=hb.size;replace bA:=bA.I hb;replace hE:=hE.j (hb.i hE.size);clear hb;have hw:=aV.o;have hs:=aU.o;obtain⟨aH,aI,aJ,aK,aL,aM,aN,aO,aP,aQ,aB,aC,aD,aE,aF,aG,aR⟩:=c16 bA.l;go_wp2;go_ret;have e6:(x.S == (x.ss.length:Int))=false:=zH hs;exact⟨by show Ending.returned (Value.bool (x.S == (x.ss.length:Int)))=_;rw[e6],hE⟩
   have e:PW x=true:=by unfold PW;rw[AK hup,hst,AO ⟨hw,hs⟩];rfl
   rw[e];clear e;have aV:=LE hw;clear hw;have aU:=LE hs;clear hs;go_enter func74,ntmps74;go_wp2_with fail;generalize aA:w.alloc _=v1;obtain⟨hb,aT,bA⟩:=LJ aA;clear aA;replace hE:=hE.j (hb.i hE.size);clear hb;refine(CV.o _ (h.h3.I hE)).i ?_;rintro e v2 ⟨rfl,hb⟩;have aS:v1.heap.size<=v2.heap.size:=hb.size;replace bA:=bA.I hb;replace hE:=hE.j (hb.i hE.size);clear hb;have hw:=aV.o;have hs:=aU.o;obtain⟨aH,aI,aJ,aK,aL,aM,aN,aO,aP,aQ,aB,aC,aD,aE,aF,aG,aR⟩:=c16 bA.l;go_wp2;go_ret;exact⟨rfl,hE⟩
theorem Gv(x:Wo)(q:Wp)(w:World)(h:x.at w q)(hc:x.rs.length<=q.cs)(hm:x.le 1048576):Calls prog 30 #[MD x q] w λe w'=>e=.returned (.bool (NR x))/\Below w.heap.size w w':=by
 have C1:=LE (QZ x.w);have C2:=LE (λw' k1 k2=>UI q.a x.ss q.c q.a' x.ws q.c' w' k1 k2 hm.l1 hm.l2 hm.s1 hm.s2);have C3:=LE (λw' k=>tI x q w' k hc hm);have C4:=LE (λw' k=>tK q.p x.P q.cp w' k hm.l4 hm.s4);have C5:=LE (λw' k=>zI q.t x.ts q.ct w' k hm.l5 hm.s5);unfold MD at C3⊢;have hE:Below w.heap.size w w:=AB _ _
 by_cases b1:(decide (1<=x.w/\x.w<=8))=true
 rotate_left
 ·have aY:=IG.2 b1
  have e:NR x=false:=by unfold NR;rw[aY];rfl
  rw[e];rw[aY]at C1;clear e;go_enter func30,ntmps30;go_wp2_with fail;generalize aR:w.alloc _=v1;obtain⟨hb,aT,bA⟩:=LJ aR;clear aR;replace hE:=hE.j (hb.i hE.size);clear hb;refine(C1.o _).i ?_;rintro e wz ⟨rfl,aS⟩;rw[aS];clear aS wz;obtain⟨aG,aH,aI,aJ,aK,aL,aM,aN,aO,aP,aA,aB,aC,aD,aE,aF,aQ⟩:=c16 bA.l;go_wp2;go_ret;exact⟨rfl,hE⟩
 rw[b1]at C1
 by_cases b2:(LS x.ss x.ws)=true
 rotate_left
 ·have aZ:=IG.2 b2
  have e:NR x=false:=by unfold NR;rw[b1,aZ];rfl
  rw[e];rw[aZ]at C2;clear e;go_enter func30,ntmps30;go_wp2_with fail;generalize aR:w.alloc _=v1;obtain⟨hb,aT,bA⟩:=LJ aR;clear aR;replace hE:=hE.j (hb.i hE.size);clear hb;refine(C1.o _).i ?_;rintro e wz ⟨rfl,aS⟩;rw[aS];clear aS wz;obtain⟨aG,aH,aI,aJ,aK,aL,aM,aN,aO,aP,aA,aB,aC,aD,aE,aF,aQ⟩:=c16 bA.l;go_wp2_with fail;clear aG aH aI aJ aK aL aM aN aO aP aA aB aC aD aE aF aQ;refine(C2.o _ (h.h1.I hE) (h.h2.I hE)).i ?_;rintro e v2 ⟨rfl,hb⟩;have aU:v1.heap.size<=v2.heap.size:=hb.size;replace bA:=bA.I hb;replace hE:=hE.j (hb.i hE.size);clear hb;obtain⟨aG,aH,aI,aJ,aK,aL,aM,aN,aO,aP,aA,aB,aC,aD,aE,aF,aQ⟩:=c16 bA.l;go_wp2;go_ret;exact⟨rfl,hE⟩
 rw[b2]at C2
 by_cases b3:(PW x)=true
 rotate_left
 ·have bC:=IG.2 b3
  have e:NR x=false:=by unfold NR;rw[b1,b2,bC];rfl
  rw[e];rw[bC]at C3;clear e;go_enter func30,ntmps30;go_wp2_with fail;generalize aR:w.alloc _=v1;obtain⟨hb,aT,bA⟩:=LJ aR;clear aR;replace hE:=hE.j (hb.i hE.size);clear hb;refine(C1.o _).i ?_;rintro e wz ⟨rfl,aS⟩;rw[aS];clear aS wz;obtain⟨aG,aH,aI,aJ,aK,aL,aM,aN,aO,aP,aA,aB,aC,aD,aE,aF,aQ⟩:=c16 bA.l;go_wp2_with fail;clear aG aH aI aJ aK aL aM aN aO aP aA aB aC aD aE aF aQ;refine(C2.o _ (h.h1.I hE) (h.h2.I hE)).i ?_;rintro e v2 ⟨rfl,hb⟩;have aU:v1.heap.size<=v2.heap.size:=hb.size;replace bA:=bA.I hb;replace hE:=hE.j (hb.i hE.size);clear hb;obtain⟨aG,aH,aI,aJ,aK,aL,aM,aN,aO,aP,aA,aB,aC,aD,aE,aF,aQ⟩:=c16 bA.l;go_wp2_with fail;clear aG aH aI aJ aK aL aM aN aO aP aA aB aC aD aE aF aQ;refine(C3.o _ (h.I hE)).i ?_;rintro e v3 ⟨rfl,hb⟩;have aV:v2.heap.size<=v3.heap.size:=hb.size;replace bA:=bA.I hb;replace hE:=hE.j (hb.i hE.size);clear hb;obtain⟨aG,aH,aI,aJ,aK,aL,aM,aN,aO,aP,aA,aB,aC,aD,aE,aF,aQ⟩:=c16 bA.l
  go_wp2;go_ret;exact⟨rfl,hE⟩
 rw[b3]at C3
 by_cases b4:(QD x.P)=true
 rotate_left
 ·have bE:=IG.2 b4
  have e:NR x=false:=by unfold NR;rw[b1,b2,b3,bE];rfl
  rw[e];rw[bE]at C4;clear e;go_enter func30,ntmps30;go_wp2_with fail;generalize aR:w.alloc _=v1;obtain⟨hb,aT,bA⟩:=LJ aR;clear aR;replace hE:=hE.j (hb.i hE.size);clear hb;refine(C1.o _).i ?_;rintro e wz ⟨rfl,aS⟩;rw[aS];clear aS wz;obtain⟨aG,aH,aI,aJ,aK,aL,aM,aN,aO,aP,aA,aB,aC,aD,aE,aF,aQ⟩:=c16 bA.l;go_wp2_with fail;clear aG aH aI aJ aK aL aM aN aO aP aA aB aC aD aE aF aQ;refine(C2.o _ (h.h1.I hE) (h.h2.I hE)).i ?_;rintro e v2 ⟨rfl,hb⟩;have aU:v1.heap.size<=v2.heap.size:=hb.size;replace bA:=bA.I hb;replace hE:=hE.j (hb.i hE.size);clear hb;obtain⟨aG,aH,aI,aJ,aK,aL,aM,aN,aO,aP,aA,aB,aC,aD,aE,aF,aQ⟩:=c16 bA.l;go_wp2_with fail;clear aG aH aI aJ aK aL aM aN aO aP aA aB aC aD aE aF aQ;refine(C3.o _ (h.I hE)).i ?_;rintro e v3 ⟨rfl,hb⟩;have aV:v2.heap.size<=v3.heap.size:=hb.size;replace bA:=bA.I hb;replace hE:=hE.j (hb.i hE.size);clear hb;obtain⟨aG,aH,aI,aJ,aK,aL,aM,aN,aO,aP,aA,aB,aC,aD,aE,aF,aQ⟩:=c16 bA.l
  go_wp2_with fail;clear aG aH aI aJ aK aL aM aN aO aP aA aB aC aD aE aF aQ;refine(C4.o _ (h.h4.I hE)).i ?_;rintro e v4 ⟨rfl,hb⟩;have aW:v3.heap.size<=v4.heap.size:=hb.size;replace bA:=bA.I hb;replace hE:=hE.j (hb.i hE.size);clear hb;obtain⟨aG,aH,aI,aJ,aK,aL,aM,aN,aO,aP,aA,aB,aC,aD,aE,aF,aQ⟩:=c16 bA.l;go_wp2;go_ret;exact⟨rfl,hE⟩
 rw[b4]at C4
 by_cases b5:(QU x.ts)=true
 rotate_left
 ·have bF:=IG.2 b5
  have e:NR x=false:=by unfold NR;rw[b1,b2,b3,b4,bF];rfl
  rw[e];rw[bF]at C5;clear e;go_enter func30,ntmps30;go_wp2_with fail;generalize aR:w.alloc _=v1;obtain⟨hb,aT,bA⟩:=LJ aR;clear aR;replace hE:=hE.j (hb.i hE.size);clear hb;refine(C1.o _).i ?_;rintro e wz ⟨rfl,aS⟩;rw[aS];clear aS wz;obtain⟨aG,aH,aI,aJ,aK,aL,aM,aN,aO,aP,aA,aB,aC,aD,aE,aF,aQ⟩:=c16 bA.l;go_wp2_with fail;clear aG aH aI aJ aK aL aM aN aO aP aA aB aC aD aE aF aQ;refine(C2.o _ (h.h1.I hE) (h.h2.I hE)).i ?_;rintro e v2 ⟨rfl,hb⟩;have aU:v1.heap.size<=v2.heap.size:=hb.size;replace bA:=bA.I hb;replace hE:=hE.j (hb.i hE.size);clear hb;obtain⟨aG,aH,aI,aJ,aK,aL,aM,aN,aO,aP,aA,aB,aC,aD,aE,aF,aQ⟩:=c16 bA.l;go_wp2_with fail;clear aG aH aI aJ aK aL aM aN aO aP aA aB aC aD aE aF aQ;refine(C3.o _ (h.I hE)).i ?_;rintro e v3 ⟨rfl,hb⟩;have aV:v2.heap.size<=v3.heap.size:=hb.size;replace bA:=bA.I hb;replace hE:=hE.j (hb.i hE.size);clear hb;obtain⟨aG,aH,aI,aJ,aK,aL,aM,aN,aO,aP,aA,aB,aC,aD,aE,aF,aQ⟩:=c16 bA.l
  go_wp2_with fail;clear aG aH aI aJ aK aL aM aN aO aP aA aB aC aD aE aF aQ;refine(C4.o _ (h.h4.I hE)).i ?_;rintro e v4 ⟨rfl,hb⟩;have aW:v3.heap.size<=v4.heap.size:=hb.size;replace bA:=bA.I hb;replace hE:=hE.j (hb.i hE.size);clear hb;obtain⟨aG,aH,aI,aJ,aK,aL,aM,aN,aO,aP,aA,aB,aC,aD,aE,aF,aQ⟩:=c16 bA.l;go_wp2_with fail;clear aG aH aI aJ aK aL aM aN aO aP aA aB aC aD aE aF aQ;refine(C5.o _ (h.h5.I hE)).i ?_;rintro e v5 ⟨rfl,hb⟩;have aX:v4.heap.size<=v5.heap.size:=hb.size;replace bA:=bA.I hb;replace hE:=hE.j (hb.i hE.size);clear hb;obtain⟨aG,aH,aI,aJ,aK,aL,aM,aN,aO,aP,aA,aB,aC,aD,aE,aF,aQ⟩:=c16 bA.l;go_wp2;go_ret;exact⟨rfl,hE⟩
 rw[b5]at C5;have e:NR x=true:=by unfold NR;rw[b1,b2,b3,b4,b5];rfl
 rw[e];clear e;go_enter func30,ntmps30;go_wp2_with fail;generalize aR:w.alloc _=v1;obtain⟨hb,aT,bA⟩:=LJ aR;clear aR;replace hE:=hE.j (hb.i hE.size);clear hb;refine(C1.o _).i ?_;rintro e wz ⟨rfl,aS⟩;rw[aS];clear aS wz;obtain⟨aG,aH,aI,aJ,aK,aL,aM,aN,aO,aP,aA,aB,aC,aD,aE,aF,aQ⟩:=c16 bA.l;go_wp2_with fail;clear aG aH aI aJ aK aL aM aN aO aP aA aB aC aD aE aF aQ;refine(C2.o _ (h.h1.I hE) (h.h2.I hE)).i ?_;rintro e v2 ⟨rfl,hb⟩;have aU:v1.heap.size<=v2.heap.size:=hb.size;replace bA:=bA.I hb;replace hE:=hE.j (hb.i hE.size);clear hb;obtain⟨aG,aH,aI,aJ,aK,aL,aM,aN,aO,aP,aA,aB,aC,aD,aE,aF,aQ⟩:=c16 bA.l;go_wp2_with fail;clear aG aH aI aJ aK aL aM aN aO aP aA aB aC aD aE aF aQ;refine(C3.o _ (h.I hE)).i ?_;rintro e v3 ⟨rfl,hb⟩;have aV:v2.heap.size<=v3.heap.size:=hb.size;replace bA:=bA.I hb;replace hE:=hE.j (hb.i hE.size);clear hb;obtain⟨aG,aH,aI,aJ,aK,aL,aM,aN,aO,aP,aA,aB,aC,aD,aE,aF,aQ⟩:=c16 bA.l
 go_wp2_with fail;clear aG aH aI aJ aK aL aM aN aO aP aA aB aC aD aE aF aQ;refine(C4.o _ (h.h4.I hE)).i ?_;rintro e v4 ⟨rfl,hb⟩;have aW:v3.heap.size<=v4.heap.size:=hb.size;replace bA:=bA.I hb;replace hE:=hE.j (hb.i hE.size);clear hb;obtain⟨aG,aH,aI,aJ,aK,aL,aM,aN,aO,aP,aA,aB,aC,aD,aE,aF,aQ⟩:=c16 bA.l;go_wp2_with fail;clear aG aH aI aJ aK aL aM aN aO aP aA aB aC aD aE aF aQ;refine(C5.o _ (h.h5.I hE)).i ?_;rintro e v5 ⟨rfl,hb⟩;have aX:v4.heap.size<=v5.heap.size:=hb.size;replace bA:=bA.I hb;replace hE:=hE.j (hb.i hE.size);clear hb;obtain⟨aG,aH,aI,aJ,aK,aL,aM,aN,aO,aP,aA,aB,aC,aD,aE,aF,aQ⟩:=c16 bA.l;go_wp2;go_ret;exact⟨rfl,hE⟩
