import Derived.Test.YtehbpeinnepdcaaGreatDoorPrG48
set_option maxHeartbeats 16000000
namespace Go.Proofs.YtehbpeinnepdcaaGreatDoor
open Go.RowKit
set_option maxRecDepth 8000
set_option linter.unusedVariables false
set_option linter.unusedSimpArgs false
theorem jkx {a b:Int} (h:¬ a=b):(a == b)=false:=beq_eq_false_iff_ne.2 h
theorem QJx (x:Wo) (q:Wp) (w:World) (h:x.at w q) (hc:x.rs.length<=q.cs) (hm:x.le 1048576) :
  Calls Tryz.prog 29 #[Zov x q] w fun e w'=>e=.returned (.bool (v7c x))/\Below w.heap.size w w':=by
 unfold Zov;have hE:Below w.heap.size w w:=Below.refl _ _;have CN:=hid (fun w'=>xha x q w' hm.l3);have CV:=hid (fun w' k=>ZTg x.W x.S x.L x.T x.H x.F x.R x.U x.O q.s x.rs q.cs w' k hc hm.l3 hm.s3);unfold QPD at CN CV;have aW:=hm.l1
 cases hup:x.up with
 | false =>
  have e:v7c x=Xbr x:=by simp [v7c,hup]
  rw [e];clear e;go_enter Tryz.func29,Tryz.ntmps29;go_wp2_with fail;generalize aA:w.alloc _=v1;obtain ⟨hb,aT,bA⟩:=bx1 aA;clear aA;replace hE:=hE.trans (hb.mono hE.size);clear hb;refine (CN.out _).mono ?_;rintro e v2 ⟨rfl,hb⟩;have aS:v1.heap.size<=v2.heap.size:=hb.size;replace bA:=bA.below hb;replace hE:=hE.trans (hb.mono hE.size);clear hb;go_wp2;go_ret;exact ⟨rfl,hE⟩
 | true =>
  cases hst:jWr x.W x.S x.L x.T x.H x.F x.R x.U x.O x.rs with
  | false =>
   have e:v7c x=false:=by simp [v7c,hup,hst]
   rw [e];rw [hst] at CV;clear e;go_enter Tryz.func29,Tryz.ntmps29;go_wp2_with fail;generalize aA:w.alloc _=v1;obtain ⟨hb,aT,bA⟩:=bx1 aA;clear aA;replace hE:=hE.trans (hb.mono hE.size);clear hb;refine (CV.out _ (h.h3.below hE)).mono ?_;rintro e v2 ⟨rfl,hb⟩;have aS:v1.heap.size<=v2.heap.size:=hb.size;replace bA:=bA.below hb;replace hE:=hE.trans (hb.mono hE.size);clear hb;obtain ⟨aH,aI,aJ,aK,aL,aM,aN,aO,aP,aQ,aB,aC,aD,aE,aF,aG,aR⟩:=c16 bA.now;go_wp2;go_ret;exact ⟨rfl,hE⟩
  | true =>
   rw [hst] at CV
   by_cases hw:x.W=x.w
   rotate_left
   ·have e:v7c x=false:=by simp [v7c,hup,hst,hw]
    rw [e];clear e;go_enter Tryz.func29,Tryz.ntmps29;go_wp2_with fail;generalize aA:w.alloc _=v1;obtain ⟨hb,aT,bA⟩:=bx1 aA;clear aA;replace hE:=hE.trans (hb.mono hE.size);clear hb;refine (CV.out _ (h.h3.below hE)).mono ?_;rintro e v2 ⟨rfl,hb⟩;have aS:v1.heap.size<=v2.heap.size:=hb.size;replace bA:=bA.below hb;replace hE:=hE.trans (hb.mono hE.size);clear hb;obtain ⟨aH,aI,aJ,aK,aL,aM,aN,aO,aP,aQ,aB,aC,aD,aE,aF,aG,aR⟩:=c16 bA.now;go_wp2;go_ret;exact ⟨rfl,hE⟩
   by_cases hs:x.S=(x.ss.length:Int)
   rotate_left
   ·have e:v7c x=false:=by unfold v7c;rw [if_pos hup,hst,decide_eq_false (fun k=>hs k.2)];rfl
    rw [e];clear e;have aV:=hid hw;clear hw;have aU:=hid hs;clear hs;go_enter Tryz.func29,Tryz.ntmps29;go_wp2_with fail;generalize aA:w.alloc _=v1;obtain ⟨hb,aT,bA⟩:=bx1 aA;clear aA;replace hE:=hE.trans (hb.mono hE.size);clear hb;refine (CV.out _ (h.h3.below hE)).mono ?_;rintro e v2 ⟨rfl,hb⟩;have aS:v1.heap.size<=v2.heap.size:=hb.size;replace bA:=bA.below hb;replace hE:=hE.trans (hb.mono hE.size);clear hb;have hw:=aV.out;have hs:=aU.out;obtain ⟨aH,aI,aJ,aK,aL,aM,aN,aO,aP,aQ,aB,aC,aD,aE,aF,aG,aR⟩:=c16 bA.now;go_wp2;go_ret;have e6:(x.S == (x.ss.length:Int))=false:=jkx hs;exact ⟨by show Ending.returned (Value.bool (x.S == (x.ss.length:Int)))=_;rw [e6],hE⟩
   have e:v7c x=true:=by unfold v7c;rw [if_pos hup,hst,decide_eq_true ⟨hw,hs⟩];rfl
   rw [e];clear e;have aV:=hid hw;clear hw;have aU:=hid hs;clear hs;go_enter Tryz.func29,Tryz.ntmps29;go_wp2_with fail;generalize aA:w.alloc _=v1;obtain ⟨hb,aT,bA⟩:=bx1 aA;clear aA;replace hE:=hE.trans (hb.mono hE.size);clear hb;refine (CV.out _ (h.h3.below hE)).mono ?_;rintro e v2 ⟨rfl,hb⟩;have aS:v1.heap.size<=v2.heap.size:=hb.size;replace bA:=bA.below hb;replace hE:=hE.trans (hb.mono hE.size);clear hb;have hw:=aV.out;have hs:=aU.out;obtain ⟨aH,aI,aJ,aK,aL,aM,aN,aO,aP,aQ,aB,aC,aD,aE,aF,aG,aR⟩:=c16 bA.now;go_wp2;go_ret;exact ⟨rfl,hE⟩
theorem ygV (x:Wo) (q:Wp) (w:World) (h:x.at w q) (hc:x.rs.length<=q.cs) (hm:x.le 1048576) :
  Calls Tryz.prog 12 #[Zov x q] w fun e w'=>e=.returned (.bool (XLO x))/\Below w.heap.size w w':=by
 have C1:=hid (jnI x.w);have C2:=hid (fun w' k1 k2=>jU6 q.a x.ss q.c q.a' x.ws q.c' w' k1 k2 hm.l1 hm.l2 hm.s1 hm.s2);have C3:=hid (fun w' k=>QJx x q w' k hc hm);have C4:=hid (fun w' k=>QMQ q.p x.P q.cp w' k hm.l4 hm.s4);have C5:=hid (fun w' k=>joU q.t x.ts q.ct w' k hm.l5 hm.s5);unfold Zov at C3 ⊢;have hE:Below w.heap.size w w:=Below.refl _ _
 by_cases b1:(decide (1<=x.w/\x.w<=8))=true
 rotate_left
 ·have aY:=Bool.eq_false_iff.2 b1
  have e:XLO x=false:=by unfold XLO;rw [aY];rfl
  rw [e];rw [aY] at C1;clear e;go_enter Tryz.func12,Tryz.ntmps12;go_wp2_with fail;generalize aR:w.alloc _=v1;obtain ⟨hb,aT,bA⟩:=bx1 aR;clear aR;replace hE:=hE.trans (hb.mono hE.size);clear hb;refine (C1.out _).mono ?_;rintro e wz ⟨rfl,aS⟩;rw [aS];clear aS wz;obtain ⟨aG,aH,aI,aJ,aK,aL,aM,aN,aO,aP,aA,aB,aC,aD,aE,aF,aQ⟩:=c16 bA.now;go_wp2;go_ret;exact ⟨rfl,hE⟩
 rw [b1] at C1
 by_cases b2:(vlG x.ss x.ws)=true
 rotate_left
 ·have aZ:=Bool.eq_false_iff.2 b2
  have e:XLO x=false:=by unfold XLO;rw [b1,aZ];rfl
  rw [e];rw [aZ] at C2;clear e;go_enter Tryz.func12,Tryz.ntmps12;go_wp2_with fail;generalize aR:w.alloc _=v1;obtain ⟨hb,aT,bA⟩:=bx1 aR;clear aR;replace hE:=hE.trans (hb.mono hE.size);clear hb;refine (C1.out _).mono ?_;rintro e wz ⟨rfl,aS⟩;rw [aS];clear aS wz;obtain ⟨aG,aH,aI,aJ,aK,aL,aM,aN,aO,aP,aA,aB,aC,aD,aE,aF,aQ⟩:=c16 bA.now;go_wp2_with fail;clear aG aH aI aJ aK aL aM aN aO aP aA aB aC aD aE aF aQ;refine (C2.out _ (h.h1.below hE) (h.h2.below hE)).mono ?_;rintro e v2 ⟨rfl,hb⟩;have aU:v1.heap.size<=v2.heap.size:=hb.size;replace bA:=bA.below hb;replace hE:=hE.trans (hb.mono hE.size);clear hb;obtain ⟨aG,aH,aI,aJ,aK,aL,aM,aN,aO,aP,aA,aB,aC,aD,aE,aF,aQ⟩:=c16 bA.now;go_wp2;go_ret;exact ⟨rfl,hE⟩
 rw [b2] at C2
 by_cases b3:(v7c x)=true
 rotate_left
 ·have bC:=Bool.eq_false_iff.2 b3
  have e:XLO x=false:=by unfold XLO;rw [b1,b2,bC];rfl
  rw [e];rw [bC] at C3;clear e;go_enter Tryz.func12,Tryz.ntmps12;go_wp2_with fail;generalize aR:w.alloc _=v1;obtain ⟨hb,aT,bA⟩:=bx1 aR;clear aR;replace hE:=hE.trans (hb.mono hE.size);clear hb;refine (C1.out _).mono ?_;rintro e wz ⟨rfl,aS⟩;rw [aS];clear aS wz;obtain ⟨aG,aH,aI,aJ,aK,aL,aM,aN,aO,aP,aA,aB,aC,aD,aE,aF,aQ⟩:=c16 bA.now;go_wp2_with fail;clear aG aH aI aJ aK aL aM aN aO aP aA aB aC aD aE aF aQ;refine (C2.out _ (h.h1.below hE) (h.h2.below hE)).mono ?_;rintro e v2 ⟨rfl,hb⟩;have aU:v1.heap.size<=v2.heap.size:=hb.size;replace bA:=bA.below hb;replace hE:=hE.trans (hb.mono hE.size);clear hb;obtain ⟨aG,aH,aI,aJ,aK,aL,aM,aN,aO,aP,aA,aB,aC,aD,aE,aF,aQ⟩:=c16 bA.now;go_wp2_with fail;clear aG aH aI aJ aK aL aM aN aO aP aA aB aC aD aE aF aQ;refine (C3.out _ (h.below hE)).mono ?_;rintro e v3 ⟨rfl,hb⟩;have aV:v2.heap.size<=v3.heap.size:=hb.size;replace bA:=bA.below hb;replace hE:=hE.trans (hb.mono hE.size);clear hb;obtain ⟨aG,aH,aI,aJ,aK,aL,aM,aN,aO,aP,aA,aB,aC,aD,aE,aF,aQ⟩:=c16 bA.now
  go_wp2;go_ret;exact ⟨rfl,hE⟩
 rw [b3] at C3
 by_cases b4:(yel x.P)=true
 rotate_left
 ·have bG:=Bool.eq_false_iff.2 b4
  have e:XLO x=false:=by unfold XLO;rw [b1,b2,b3,bG];rfl
  rw [e];rw [bG] at C4;clear e;go_enter Tryz.func12,Tryz.ntmps12;go_wp2_with fail;generalize aR:w.alloc _=v1;obtain ⟨hb,aT,bA⟩:=bx1 aR;clear aR;replace hE:=hE.trans (hb.mono hE.size);clear hb;refine (C1.out _).mono ?_;rintro e wz ⟨rfl,aS⟩;rw [aS];clear aS wz;obtain ⟨aG,aH,aI,aJ,aK,aL,aM,aN,aO,aP,aA,aB,aC,aD,aE,aF,aQ⟩:=c16 bA.now;go_wp2_with fail;clear aG aH aI aJ aK aL aM aN aO aP aA aB aC aD aE aF aQ;refine (C2.out _ (h.h1.below hE) (h.h2.below hE)).mono ?_;rintro e v2 ⟨rfl,hb⟩;have aU:v1.heap.size<=v2.heap.size:=hb.size;replace bA:=bA.below hb;replace hE:=hE.trans (hb.mono hE.size);clear hb;obtain ⟨aG,aH,aI,aJ,aK,aL,aM,aN,aO,aP,aA,aB,aC,aD,aE,aF,aQ⟩:=c16 bA.now;go_wp2_with fail;clear aG aH aI aJ aK aL aM aN aO aP aA aB aC aD aE aF aQ;refine (C3.out _ (h.below hE)).mono ?_;rintro e v3 ⟨rfl,hb⟩;have aV:v2.heap.size<=v3.heap.size:=hb.size;replace bA:=bA.below hb;replace hE:=hE.trans (hb.mono hE.size);clear hb;obtain ⟨aG,aH,aI,aJ,aK,aL,aM,aN,aO,aP,aA,aB,aC,aD,aE,aF,aQ⟩:=c16 bA.now
  go_wp2_with fail;clear aG aH aI aJ aK aL aM aN aO aP aA aB aC aD aE aF aQ;refine (C4.out _ (h.h4.below hE)).mono ?_;rintro e v4 ⟨rfl,hb⟩;have aW:v3.heap.size<=v4.heap.size:=hb.size;replace bA:=bA.below hb;replace hE:=hE.trans (hb.mono hE.size);clear hb;obtain ⟨aG,aH,aI,aJ,aK,aL,aM,aN,aO,aP,aA,aB,aC,aD,aE,aF,aQ⟩:=c16 bA.now;go_wp2;go_ret;exact ⟨rfl,hE⟩
 rw [b4] at C4
 by_cases b5:(qCR x.ts)=true
 rotate_left
 ·have bH:=Bool.eq_false_iff.2 b5
  have e:XLO x=false:=by unfold XLO;rw [b1,b2,b3,b4,bH];rfl
  rw [e];rw [bH] at C5;clear e;go_enter Tryz.func12,Tryz.ntmps12;go_wp2_with fail;generalize aR:w.alloc _=v1;obtain ⟨hb,aT,bA⟩:=bx1 aR;clear aR;replace hE:=hE.trans (hb.mono hE.size);clear hb;refine (C1.out _).mono ?_;rintro e wz ⟨rfl,aS⟩;rw [aS];clear aS wz;obtain ⟨aG,aH,aI,aJ,aK,aL,aM,aN,aO,aP,aA,aB,aC,aD,aE,aF,aQ⟩:=c16 bA.now;go_wp2_with fail;clear aG aH aI aJ aK aL aM aN aO aP aA aB aC aD aE aF aQ;refine (C2.out _ (h.h1.below hE) (h.h2.below hE)).mono ?_;rintro e v2 ⟨rfl,hb⟩;have aU:v1.heap.size<=v2.heap.size:=hb.size;replace bA:=bA.below hb;replace hE:=hE.trans (hb.mono hE.size);clear hb;obtain ⟨aG,aH,aI,aJ,aK,aL,aM,aN,aO,aP,aA,aB,aC,aD,aE,aF,aQ⟩:=c16 bA.now;go_wp2_with fail;clear aG aH aI aJ aK aL aM aN aO aP aA aB aC aD aE aF aQ;refine (C3.out _ (h.below hE)).mono ?_;rintro e v3 ⟨rfl,hb⟩;have aV:v2.heap.size<=v3.heap.size:=hb.size;replace bA:=bA.below hb;replace hE:=hE.trans (hb.mono hE.size);clear hb;obtain ⟨aG,aH,aI,aJ,aK,aL,aM,aN,aO,aP,aA,aB,aC,aD,aE,aF,aQ⟩:=c16 bA.now
  go_wp2_with fail;clear aG aH aI aJ aK aL aM aN aO aP aA aB aC aD aE aF aQ;refine (C4.out _ (h.h4.below hE)).mono ?_;rintro e v4 ⟨rfl,hb⟩;have aW:v3.heap.size<=v4.heap.size:=hb.size;replace bA:=bA.below hb;replace hE:=hE.trans (hb.mono hE.size);clear hb;obtain ⟨aG,aH,aI,aJ,aK,aL,aM,aN,aO,aP,aA,aB,aC,aD,aE,aF,aQ⟩:=c16 bA.now;go_wp2_with fail;clear aG aH aI aJ aK aL aM aN aO aP aA aB aC aD aE aF aQ;refine (C5.out _ (h.h5.below hE)).mono ?_;rintro e v5 ⟨rfl,hb⟩;have aX:v4.heap.size<=v5.heap.size:=hb.size;replace bA:=bA.below hb;replace hE:=hE.trans (hb.mono hE.size);clear hb;obtain ⟨aG,aH,aI,aJ,aK,aL,aM,aN,aO,aP,aA,aB,aC,aD,aE,aF,aQ⟩:=c16 bA.now;go_wp2;go_ret;exact ⟨rfl,hE⟩
 rw [b5] at C5;have e:XLO x=true:=by unfold XLO;rw [b1,b2,b3,b4,b5];rfl
 rw [e];clear e;go_enter Tryz.func12,Tryz.ntmps12;go_wp2_with fail;generalize aR:w.alloc _=v1;obtain ⟨hb,aT,bA⟩:=bx1 aR;clear aR;replace hE:=hE.trans (hb.mono hE.size);clear hb;refine (C1.out _).mono ?_;rintro e wz ⟨rfl,aS⟩;rw [aS];clear aS wz;obtain ⟨aG,aH,aI,aJ,aK,aL,aM,aN,aO,aP,aA,aB,aC,aD,aE,aF,aQ⟩:=c16 bA.now;go_wp2_with fail;clear aG aH aI aJ aK aL aM aN aO aP aA aB aC aD aE aF aQ;refine (C2.out _ (h.h1.below hE) (h.h2.below hE)).mono ?_;rintro e v2 ⟨rfl,hb⟩;have aU:v1.heap.size<=v2.heap.size:=hb.size;replace bA:=bA.below hb;replace hE:=hE.trans (hb.mono hE.size);clear hb;obtain ⟨aG,aH,aI,aJ,aK,aL,aM,aN,aO,aP,aA,aB,aC,aD,aE,aF,aQ⟩:=c16 bA.now;go_wp2_with fail;clear aG aH aI aJ aK aL aM aN aO aP aA aB aC aD aE aF aQ;refine (C3.out _ (h.below hE)).mono ?_;rintro e v3 ⟨rfl,hb⟩;have aV:v2.heap.size<=v3.heap.size:=hb.size;replace bA:=bA.below hb;replace hE:=hE.trans (hb.mono hE.size);clear hb;obtain ⟨aG,aH,aI,aJ,aK,aL,aM,aN,aO,aP,aA,aB,aC,aD,aE,aF,aQ⟩:=c16 bA.now
 go_wp2_with fail;clear aG aH aI aJ aK aL aM aN aO aP aA aB aC aD aE aF aQ;refine (C4.out _ (h.h4.below hE)).mono ?_;rintro e v4 ⟨rfl,hb⟩;have aW:v3.heap.size<=v4.heap.size:=hb.size;replace bA:=bA.below hb;replace hE:=hE.trans (hb.mono hE.size);clear hb;obtain ⟨aG,aH,aI,aJ,aK,aL,aM,aN,aO,aP,aA,aB,aC,aD,aE,aF,aQ⟩:=c16 bA.now;go_wp2_with fail;clear aG aH aI aJ aK aL aM aN aO aP aA aB aC aD aE aF aQ;refine (C5.out _ (h.h5.below hE)).mono ?_;rintro e v5 ⟨rfl,hb⟩;have aX:v4.heap.size<=v5.heap.size:=hb.size;replace bA:=bA.below hb;replace hE:=hE.trans (hb.mono hE.size);clear hb;obtain ⟨aG,aH,aI,aJ,aK,aL,aM,aN,aO,aP,aA,aB,aC,aD,aE,aF,aQ⟩:=c16 bA.now;go_wp2;go_ret;exact ⟨rfl,hE⟩
end Go.Proofs.YtehbpeinnepdcaaGreatDoor
