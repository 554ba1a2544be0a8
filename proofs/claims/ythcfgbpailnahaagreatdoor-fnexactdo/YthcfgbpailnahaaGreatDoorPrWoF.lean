import Derived.Test.YthcfgbpailnahaaGreatDoorPrG25
import Derived.Test.YthcfgbpailnahaaGreatDoorPrWoE
set_option maxHeartbeats 16000000
namespace Go.Proofs.YthcfgbpailnahaaGreatDoor
open _root_.ByteArray(empty)
open Go.RowKit
set_option maxRecDepth 8000
set_option linter.all false
theorem zG{P:List (List (ByteArray×ByteArray))}(k:Nat)(hk:k<P.length)(hx:MA (P.getD k [])=false):QD P=false:=by
 unfold QD;have:P.all MA=false:=FN.2 ⟨P.getD k [],by simp[List.getD,hk],by rw[hx];simp⟩;rw[this,IL]
theorem Dr{P:List (List (ByteArray×ByteArray))}(h:1<=P.length/\P.length<=200)(hx:∀k,k<P.length->MA (P.getD k [])=true):QD P=true:=by
 unfold QD;rw[AO h,IC]
 refine DX.2 λrs hr=>?_
 obtain⟨k,hk,rfl⟩:=FP hr;have:=hx k hk;simpa[List.getD,hk] using this
theorem zC{ts:List ByteArray}(k:Nat)(hk:k<ts.length)(hx:¬(ts.getD k empty).size=64):QU ts=false:=by
 unfold QU;have:(ts.all λs=>decide (s.size=64))=false:=FN.2 ⟨ts.getD k empty,by simp[List.getD,hk],by simpa using hx⟩;rw[this,IL]
theorem C6{ts:List ByteArray}(h:ts.length<=2000)(hx:∀k,k<ts.length->(ts.getD k empty).size=64):QU ts=true:=by
 unfold QU;rw[AO h,IC]
 refine DX.2 λs hr=>?_
 obtain⟨k,hk,rfl⟩:=FP hr;have:=hx k hk;simpa[List.getD,hk] using this
theorem Ht{x:Wo}(h:decide (1<=x.w/\x.w<=8)=false):NR x=false:=by unfold NR;rw[h];rfl
theorem wF{x:Wo}(h:LS x.ss x.ws=false):NR x=false:=by unfold NR;rw[h];simp
theorem yD{x:Wo}(h:PW x=false):NR x=false:=by unfold NR;rw[h];simp
theorem p6{x:Wo}(h:QD x.P=false):NR x=false:=by unfold NR;rw[h];simp
theorem sk{x:Wo}(h:QU x.ts=false):NR x=false:=by unfold NR;rw[h];simp
theorem Ip{x:Wo}(h1:decide (1<=x.w/\x.w<=8)=true)(h2:LS x.ss x.ws=true)(h3:PW x=true)(h4:QD x.P=true)(h5:QU x.ts=true):NR x=true:=by unfold NR;rw[h1,h2,h3,h4,h5];rfl
theorem Ho{x:Wo}(hu:x.up=true):PW x=(OF x.W x.S x.L x.T x.H x.F x.R x.U x.O x.rs && decide (x.W=x.w/\x.S=(x.ss.length:Int))):=by unfold PW;rw[AK hu]
theorem El{x:Wo}(hu:x.up=false):PW x=PK x:=by unfold PW;rw[AE (by rw[hu];simp)]
theorem Ig(x:Wo)(q:Wp)(w:World)(h:x.at w q)(hm:x.le 1048576):Calls Tryz.prog 21 #[MD x q] w λe w'=>e=.returned (.bool (NR x))/\Below w.heap.size w w':=by
 have cE:=hm.l4;have cF:=hm.l5;have cC:=hm.l1;obtain⟨d1,aK⟩:∃d,decide (1<=x.w/\x.w<=8)=d:=⟨_,rfl⟩;obtain⟨d2,aL⟩:∃d,LS x.ss x.ws=d:=⟨_,rfl⟩;obtain⟨d4,aM⟩:∃d,decide ((1:Int)<=(x.P.length:Int)/\(x.P.length:Int)<=200)=d:=⟨_,rfl⟩;obtain⟨ds,aT⟩:∃d,OF x.W x.S x.L x.T x.H x.F x.R x.U x.O x.rs=d:=⟨_,rfl⟩;obtain⟨dn,aS⟩:∃d,PK x=d:=⟨_,rfl⟩;obtain⟨d5,aF⟩:∃d,decide (x.ts.length<=2000)=d:=⟨_,rfl⟩;obtain⟨di,aG⟩:∃d,PW x=d:=⟨_,rfl⟩;have C1:=LE (PV x.w);have C2:=LE (λw' k1 k2=>UT q.a x.ss q.c q.a' x.ws q.c' w' k1 k2 hm.l1 hm.l2 hm.s1 hm.s2);have C4:=LE (λw'=>YT (x.P.length:Int) 1 200 d4 aM w');have CN:=LE (λw'=>zL x q w' hm.l3);have CV:=LE (λw' k=>fg x.W x.S x.L x.T x.H x.F x.R x.U x.O q.s x.rs q.cs w' k hm.l3 hm.s3);unfold LV at CN CV;rw[aK]at C1;rw[aL]at C2;rw[aT]at CV;rw[aS]at CN;obtain⟨E,HE⟩:∃E,Hid (E=NR x):=⟨_,LE rfl⟩;rw[<-HE.o];have HM:=LE hm;have HH:=LE h;clear hm h;unfold MD
 go_enter Tryz.func21,Tryz.ntmps21;go_upto_region 1 with fail;generalize aE:w.alloc _=v1;obtain⟨hE,aW,b1⟩:=LJ aE;have r:Row v1 w.heap.size (wL x q):=b1.l;clear aE aW b1;generalize Value.agg _=A0;go_cut [27] from 5 to 26 (λbv wx=>bv=.bool (!(d1 && d2 && d4 && d5))/\Below v1.heap.size v1 wx)
 case first =>
  have c0:=r.x 0;have cl:=r.lt;go_wp2_with fail;refine(C1.o _).i ?_;refine MT ?_
  cases d1 with
  | false=>go_wp2_with fail;go_meet;exact⟨rfl,AB _ _⟩
  | true =>
  have c1:=r.x 1;have c2:=r.x 2;go_wp2_with fail;refine(C2.o _ (HH.o.h1.I hE) (HH.o.h2.I hE)).i ?_;rintro e v2 ⟨rfl,hb⟩;clear c0 c1 c2 cl
  cases d2 with
  | false=>go_wp2_with fail;go_meet;exact⟨rfl,hb⟩
  | true =>
  have aC:=(r.I hb).x 14;have cl:=(r.I hb).lt;go_wp2_with fail;refine(C4.o _).i ?_;refine MT ?_
  cases d4 with
  | false=>go_wp2_with fail;go_meet;exact⟨rfl,hb⟩
  | true =>
  have aJ:=(r.I hb).x 15
  cases d5 with
  | false =>
   have aP:(2000:Int)<(x.ts.length:Int):=by have:=JF aF;omega
   go_wp2_with fail;go_meet;exact⟨rfl,hb⟩
  | true =>
   have aP:¬(2000:Int)<(x.ts.length:Int):=by have:=AZ aF;omega
   go_wp2_with fail;go_meet;exact⟨by rw[AI (show ¬(2000:Int)<(x.ts.length:Int) by omega)];rfl,hb⟩
 case rest =>
 obtain⟨rfl,hb⟩:=hcut
 rename World=>v2
 replace r:=r.I hb;replace hE:=hE.j (hb.i hE.size);clear hb C1 C2 C4
 cases hall:(d1 && d2 && d4 && d5) with
 | false =>
  obtain rfl:E=false:=by
   rw[HE.o]
   cases d1 with
   | false=>exact Ht aK
   | true =>
   cases d2 with
   | false=>exact wF aL
   | true =>
   cases d4 with
   | false=>exact p6 (by unfold QD;rw[AI (λk=>JF aM ⟨by omega,by omega⟩)];rfl)
   | true =>
   cases d5 with
   | false=>exact sk (by unfold QU;rw[aF];rfl)
   | true=>cases hall
  go_wp2;go_ret;exact⟨rfl,hE⟩
 | true =>
  simp only[CU]at hall;obtain⟨⟨⟨rfl,rfl⟩,rfl⟩,rfl⟩:=hall;have hP:1<=x.P.length/\x.P.length<=200:=by have:=AZ aM;omega
  have b7:=AZ aF;have bC:=LE aK;have bE:=LE aL;clear aK aL aM aF;go_upto_region 3 with fail;go_cut [64] from 28 to 63 (λbv wx=>bv=.bool (!di)/\Below v2.heap.size v2 wx)
  case first =>
   obtain⟨c0,c1,c2,c3,c4,c5,c6,c7,c8,c9,c10,aN,c12,aO,aC,aJ,cl⟩:=c16 r
   cases hup:x.up with
   | false =>
    rw[hup]at c3;have HI:=LE (show di=dn by rw[<-aG,El hup];exact aS);clear hup;go_wp2_with fail;clear c0 c1 c2 c3 c4 c5 c6 c7 c8 c9 c10 aN c12 aO aC aJ cl;refine(CN.o _).i ?_;rintro e v3 ⟨rfl,hb⟩
    cases dn with
    | false=>go_wp2_with fail;go_meet;exact⟨by rw[HI.o];rfl,hb⟩
    | true=>go_wp2_with fail;go_meet;exact⟨by rw[HI.o];rfl,hb⟩
   | true =>
    rw[hup]at c3;have HI:=LE (show di=(ds && decide (x.W=x.w/\x.S=(x.ss.length:Int))) by rw[<-aG,Ho hup,aT]);go_wp2_with fail;clear c0 c1 c2 c3 c4 c5 c6 c7 c8 c9 c10 aN c12 aO aC aJ cl;refine(CV.o _ (HH.o.h3.I hE)).i ?_;rintro e v3 ⟨rfl,hb⟩;replace r:=r.I hb;obtain⟨c0,c1,c2,c3,c4,c5,c6,c7,c8,c9,c10,aN,c12,aO,aC,aJ,cl⟩:=c16 r;rw[hup]at c3;clear hup
    cases ds with
    | false=>go_wp2_with fail;go_meet;exact⟨by rw[HI.o];rfl,hb⟩
    | true =>
    by_cases hw:x.W=x.w
    ·by_cases hs:x.S=(x.ss.length:Int)
     ·have HW:=LE (AG hw hs)
      go_wp2_with fail;go_meet;exact⟨by rw[HI.o,AO HW.o];rfl,hb⟩
     have HW:=LE hs
     go_wp2_with fail;go_meet;exact⟨by rw[HI.o,AI (λk=>HW.o k.2)];rfl,hb⟩
    have HW:=LE hw
    go_wp2_with fail;go_meet;exact⟨by rw[HI.o,AI (λk=>HW.o k.1)];rfl,hb⟩
  case rest =>
  obtain⟨rfl,hb⟩:=hcut
  rename World=>v3
  replace r:=r.I hb;replace hE:=hE.j (hb.i hE.size);clear hb CN CV aT aS
  cases di with
  | false =>
   obtain rfl:E=false:=by rw[HE.o];exact yD aG
   go_wp2;go_ret;exact⟨rfl,hE⟩
  | true =>
   have bF:=LE aG;clear aG;have aC:=r.x 14;have cl:=r.lt;go_wp2_with fail;clear aC cl;go_loopw [3] (λi wr=>∃k:Nat,k<=x.P.length/\i=.int .i64 (k:Int)/\Hid (∀j,j<k->MA (x.P.getD j [])=true)/\Hid (Below v3.heap.size v3 wr)) (λi _=>x.P.length-(intOf i).toNat)
   case atStart=>exact⟨0,AH _,rfl,λj hj=>absurd hj (by omega),AB _ _⟩
   case round =>
    obtain⟨k,hk,rfl,HA,aH⟩:=hrel;have aD:=hE.j (aH.o.i hE.size);replace r:=r.I aH.o;have bV:=r.x 14;have ql:=r.lt
    by_cases aV:k<x.P.length
    ·have bQ:(k:Int)<(x.P.length:Int):=by omega
     obtain⟨b,o,p,cp,aZ,cA,bP,HP⟩:=(HH.o.h4.I aD).at aV;obtain⟨rs,aI⟩:∃rs,Hid (rs=x.P.getD k []):=⟨_,LE rfl⟩;rw[<-aI.o]at bP HP;have aB:rs∈x.P:=by rw[aI.o];simp[List.getD,aV]
     have HV:=LE (it p rs cp wr HP.o (HM.o.s4 rs aB).1 (HM.o.s4 rs aB).2);clear aB HP r;rw[aZ]at bV;clear aZ
     cases hst:MA rs with
     | false =>
      obtain rfl:E=false:=by rw[HE.o];exact p6 (zG k aV (by rw[<-aI.o];exact hst))
      rw[hst]at HV;go_wp2_with (go_at_call 62;refine HV.o.i ?_;rintro e w2 ⟨rfl,aR⟩);go_ret;exact⟨rfl,aD.j (aR.i aD.size)⟩
     | true =>
      rw[hst]at HV;have bJ:=LE hst;clear hst;go_wp2_with (go_at_call 62;refine HV.o.i ?_;rintro e w2 ⟨rfl,aR⟩);go_roundw
      case rel =>
       refine⟨_,_,_,_,_,_,_,_,_,_,_,_,_,_,_,_,?_,rfl⟩
       exact⟨k+1,by omega,by go_num,λj hj=>by
        by_cases e:j=k
        ·subst e;rw[<-aI.o];exact bJ.o
        exact HA.o j (by omega),aH.o.j (aR.i aH.o.size)⟩
      case measure=>simp[intOf];omega
    have bQ:¬(k:Int)<(x.P.length:Int):=by omega
    have bI:=LE (Dr hP (λj hj=>HA.o j (by omega)));have bW:=r.x 15;go_wp2;go_loopw [4] (λi w5=>∃k:Nat,k<=x.ts.length/\i=.int .i64 (k:Int)/\Hid (∀j,j<k->(x.ts.getD j empty).size=64)/\w5=wr) (λi _=>x.ts.length-(intOf i).toNat)
    case atStart=>exact⟨0,AH _,rfl,λj hj=>absurd hj (by omega),by first|rfl|trivial⟩
    case round =>
     obtain⟨k5,cB,rfl,aX,bU⟩:=hrel;subst bU
     by_cases aA:k5<x.ts.length
     ·have aU:(k5:Int)<(x.ts.length:Int):=by omega
      obtain⟨b,o,s,bT,hc,HS⟩:=(HH.o.h5.I aD).at aA;rw[bT]at bW;have cH:=HM.o.s5 s (by rw[HS.o];simp[List.getD,aA])
      by_cases aY:s.size=64
      ·have aQ:(s.size:Int)=64:=by omega
       go_wp2;go_roundw
       case rel=>exact⟨k5+1,by omega,by go_num,λj hj=>by
        by_cases e:j=k5
        ·subst e;rw[<-HS.o];exact aY
        exact aX.o j (by omega),by first|rfl|trivial⟩
       case measure=>simp[intOf];omega
      have aQ:¬(s.size:Int)=64:=by omega
      obtain rfl:E=false:=by rw[HE.o];exact sk (zC k5 aA (by rw[<-HS.o];exact aY))
      go_wp2;go_ret;exact⟨rfl,aD⟩
     have aU:¬(k5:Int)<(x.ts.length:Int):=by omega
     obtain rfl:E=true:=by rw[HE.o];exact Ip bC.o bE.o bF.o bI.o (C6 (by omega) (λj hj=>aX.o j (by omega)))
     go_wp2;go_ret;exact⟨rfl,aD⟩
