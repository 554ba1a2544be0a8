import Derived.Test.YthcfgbpailnahaaGreatDoorPrG43
import Derived.Test.YthcfgbpailnahaaGreatDoorPrG28
import Derived.ChangeKeysEq
import Derived.Laws.IdiomStrings
import Derived.SliceStrings
import Derived.Deep.SlicePairs
import Derived.ProofKit
import Derived.ChangeOld
import Derived.Deep.Slices
import Derived.Lib.SmallJoins
set_option maxHeartbeats 16000000
set_option maxRecDepth 8000
set_option linter.all false
namespace Go.Proofs.YthcfgbpailnahaaGreatDoor
open _root_.ByteArray(empty)
section
open Tryz
open Go.RowKit
section
structure B4(w:World)(B:Nat)(v0 v1 v2 v3:Value):Prop where
 lt:B<w.heap.size
 c0:w.cell? ⟨B,0,none⟩=some v0
 c1:w.cell? ⟨B,1,none⟩=some v1
 c2:w.cell? ⟨B,2,none⟩=some v2
 c3:w.cell? ⟨B,3,none⟩=some v3
 f0:w.frozen? ⟨B,0,none⟩=false
 f1:w.frozen? ⟨B,1,none⟩=false
 f2:w.frozen? ⟨B,2,none⟩=false
 f3:w.frozen? ⟨B,3,none⟩=false
section
variable {w w':World} {B:Nat} {v0 v1 v2 v3:Value}
def B4.past(h:B4 w B v0 v1 v2 v3){N:Nat}(hN:B<N)(hb:Below N w w'):B4 w' B v0 v1 v2 v3:=by
 have hc:∀i,w'.cell? ⟨B,i,none⟩=w.cell? ⟨B,i,none⟩:=λi=>hb.cell (p:=⟨B,i,none⟩) hN
 have hf:∀i,w'.frozen? ⟨B,i,none⟩=w.frozen? ⟨B,i,none⟩:=λi=>hb.frozen (p:=⟨B,i,none⟩) hN
 exact⟨AD h.lt hb.size,(hc _).j h.c0,(hc _).j h.c1,(hc _).j h.c2,(hc _).j h.c3,(hf _).j h.f0,(hf _).j h.f1,(hf _).j h.f2,(hf _).j h.f3⟩
def B4.I(h:B4 w B v0 v1 v2 v3)(hb:Below w.heap.size w w'):B4 w' B v0 v1 v2 v3:=h.past h.lt hb
def B4.drew(h:B4 w B v0 v1 v2 v3):B4 w.drew B v0 v1 v2 v3:=⟨h.lt,h.c0,h.c1,h.c2,h.c3,h.f0,h.f1,h.f2,h.f3⟩
def B4.alloc(h:B4 w B v0 v1 v2 v3)(o:Obj):B4 (w.alloc o) B v0 v1 v2 v3:=h.I (LG _ _)
def B4.new(w:World)(v0 v1 v2 v3:Value)(t:TypeId):B4 (w.alloc (.cells #[v0,v1,v2,v3] t)) w.heap.size v0 v1 v2 v3:=by
 refine⟨by simp,?_,?_,?_,?_,?_,?_,?_,?_⟩<;>first|(simp;done)|(rw[DH];exact VN _ _ _ (AA _))
end
section
variable {W w w':World} {R B:Nat} {v0 v1 v2 v3 u0 u1 u2 u3:Value}
end
end
end
section
open Tryz
structure Wr(p:Prop):Prop where
 o:p
end
section
open Tryz
open Go.RowKit
def SA(k n:Nat):List ByteArray:=(List.range n).map λi=>NJ (k+i)
def cr(k n:Nat):(SA k n).length=n:=by simp[SA]
def Bk(k n:Nat):SA k (n+1)=SA k n++[NJ (k+n)]:=by simp[SA,DR]
def mixed(k i:Nat)(ss:List ByteArray):List Value:=(SA k i++ss.drop i).map Value.string
def E4(k i:Nat)(ss:List ByteArray)(h:i<=ss.length):(mixed k i ss).length=ss.length:=by simp[mixed,cr];omega
def vJ(k i:Nat)(ss:List ByteArray)(h:i<ss.length):(mixed k i ss).set i (.string (NJ (k+i)))=mixed k (i+1) ss:=by
 unfold mixed;rw[Bk,RT ss i empty h,BK,BK,BK,FD,BV _ _ (by simp[cr])];simp[cr]
def yy(a:Option Addr)(ss:List ByteArray)(c k:Nat)(w:World)(h:OwnS w a (ss.map Value.string))(hk:0<k)(hl:k+ss.length<=100000000):Calls prog 47 #[.slice a ss.length c,.int .i64 (k:Int)] w λe w'=>e=.returned (.int .i64 ((k+ss.length:Nat):Int))/\w.grownBy w' (blk a ss.length)/\OwnS w' a ((SA k ss.length).map Value.string):=by
 by_cases aC:ss=[]
 ·subst aC
  go_enter func47,ntmps47;go_wp2;refine GE 1 ?_;rw[IR];go_wp2;go_ret;exact⟨rfl,VT _ _,.inl rfl⟩
 obtain⟨g,rfl,aA⟩:=h.resolve_left (by simpa using aC)
 rw[MI g 0 ss.length (λe=>aC (AC e))];have aG:Row w g (mixed k 0 ss):=by simpa[mixed,SA] using aA
 clear aA aC;go_enter func47,ntmps47;go_wp2;go_loopw [1,5] (λx i wr=>∃j:Nat,j<=ss.length/\i=.int .i64 (j:Int)/\x=.int .i64 ((k+j:Nat):Int)/\Row wr g (mixed k j ss)/\w.grownBy wr (some g)) (λ_ i _=>ss.length-(intOf i).toNat)
 case atStart=>exact⟨0,AH _,rfl,rfl,aG,VT _ _⟩
 case round =>
  clear aG;obtain⟨j,hj,rfl,rfl,aA,aE⟩:=hrel;have HR:=LE aA;have HG:=LE aE;clear aA aE
  by_cases aK:j<ss.length
  ·have HL:=LE (E4 k j ss hj)
   have aL:((k+j:Nat):Int)<=100000000:=by omega
   have aJ:(0:Int)<((k+j:Nat):Int):=by omega
   go_wp2_with (go_at_call 96;refine(YU (k+j) _ (by omega) (by omega)).i ?_;rintro e w2 ⟨rfl,aD⟩;have aB:=HR.o.I aD;obtain⟨u,hu⟩:∃u,w2.cell? ⟨g,j,none⟩=some u:=⟨_,aB.cell j _ (AM (by rw[HL.o];omega))⟩;have hf:=aB.froz j (by rw[HL.o];omega);have aI:=LE aB;have aH:=LE aD;clear aB aD);go_roundw
   case rel=>exact⟨j+1,by omega,by go_num,by go_num,by rw[<-vJ k j ss aK];exact aI.o.set j (by rw[HL.o];omega) _,MC (PY HG.o (TN _ aH.o)) _ _⟩
   case measure=>simp[intOf];omega
  have aF:Hid (j=ss.length):=by show _=_;omega
  go_wp2;go_ret;refine⟨MU (by rw[aF.o]),HG.o,.inr ⟨g,rfl,?_⟩⟩;have:=HR.o;rw[aF.o]at this;simpa[mixed] using this
def RQ(k n:Nat):List (Int×ByteArray):=(List.range n).map λi=>(((k+2*i:Nat):Int),NJ (k+2*i+1))
def dh(k n:Nat):(RQ k n).length=n:=by simp[RQ]
def Be(k n:Nat):RQ k (n+1)=RQ k n++[(((k+2*n:Nat):Int),NJ (k+2*n+1))]:=by simp[RQ,DR]
def US(k i:Nat)(ws:List (Int×ByteArray)):List Value:=LU (RQ k i++ws.drop i)
def xB(k i:Nat)(ws:List (Int×ByteArray))(h:i<=ws.length):(US k i ws).length=ws.length*2:=by simp[US,SZ,dh];omega
def B7(k i:Nat)(ws:List (Int×ByteArray))(h:i<ws.length):((US k i ws).set (i*2) (.int .i64 ((k+2*i:Nat):Int))).set (i*2+1) (.string (NJ (k+2*i+1)))=US k (i+1) ws:=by
 have el:(LU (RQ k i)).length=i*2:=by rw[SZ,dh]
 unfold US;rw[Be,RT ws i (0,empty) h,YV,YV,YV,BV _ _ (by omega),BV _ _ (by omega),el];simp[LU]
def wH(a:Option Addr)(ws:List (Int×ByteArray))(c k:Nat)(w:World)(h:OwnS w a (LU ws))(hk:0<k)(hl:k+2*ws.length<=100000000):Calls prog 93 #[.slice a ws.length c,.int .i64 (k:Int)] w λe w'=>e=.returned (.int .i64 ((k+2*ws.length:Nat):Int))/\w.grownBy w' (blk a ws.length)/\OwnS w' a (LU (RQ k ws.length)):=by
 by_cases aC:ws=[]
 ·skip
  subst aC;go_enter func93,ntmps93;go_wp2;refine GE 1 ?_;rw[IR];go_wp2;go_ret;exact⟨rfl,VT _ _,.inl rfl⟩
 obtain⟨g,rfl,aA⟩:=h.resolve_left (λe=>aC (by have:=BT List.length e;rw[SZ,AR]at this;exact AC (by omega)))
 rw[MI g 0 ws.length (λe=>aC (AC e))];have aH:Row w g (US k 0 ws):=by simpa[US,RQ] using aA
 clear aA aC;go_enter func93,ntmps93;go_wp2;go_loopw [1,5] (λx i wr=>∃j m:Nat,j<=ws.length/\i=.int .i64 (j:Int)/\x=.int .i64 (m:Int)/\Hid (m=k+2*j)/\Row wr g (US k j ws)/\w.grownBy wr (some g)) (λ_ i _=>ws.length-(intOf i).toNat)
 case atStart=>exact⟨0,k,AH _,rfl,rfl,LE rfl,aH,VT _ _⟩
 case round =>
  clear aH;obtain⟨j,m,hj,rfl,rfl,HM,aA,aF⟩:=hrel;have HR:=LE aA;have HG:=LE aF;clear aF
  by_cases aL:j<ws.length
  ·have hL:=xB k j ws hj
   obtain⟨u,hu⟩:∃u,wr.cell? ⟨g,j*2,none⟩=some u:=⟨_,aA.cell (j*2) _ (AM (by omega))⟩;have hf:=aA.froz (j*2) (by omega);have HL:=LE hL;have aO:(m:Int)<=99999999:=by have:=HM.o;omega
   have aM:(0:Int)<(m:Int):=by have:=HM.o;omega
   have aJ:=LE (aA.set (j*2) (by omega) (.int .i64 (m:Int)));clear hL aA;go_wp2_with (go_at_call 96;refine(bm ((m:Int)+1) (m+1) (by omega) _ (by omega) (by omega)).i ?_;rintro e w2 ⟨rfl,aD⟩;have aB:=aJ.o.I aD;obtain⟨u2,aP⟩:∃u,w2.cell? ⟨g,j*2+1,none⟩=some u:=⟨_,aB.cell (j*2+1) _ (AM (by rw[DP,HL.o];omega))⟩;have aN:=aB.froz (j*2+1) (by rw[DP,HL.o];omega);have aK:=LE aB;have aI:=LE aD;clear aB aD)
   have aE:((US k j ws).set (j*2) (.int .i64 (m:Int))).set (j*2+1) (.string (NJ (m+1)))=US k (j+1) ws:=by
    rw[HM.o];exact B7 k j ws aL
   go_roundw
   case rel=>exact⟨j+1,m+2,by omega,by go_num,by go_num,by show _=_;have:=HM.o;omega,by rw[<-aE];exact aK.o.set (j*2+1) (by rw[DP,HL.o];omega) _,MC (PY (MC HG.o _ _) (TN _ aI.o)) _ _⟩
   case measure=>simp[intOf];omega
  have aG:Hid (j=ws.length):=by show _=_;omega
  clear aA;go_wp2;go_ret;refine⟨MU (by rw[HM.o,aG.o]),HG.o,.inr ⟨g,rfl,?_⟩⟩;have:=HR.o;rw[aG.o]at this;simpa[US] using this
def zT(a:Option Addr)(ss:List ByteArray)(c:Nat)(a':Option Addr)(ws:List (Int×ByteArray))(c' k:Nat)(w:World)(h:OwnD w a ss a' ws)(hk:0<k)(hl:k+ss.length+2*ws.length<=100000000):Calls prog 44 #[LN a ss.length c a' ws.length c',.int .i64 (k:Int)] w λe w'=>e=.returned (.int .i64 ((k+ss.length+2*ws.length:Nat):Int))/\(∃w1 w2,Below w.heap.size w w1/\w1.grownBy w2 (blk a ss.length)/\w2.grownBy w' (blk a' ws.length))/\OwnD w' a (SA k ss.length) a' (RQ (k+ss.length) ws.length):=by
 have aC:∀o,Below w.heap.size w (w.alloc o):=λo=>LG _ _
 have l1:=h.s.lt ss.length nk;have l2:=h.p.lt ws.length Gt;go_enter func44,ntmps44;go_wp2_with fail;refine(yy a ss c k _ (h.s.I (aC _)) hk (by omega)).i ?_;rintro e w1 ⟨rfl,aA,aG⟩;have q1:w1.cell? ⟨w.heap.size,1,none⟩=some (.slice a' ws.length c'):=(CW (a:=⟨w.heap.size,1,none⟩) (aA.block w.heap.size (by simp) (λe=>by have:=l1 _ e.symm;omega))).j (by go_simp)
 have aI:OwnS w1 a' (LU ws):=(h.p.I (aC _)).z aA (λg hg aB=>by
  rcases h.ne with h0|h0|h0
  ·rw[h0];simp
  ·subst hg;rw[MI g 0 _ (VS aB)]at h0;cases h0
  ·subst hg;rw[MI g 0 _ (VS aB)]at h0;exactλe=>h0 e.symm)
 have aJ:=LE aA;have aK:=LE aG;obtain⟨m,HM⟩:∃m,Hid (m=k+ss.length):=⟨_,LE rfl⟩;rw[<-HM.o];clear aA aG;go_wp2_with fail;refine(wH a' ws c' m _ aI (by have:=HM.o;omega) (by have:=HM.o;omega)).i ?_;rintro e w2 ⟨rfl,aE,aH⟩;clear q1 aI;have aD:=LE aE;have aL:=LE aH;clear aE aH l1 l2;go_wp2;go_ret;refine⟨MU (by have:=HM.o;omega),⟨_,w1,aC _,aJ.o,aD.o⟩,?_,?_,?_⟩
 ·refine aK.o.z aD.o (λg hg aB=>?_)
  have aF:ss.length≠0:=by have:=TC aB;rwa [cr]at this
  subst hg;rcases h.ne with h0|h0|h0
  ·rw[MI g 0 _ aF]at h0;cases h0
  ·rw[h0];simp
  rwa [MI g 0 _ aF]at h0
 ·rw[<-HM.o];exact aL.o
 rw[cr,dh];exact h.ne
def tj(a:Option Addr)(n c k:Nat)(w:World)(h:OwnS w a ((SA k n).map Value.string))(hk:0<k)(hl:k+n<=100000000):Calls prog 53 #[.slice a n c,.int .i64 (k:Int)] w λe w'=>e=.returned (.int .i64 ((k+n:Nat):Int))/\Below w.heap.size w w':=by
 rcases h with h|⟨g,rfl,aB⟩
 ·have hn:n=0:=by have:=BT List.length h;simpa[SA] using this
  subst hn;go_enter func53,ntmps53;go_wp2;refine GE 1 ?_;rw[IR];go_wp2;go_ret;exact⟨rfl,AB _ _⟩
 have aC:=LE aB
 clear aB;go_enter func53,ntmps53;go_wp2;go_loopw [1,5] (λx i wr=>∃j:Nat,j<=n/\i=.int .i64 (j:Int)/\x=.int .i64 ((k+j:Nat):Int)/\Below w.heap.size w wr) (λ_ i _=>n-(intOf i).toNat)
 case atStart=>exact⟨0,AH _,rfl,rfl,AB _ _⟩
 case round =>
  obtain⟨j,hj,rfl,rfl,aA⟩:=hrel;have HR:=LE (aC.o.I aA);have HB:=LE aA;clear aA
  by_cases aG:j<n
  ·have aK:((k+j:Nat):Int)<=100000000:=by omega
   have aF:(0:Int)<((k+j:Nat):Int):=by omega
   have aI:(0:Int)<=(j:Int):=by omega
   have aJ:(j:Int)<(n:Int):=by omega
   have HC:Hid (wr.cell? ⟨g,j,none⟩=some (.string (NJ (k+j)))):=HR.o.cell j _ (by simp[SA,aG]);have aH:g<wr.heap.size:=HR.o.lt;go_wp2_with fail
   go_region_held3 (λw'=>w'.cell? ⟨g,j,none⟩=some (.string (NJ (k+j))))
    (first|assumption|exact HC.o|exact(aD.cell (p:=⟨g,j,none⟩) aH).j HC.o)
    (first|(go_at_call 96;refine(YU (k+j) _ (by omega) (by omega)).i ?_;rintro e w2 ⟨rfl,aD⟩))
   go_wp2;go_roundw
   case rel=>exact⟨j+1,by omega,by go_num,by go_num,HB.o.drew.j (aD.i HB.o.size)⟩
   case measure=>simp[intOf];omega
  have aE:Hid (j=n):=by show _=_;omega
  go_wp2;go_ret;exact⟨MU (by rw[aE.o]),HB.o⟩
def Cp(a:Option Addr)(n c k:Nat)(w:World)(h:OwnS w a (LU (RQ k n)))(hk:0<k)(hl:k+2*n<=100000000):Calls prog 97 #[.slice a n c,.int .i64 (k:Int)] w λe w'=>e=.returned (.int .i64 ((k+2*n:Nat):Int))/\Below w.heap.size w w':=by
 rcases h with h|⟨g,rfl,aB⟩
 ·have hn:n=0:=by have:=BT List.length h;rw[SZ,dh,AR]at this;omega
  subst hn;go_enter func97,ntmps97;go_wp2;refine GE 1 ?_;rw[IR];go_wp2;go_ret;exact⟨rfl,AB _ _⟩
 have aD:=LE aB
 clear aB;go_enter func97,ntmps97;go_wp2;go_loopw [1,5] (λx i wr=>∃j m:Nat,j<=n/\i=.int .i64 (j:Int)/\x=.int .i64 (m:Int)/\Hid (m=k+2*j)/\Below w.heap.size w wr) (λ_ i _=>n-(intOf i).toNat)
 case atStart=>exact⟨0,k,AH _,rfl,rfl,LE rfl,AB _ _⟩
 case round =>
  obtain⟨j,m,hj,rfl,rfl,HM,aA⟩:=hrel;have HR:=LE (aD.o.I aA);have HB:=LE aA;clear aA
  by_cases aG:j<n
  ·have aN:(m:Int)<=99999999:=by have:=HM.o;omega
   have aJ:(0:Int)<(m:Int):=by have:=HM.o;omega
   have aL:(0:Int)<=(j:Int):=by omega
   have aM:(j:Int)<(n:Int):=by omega
   have aC:=al (RQ k n) j (by rw[dh];exact aG);have aF:(RQ k n).getD j (0,empty)=((m:Int),NJ (m+1)):=by rw[HM.o];simp[RQ,List.getD,aG]
   rw[aF]at aC;have aH:wr.cell? ⟨g,j*2,none⟩=some (.int .i64 (m:Int)):=HR.o.cell _ _ aC.1;have HC:Hid (wr.cell? ⟨g,j*2+1,none⟩=some (.string (NJ (m+1)))):=HR.o.cell _ _ aC.2;have aK:g<wr.heap.size:=HR.o.lt;clear aC aF;go_wp2_with fail;clear aH
   go_region_held3 (λw'=>w'.cell? ⟨g,j*2+1,none⟩=some (.string (NJ (m+1))))
    (first|assumption|exact HC.o|exact(aE.cell (p:=⟨g,j*2+1,none⟩) aK).j HC.o)
    (first|(go_at_call 96;refine(bm ((m:Int)+1) (m+1) (by omega) _ (by omega) (by omega)).i ?_;rintro e w2 ⟨rfl,aE⟩))
   go_wp2;go_roundw
   case rel=>exact⟨j+1,m+2,by omega,by go_num,by go_num,by show _=_;have:=HM.o;omega,HB.o.drew.j (aE.i HB.o.size)⟩
   case measure=>simp[intOf];omega
  have aI:Hid (j=n):=by show _=_;omega
  go_wp2;go_ret;exact⟨MU (by rw[HM.o,aI.o]),HB.o⟩
def Fx(a:Option Addr)(n c:Nat)(a':Option Addr)(n' c' k:Nat)(w:World)(h:OwnS w a ((SA k n).map Value.string))(h':OwnS w a' (LU (RQ (k+n) n')))(hk:0<k)(hl:k+n+2*n'<=100000000):Calls prog 50 #[LN a n c a' n' c',.int .i64 (k:Int)] w λe w'=>e=.returned (.int .i64 ((k+n+2*n':Nat):Int))/\Below w.heap.size w w':=by
 have aD:∀o,Below w.heap.size w (w.alloc o):=λo=>LG _ _
 go_enter func50,ntmps50;go_wp2_with fail;refine(tj a n c k _ (h.I (aD _)) hk (by omega)).i ?_;rintro e w1 ⟨rfl,aB⟩;have q1:w1.cell? ⟨w.heap.size,1,none⟩=some (.slice a' n' c'):=LH aB (by go_simp) (by simp);have aC:=(aD _).j (aB.i (by simp));have aA:=LE aC;obtain⟨m,HM⟩:∃m,Hid (m=k+n):=⟨_,LE rfl⟩;rw[<-HM.o];rw[<-HM.o]at h';clear aB aC;have aF:(0:Int)<=(m:Int):=by omega
 go_wp2_with fail;refine(Cp a' n' c' m _ (h'.I aA.o) (by have:=HM.o;omega) (by have:=HM.o;omega)).i ?_;rintro e w2 ⟨rfl,aE⟩;clear q1;have aG:(0:Int)<=((m+2*n':Nat):Int):=by omega
 go_wp2;go_ret;exact⟨MU (by have:=HM.o;omega),aA.o.j (aE.i aA.o.size)⟩
def sm(a:Option Addr)(n c k:Nat)(w:World)(h:OwnS w a (LI (QA k n)))(hk:0<k)(hl:k+2*n<=100000000):Calls prog 99 #[.slice a n c,.int .i64 (k:Int)] w λe w'=>e=.returned (.int .i64 ((k+2*n:Nat):Int))/\Below w.heap.size w w':=by
 rcases h with h|⟨g,rfl,aD⟩
 ·have hn:n=0:=by have:=BT List.length h;rw[RC,XX,AR]at this;omega
  subst hn;go_enter func99,ntmps99;go_wp2;refine GE 1 ?_;rw[IR];go_wp2;go_ret;exact⟨rfl,AB _ _⟩
 have aH:=LE aD
 clear aD;go_enter func99,ntmps99;go_wp2;go_loopw [1,5] (λx i wr=>∃j m:Nat,j<=n/\i=.int .i64 (j:Int)/\x=.int .i64 (m:Int)/\Hid (m=k+2*j)/\Below w.heap.size w wr) (λ_ i _=>n-(intOf i).toNat)
 case atStart=>exact⟨0,k,AH _,rfl,rfl,LE rfl,AB _ _⟩
 case round =>
  obtain⟨j,m,hj,rfl,rfl,HM,aB⟩:=hrel;have HR:=LE (aH.o.I aB);have HB:=LE aB;clear aB
  by_cases aL:j<n
  ·have aR:(m:Int)<=99999998:=by have:=HM.o;omega
   have aO:(0:Int)<(m:Int):=by have:=HM.o;omega
   have aP:(0:Int)<=(j:Int):=by omega
   have aQ:(j:Int)<(n:Int):=by omega
   have aE:=ZR (QA k n) j (by rw[XX];exact aL);have aK:(QA k n).getD j (empty,empty)=gx m:=by rw[HM.o];simp[QA,List.getD,aL]
   rw[aK]at aE;have HC:Hid (wr.cell? ⟨g,j*2,none⟩=some (.string (NJ m))/\wr.cell? ⟨g,j*2+1,none⟩=some (.string (NJ (m+1)))):=⟨HR.o.cell _ _ aE.1,HR.o.cell _ _ aE.2⟩;have aC:g<wr.heap.size:=HR.o.lt;clear aE aK;go_wp2_with fail
   go_region_held3 (λw'=>w'.cell? ⟨g,j*2,none⟩=some (.string (NJ m))/\w'.cell? ⟨g,j*2+1,none⟩=some (.string (NJ (m+1))))
    (first|assumption|exact HC.o|exact⟨(aA.cell (p:=⟨g,j*2,none⟩) aC).j HC.o.1,(aA.cell (p:=⟨g,j*2+1,none⟩) aC).j HC.o.2⟩)
    (first|(go_at_call 96;refine(YU m _ (by omega) (by omega)).i ?_;rintro e w2 ⟨rfl,aA⟩))
   have aG:Hid (w2.cell? ⟨g,j*2,none⟩=some (.string (NJ m))/\w2.cell? ⟨g,j*2+1,none⟩=some (.string (NJ (m+1)))):=⟨(aA.cell (p:=⟨g,j*2,none⟩) aC).j HC.o.1,(aA.cell (p:=⟨g,j*2+1,none⟩) aC).j HC.o.2⟩;have aI:g<w2.heap.size:=AD aC aA.size;have aJ:=LE (HB.o.drew.j (aA.i HB.o.size));clear aA aC;go_wp2_with fail
   go_region_held3 (λw'=>w'.cell? ⟨g,j*2,none⟩=some (.string (NJ m))/\w'.cell? ⟨g,j*2+1,none⟩=some (.string (NJ (m+1))))
    (first|assumption|exact aG.o|exact⟨(aF.cell (p:=⟨g,j*2,none⟩) aI).j aG.o.1,(aF.cell (p:=⟨g,j*2+1,none⟩) aI).j aG.o.2⟩)
    (first|(go_at_call 96;refine(bm ((m:Int)+1) (m+1) (by omega) _ (by omega) (by omega)).i ?_;rintro e w3 ⟨rfl,aF⟩))
   have aM:=LE (aJ.o.drew.j (aF.i aJ.o.size));clear aF aI;go_wp2;exact⟨⟨j+1,m+2,by omega,by go_num,by go_num,by show _=_;have:=HM.o;omega,aM.o⟩,by simp[intOf];omega⟩
  have aN:Hid (j=n):=by show _=_;omega
  go_wp2;go_ret;exact⟨MU (by rw[HM.o,aN.o]),HB.o⟩
def Cs(a:Option Addr)(n c k:Nat)(w:World)(h:OwnS w a (LI (QA k n)))(hk:0<k)(hl:k+2*n<=100000000):Calls prog 98 #[LR a n c,.int .i64 (k:Int)] w λe w'=>e=.returned (.int .i64 ((k+2*n:Nat):Int))/\Below w.heap.size w w':=by
 have aA:∀o,Below w.heap.size w (w.alloc o):=λo=>LG _ _
 have aC:¬((k+2*n:Nat):Int)<0:=by omega
 obtain⟨m,HM⟩:∃m,Hid (m=k+2*n):=⟨_,LE rfl⟩;have HP:=LE (λw' h'=>sm a n c k w' h' hk hl);rw[<-HM.o]at HP aC⊢;go_enter func98,ntmps98;go_wp2_with (go_at_call 99;refine(HP.o _ (h.I (aA _))).i ?_;rintro e w1 ⟨rfl,aB⟩);go_ret;exact⟨rfl,(aA _).j (aB.i (by simp))⟩
def Cn(W S L T H F R U O:Int)(a:Option Addr)(rs:List (ByteArray×ByteArray))(c k:Nat)(w:World)(h:OwnS w a (LI rs))(hk:0<k)(hl:k+2*rs.length<=100000000):Calls prog 45 #[LV W S L T H F R U O a rs.length c,.int .i64 (k:Int)] w λe w'=>e=.returned (.int .i64 ((k+2*rs.length:Nat):Int))/\w.grownBy w' (blk a rs.length)/\OwnS w' a (LI (QA k rs.length)):=by
 have aB:∀o,Below w.heap.size w (w.alloc o):=λo=>LG _ _
 have aA:=LE (λw' h'=>Ha a rs c k w' h' hk hl);obtain⟨m,HM⟩:∃m,Hid (m=k+2*rs.length):=⟨_,LE rfl⟩;rw[<-HM.o]at aA⊢;unfold LV;go_enter func45,ntmps45;go_wp2_with (go_at_call 94;refine(aA.o _ (h.I (aB _))).i ?_;rintro e w1 ⟨rfl,aC,aD⟩;have HG:=LE (PY (TN (blk a rs.length) (aB _)) aC);have HO:=LE aD;clear aC aD);go_ret;exact⟨rfl,HG.o,HO.o⟩
def Dh(W S L T H F R U O:Int)(a:Option Addr)(n c k:Nat)(w:World)(h:OwnS w a (LI (QA k n)))(hk:0<k)(hl:k+2*n<=100000000):Calls prog 51 #[LV W S L T H F R U O a n c,.int .i64 (k:Int)] w λe w'=>e=.returned (.int .i64 ((k+2*n:Nat):Int))/\Below w.heap.size w w':=by
 have aB:∀o,Below w.heap.size w (w.alloc o):=λo=>LG _ _
 have aA:=LE (λw' h'=>Cs a n c k w' h' hk hl);obtain⟨m,HM⟩:∃m,Hid (m=k+2*n):=⟨_,LE rfl⟩;have aD:(0:Int)<=(m:Int):=by omega
 rw[<-HM.o]at aA⊢;unfold LV;go_enter func51,ntmps51;go_wp2_with (go_at_call 98;refine(aA.o _ (h.I (aB _))).i ?_;rintro e w1 ⟨rfl,aC⟩);go_ret;exact⟨rfl,(aB _).j (aC.i (by simp))⟩
def XF(a:Option Addr)(rs:List (ByteArray×ByteArray))(c:Nat)(w:World)(h:Prs w a rs)(hl:rs.length<=1048576):Calls prog 79 #[LR a rs.length c] w λe w'=>au w w' e rs:=by
 obtain⟨i0,aF,aG,aH,aI⟩:=UP ZK;have HI:=LE (AG aF (AG aG (AG aH aI)));clear aF aG aH aI
 have aE:∀o1 o2,Below w.heap.size w ((w.alloc o1).alloc o2):=λo1 o2=>(LG _ _).alloc (by simp) _
 go_enter func79,ntmps79;go_wp2_with (at_builtin;refine pw rfl _ _ 46 rfl 162 i0 _ 2 32 underlying46 HI.o.1 HI.o.2.1 HI.o.2.2.1 HI.o.2.2.2 _ rfl (.inl rfl) _ rfl rs.length _ (nY (h.I (aE _ _)) _ _ underlying46 c) hl (by omega) ?_;intro a' cap wx aD aB aA;have c1:wx.cell? ⟨w.heap.size+1,0,none⟩=some (.slice none 0 0):=LH aA (by go_simp);have f1:wx.frozen? ⟨w.heap.size+1,0,none⟩=false:=LM aA (by go_simp);have aJ:=LE ((aE _ _).j (aA.i (by simp<;>omega)));have aC:=LE (xi (w:=w) aB (by simp;omega));have aK:w.heap.size+1<wx.heap.size:=AD (by simp) aA.size;clear aB aA);refine AJ (v:=LR a' rs.length cap) (by simp[results,results79,go_sem,c1]) rfl ⟨a',cap,rfl,aD,?_,λg hg=>(aC.o.2 g hg).1,aJ.o.setCell (by show w.heap.size<=w.heap.size+1;omega) _⟩;rcases aC.o.1 with h1|⟨g,rfl,h1⟩
 ·exact .inl h1
 by_cases h0:rs.length=0
 ·exact .inl (by rw[AC h0];rfl)
 have:=(aC.o.2 g (MI _ _ _ h0)).2
 exact .inr ⟨g,rfl,h1.other _ (by show w.heap.size+1≠g;rw[this];simp<;>omega) _⟩
section
structure RI(W w:World)(c0 c1 c2 c3:Value):Prop where
 size:W.heap.size+2<=w.heap.size
 bel:Below W.heap.size W w
 b0:w.cell? ⟨W.heap.size,0,none⟩=some c0
 b1:w.cell? ⟨W.heap.size,1,none⟩=some c1
 b2:w.cell? ⟨W.heap.size,2,none⟩=some c2
 b3:w.cell? ⟨W.heap.size,3,none⟩=some c3
section
variable {W w w':World} {c0 c1 c2 c3:Value}
def RI.drew(h:RI W w c0 c1 c2 c3):RI W w.drew c0 c1 c2 c3:=⟨h.size,h.bel.drew,h.b0,h.b1,h.b2,h.b3⟩
def RI.past(h:RI W w c0 c1 c2 c3)(hb:Below (W.heap.size+1) w w'):RI W w' c0 c1 c2 c3 :=have hs:=h.size
 ⟨AL hs hb.size,h.bel.j (hb.i (by omega)),(hb.cell (p:=⟨_,0,none⟩) (by show W.heap.size<_;omega)).j h.b0,(hb.cell (p:=⟨_,1,none⟩) (by show W.heap.size<_;omega)).j h.b1,
  (hb.cell (p:=⟨_,2,none⟩) (by show W.heap.size<_;omega)).j h.b2,(hb.cell (p:=⟨_,3,none⟩) (by show W.heap.size<_;omega)).j h.b3⟩
def RI.I(h:RI W w c0 c1 c2 c3)(hb:Below w.heap.size w w'):RI W w' c0 c1 c2 c3:=h.past (hb.i (by have:=h.size;omega))
def RI.wrote{o:Nat}{ys:List Int}(h:RI W w c0 c1 c2 c3)(hw:Wrote w w' (W.heap.size+1) o ys):RI W w' c0 c1 c2 c3:=h.past (hw.I (AA _))
def RI.toS(h:RI W w c0 c1 c2 c3):w.cell? ⟨W.heap.size,0,none⟩=some c0/\w.cell? ⟨W.heap.size,1,none⟩=some c1/\w.cell? ⟨W.heap.size,2,none⟩=some c2/\w.cell? ⟨W.heap.size,3,none⟩=some c3/\RI W w c0 c1 c2 c3:=⟨h.b0,h.b1,h.b2,h.b3,h⟩
def RI.ofS(h:w.cell? ⟨W.heap.size,0,none⟩=some c0/\w.cell? ⟨W.heap.size,1,none⟩=some c1/\w.cell? ⟨W.heap.size,2,none⟩=some c2/\w.cell? ⟨W.heap.size,3,none⟩=some c3/\RI W w c0 c1 c2 c3):RI W w c0 c1 c2 c3:=h.2.2.2.2
end
def Hc{P:Program}{c:Code}{Q:Exit->Act->World->Prop}{a:Act}(w:World)(c0 c1 c2 c3:Value)(t1 t2:TypeId)
  (h:∀wa,RI w wa c0 c1 c2 c3->Fm wa (w.heap.size+1) [0,0,0,0,0]->c.wp P Q a wa):c.wp P Q a ((w.alloc (.cells #[c0,c1,c2,c3] t1)).alloc (.cells #[.int .u8 0,.int .u8 0,.int .u8 0,.int .u8 0,.int .u8 0] t2)):=by
 refine h _ ⟨by simp,(LG _ _).alloc (by simp) _,by simp,by simp,by simp,by simp⟩ ⟨λi hi=>?_,λi hi=>?_⟩
 ·rw[DT _ _ _ _ (by simp)]
  have aA:i<5:=hi;have:i=0\/i=1\/i=2\/i=3\/i=4:=by omega
  rcases this with h|h|h|h|h<;>subst h<;>rfl
 rw[DH,DH]
 exact VN _ _ _ (by omega)
def zO(h f:Int){aA aB:List Int}(h1:aA=OU [0,0,0,0,0] 0 (be 1 h))(h2:aB=OU aA 1 (be 4 f)):strOfNums aB=VV h f:=by
 have a1:(be 1 h).length=1:=OK _ _;have a2:(be 4 f).length=4:=OK _ _;unfold VV;rw[<-RG];subst h1 h2
 congr 1
def Iy(t h f l n:Int)(w:World)(aB:¬SM h f):Calls prog 216 #[MV t h f l,.int .i64 n] w λe w'=>e=.returned (.string empty)/\Below w.heap.size w w':=by
 have aC:∀o,Below w.heap.size w (w.alloc o):=λo=>LG _ _
 unfold SM at aB
 by_cases d1:0<=h/\h<=1
 ·have aA:decide (0<=h/\h<=1)=true:=AO d1
  have aD:decide (1<=f/\f<=999999000)=false:=by simp;omega
  clear aB d1;go_enter func216,ntmps216
  go_wp2_with (first|(go_at_call 206;refine(nn _ _).i ?_;rw[aA];rintro e w1 ⟨rfl,rfl⟩)|(go_at_call 207;refine(ti _ _).i ?_;rw[aD];rintro e w2 ⟨rfl,rfl⟩))
  go_ret;exact⟨rfl,aC _⟩
 have aA:decide (0<=h/\h<=1)=false:=AI d1
 clear aB d1;go_enter func216,ntmps216
 go_wp2_with (first|(go_at_call 206;refine(nn _ _).i ?_;rw[aA];rintro e w1 ⟨rfl,rfl⟩))
 go_ret;exact⟨rfl,aC _⟩
set_option maxRecDepth 4000 in
def Ej(t h f l n:Int)(w:World)(aZ:SM h f):Calls prog 216 #[MV t h f l,.int .i64 n] w λe w'=>e=.returned (.string (MP 4 l t (VV h f) n))/\Below w.heap.size w w':=by
 obtain⟨h1,h2,h3,h4⟩:=aZ;have d1:decide (0<=h/\h<=1)=true:=by simp;omega
 have d2:decide (1<=f/\f<=999999000)=true:=by simp;omega
 have u1:IntKind.u64.wrap h=h:=VP h (by omega) (by omega);have u2:IntKind.u64.wrap f=f:=VP f (by omega) (by omega);obtain⟨pt,aQ⟩:∃pt,Hid (pt=VV h f):=⟨_,PA rfl⟩;rw[<-aQ.o];go_enter func216,ntmps216
 go_wp2_with (first|(go_at_call 206;refine(nn _ _).i ?_;rw[d1];rintro e w1 ⟨rfl,rfl⟩)|(go_at_call 207;refine(ti _ _).i ?_;rw[d2];rintro e w2 ⟨rfl,rfl⟩))
 refine Hc w (.int .i64 t) (.int .i64 h) (.int .i64 f) (.int .i64 l) _ _ ?_;intro wa aF aB;have aR:=PA aF.toS;clear aF
 go_region_held3 (λw'=>w'.cell? ⟨w.heap.size,0,none⟩=some (.int .i64 t)/\w'.cell? ⟨w.heap.size,1,none⟩=some (.int .i64 h)/\w'.cell? ⟨w.heap.size,2,none⟩=some (.int .i64 f)/\w'.cell? ⟨w.heap.size,3,none⟩=some (.int .i64 l)/\RI w w' (.int .i64 t) (.int .i64 h) (.int .i64 f) (.int .i64 l))
  (first|assumption|exact(RI.ofS aR.o).drew.toS|exact(RI.wrote (RI.ofS (by assumption)) (by assumption)).toS)
  (first|(go_at_call 236;refine(YP (w.heap.size+1) 0 1 5 h _ (by omega) (by omega) (by omega) (λi hi=>⟨_,aB.drew.cell (0+i) (by simp;omega)⟩) (λi hi=>aB.drew.froz (0+i) (by simp;omega))).i ?_;rintro e wb ⟨rfl,aU⟩))
 have aG:RI w wb (.int .i64 t) (.int .i64 h) (.int .i64 f) (.int .i64 l):=RI.ofS (by assumption);have aA:=aB.drew.wrote aU (by rw[OK];simp);obtain⟨aK,aL⟩:∃aK,Hid (aK=OU [0,0,0,0,0] 0 (be 1 h)):=⟨_,PA rfl⟩;have aE:aK.length=5:=by rw[aL.o,df _ _ _ (by rw[OK];simp)];rfl
 rw[<-aL.o]at aA;clear aR aU aB;go_wp2_with fail;have aS:=PA aG.toS;clear aG
 go_region_held3 (λw'=>w'.cell? ⟨w.heap.size,0,none⟩=some (.int .i64 t)/\w'.cell? ⟨w.heap.size,1,none⟩=some (.int .i64 h)/\w'.cell? ⟨w.heap.size,2,none⟩=some (.int .i64 f)/\w'.cell? ⟨w.heap.size,3,none⟩=some (.int .i64 l)/\RI w w' (.int .i64 t) (.int .i64 h) (.int .i64 f) (.int .i64 l))
  (first|assumption|exact(RI.ofS aS.o).drew.toS|exact(RI.wrote (RI.ofS (by assumption)) (by assumption)).toS)
  (first|(go_at_call 236;refine(YP (w.heap.size+1) 1 4 4 f _ (by omega) (by omega) (by omega) (λi hi=>⟨_,aA.drew.cell (1+i) (by rw[aE];omega)⟩) (λi hi=>aA.drew.froz (1+i) (by rw[aE];omega))).i ?_;rintro e wc ⟨rfl,aV⟩))
 have aH:RI w wc (.int .i64 t) (.int .i64 h) (.int .i64 f) (.int .i64 l):=RI.ofS (by assumption);have aD:=aA.drew.wrote aV (by rw[OK,aE];omega);obtain⟨aI,aM⟩:∃aI,Hid (aI=OU aK 1 (be 4 f)):=⟨_,PA rfl⟩;have aY:aI.length=5:=by rw[aM.o,df _ _ _ (by rw[OK,aE];omega),aE]
 rw[<-aM.o]at aD;have aN:strOfNums aI=VV h f:=zO h f aL.o aM.o;rw[<-aQ.o]at aN;have bC:pt.size<=1048576:=by rw[<-aN,BS,aY];omega
 have aT:∀wx,Fm wx (w.heap.size+1) aI->(convert 172 9 (.slice (some ⟨w.heap.size+1,0,none⟩) 5 5)).run prog wx=.ok (.string pt) wx:=λwx hf=>by
  have:=hf.text (P:=prog) 172 5 9 underlying172 underlying5 underlying9 0 5 5 (by omega);rw[DY,AT (by omega),aN]at this;exact this
 have aO:=PA aT;have aP:=PA aD;clear aS aV aA aD aT;go_wp2_with fail;have aC:=PA aH.toS;clear aH;have aW:w.heap.size+1<wc.heap.size:=by have:=(RI.ofS aC.o).size;omega
 go_region_held3 (λw'=>(convert 172 9 (.slice (some ⟨w.heap.size+1,0,none⟩) 5 5)).run prog w'=.ok (.string pt) w'/\w'.cell? ⟨w.heap.size,0,none⟩=some (.int .i64 t)/\w'.cell? ⟨w.heap.size,3,none⟩=some (.int .i64 l)/\RI w w' (.int .i64 t) (.int .i64 h) (.int .i64 f) (.int .i64 l))
  (first|assumption|exact⟨aO.o _ aP.o.drew,(RI.ofS aC.o).drew.b0,(RI.ofS aC.o).drew.b3,(RI.ofS aC.o).drew⟩|exact⟨aO.o _ (aP.o.drew.I aJ aW),((RI.ofS aC.o).drew.I aJ).b0,((RI.ofS aC.o).drew.I aJ).b3,(RI.ofS aC.o).drew.I aJ⟩)
  (first|(go_at_call 217;refine(ZW 4 l t pt n _ bC).i ?_;rintro e w4 ⟨rfl,aJ⟩))
 rename_i hSl;have aX:=hSl.2.2.2.bel;clear hSl;go_wp2;go_ret;exact⟨rfl,aX⟩
def oW(t h f l n:Int)(w:World):Calls prog 216 #[MV t h f l,.int .i64 n] w λe w'=>e=.returned (.string (ON t h f l n))/\Below w.heap.size w w':=by
 unfold ON
 by_cases aA:SM h f
 ·rw[AK aA];exact Ej t h f l n w aA
 rw[AE aA];exact Iy t h f l n w aA
end
def vT(s r:ByteArray)(a m:Nat)(h:r=s.extract a s.size)(hm:r.size<=m):r=s.extract a (a+m):=wi s r a m h hm
def Cy(s r:ByteArray)(a m:Nat)(h:r=s.extract a s.size)(hm:r.size<=m):empty=s.extract (a+m) s.size:=by
 subst h;simp only[AW]at hm
 apply FA
 symm
 apply JN
 show(ByteArray.size _)=0;simp only[AW];omega
def vh(s r:ByteArray)(k m N:Nat)(hN:N=PB s.size m)(hm:0<m)(hk:k<N)(h:r=s.extract (k*m) s.size):r.size<=m<->k+1=N:=by
 subst h;rw[hN]at hk⊢;rw[<-wJ s.size m k hm hk];simp only[AW,Zb,KN];omega
def p8(K l x:Int)(p:ByteArray)(n m:Nat)(hm:n+m=56)(h1:1<=n)(h2:n<=8)(hK:K=1\/K=2)(hp:p.size<=m):NI K l x p (n:Int)=decide (1<=l/\l<=60000/\1<=x/\x<=1000000000):=by
 unfold NI
 apply JQ.2
 rcases hK with rfl|rfl<;>constructor<;>intro h<;>omega
def Hi{f:Int}{k:Nat}(l:Int)(P:Nat->Prop)(h:∀j,j<k->1<=l/\l<=60000/\1<=f+(j:Int)/\f+(j:Int)<=1000000000)(aA:-9223372036854775808<=f)(aB:f<=9223372036854775807)(hk:k<=1048577):-9223372036854775808<=f+(k:Int)/\f+(k:Int)<=9223372036854775807:=by
 rcases GD k with h0|h0
 ·subst h0;simp;omega
 have:=h 0 h0;simp at this;omega
def rv(k l m:Int)(p:ByteArray)(n:Int):(MP k l m p n).toList.isEmpty=!NI k l m p n:=by
 rw[TH];unfold MP
 cases h:NI k l m p n with
 | false=>simp
 | true =>
  simp only[IK];have hp:1<=n/\n<=8/\(p.size:Int)<=56-n:=by unfold NI at h;simp at h;omega
  rw[eo k l m p n.toNat (by omega)];rfl
set_option maxRecDepth 4000 in
def Hq(s:ByteArray)(l f:Int)(n m:Nat)(w:World)(hs:s.size<=1048576)(hm:n+m=56)(h1:1<=n)(h2:n<=8)(bV:-9223372036854775808<=f)(bW:f<=9223372036854775807):Calls prog 181 #[.string s,.int .i64 l,.int .i64 f,.int .i64 (n:Int)] w λe w'=>iy w w' e (NQ s l f n m):=by
 obtain⟨N,HN⟩:∃N,Hid (N=PB s.size m):=⟨_,LE rfl⟩;have cC:N<=1048577:=by have:=uq s.size m;rw[HN.o];omega
 have bT:0<N:=by rw[HN.o];exact zp _ _
 have bQ:Hid (OB s.size (n:Int)=(N:Int)):=by
  show _=_;unfold OB;rw[AK (by omega),HN.o,show(56-(n:Int)).toNat=m by omega]
 obtain⟨R,HR⟩:∃R,Hid (R=NQ s l f n m):=⟨_,LE rfl⟩;rw[<-HR.o];obtain⟨i0,bE,bI,bJ,bP⟩:=info_parts kw;have HI:=LE (AG bE (AG bI (AG bJ bP)));clear bE bI bJ bP;go_enter func181,ntmps181
 go_wp2_with (first|(go_at_call 132;refine(nc s n _ hs).i ?_;rw[bQ.o];rintro e w2 ⟨rfl,bU⟩))
 go_loopw [0,9,10,11,12,13,17] (λx y _ _ _ _ i wr=>∃(k:Nat) (r:ByteArray),k<=N/\i=.int .i64 k/\x=.string r/\Hid (r=s.extract (k*m) s.size)/\r.size<=1048576/\Hid (∀j,j<k->1<=l/\l<=60000/\1<=f+(j:Int)/\f+(j:Int)<=1000000000)/\wr.ownsRow w.heap.size 9 1 y k ((TE s l f n m N k).map Value.string)/\Below w.heap.size w wr) (λ_ _ _ _ _ _ i _=>N-(intOf i).toNat)
 case atStart=>exact⟨0,s,AH _,rfl,rfl,by show s=_;simp,hs,λj hj=>by omega,BZ _ _ _ _,bU⟩
 case round =>
  obtain⟨k,r,hk,rfl,rfl,HX,cH,aN,aG,aF⟩:=hrel
  by_cases bF:k<N
  ·have aQ:w.heap.size<=wr.heap.size:=aF.size
   have HB:=LE aF;have aE:=LE aG;clear aF aG;obtain⟨b7,cA⟩:=Hi l (λ_=>True) aN.o bV bW (by omega)
   by_cases cF:m<r.size
   ·have bC:(m:Int)<(r.size:Int):=by omega
    have cE:(r.extract m r.size).toList.isEmpty=false:=by rw[TH];simp only[AW];simp;omega
    have aP:(r.extract 0 m).size<=1048576:=by simp only[AW];omega
    have aW:Hid ((r.extract 0 m).size<=m):=by show _<=_;simp only[AW];omega
    have aV:Hid ((r.extract 0 m)=s.extract (k*m) (k*m+m)):=by show _=_;exact xh s r _ m HX.o
    have aX:Hid ((r.extract m r.size)=s.extract ((k+1)*m) s.size):=by show _=_;rw[Zb,KN];exact oE s r _ m HX.o
    have aT:Hid ((if k+1=N then (2:Int) else 1)=1):=by show _=_;have:=vh s r k m N HN.o (by omega) bF HX.o;rw[AE (by omega)]
    obtain⟨F,HF⟩:∃F,Hid (F=MP 1 l (f+(k:Int)) (r.extract 0 m) (n:Int)):=⟨_,LE rfl⟩;have aS:Hid (F=XS s l f n m N k):=by show _=_;rw[HF.o,aV.o];unfold XS;rw[aT.o]
    have aM:Hid (F.toList.isEmpty=!decide (1<=l/\l<=60000/\1<=f+(k:Int)/\f+(k:Int)<=1000000000)):=by show _=_;rw[HF.o,rv,p8 1 l _ _ n m hm h1 h2 (by omega) aW.o]
    by_cases aD:1<=l/\l<=60000/\1<=f+(k:Int)/\f+(k:Int)<=1000000000
    ·have aY:F.toList.isEmpty=false:=by rw[aM.o];simpa using aD
     have aJ:=LE aD;clear aD
     go_wp2_with (first|(go_at_call 180;refine(dj n m _ hm h1 h2).i ?_;rintro e w4 ⟨rfl,rfl⟩)|(go_at_call 217;refine(ZW 1 l (f+(k:Int)) (r.extract 0 m) (n:Int) _ aP).i ?_;rw[<-HF.o];rintro e w5 ⟨rfl,aB⟩;have aL:=aB.size;simp only[AU]at aL;have aH:=LE (HB.o.j (((LG _ _).j (aB.i (by simp))).i aQ));have aI:=LE ((LY aE.o ((LG _ _).j (aB.i (by simp)))).alloc (.cells #[.string F] 9));clear aB)|(at_builtin;refine PU _ rfl _ _ 22 rfl w.heap.size underlying22 HI.o rfl (by omega) _ k _ rfl aI.o ⟨w5.heap.size,0,none⟩ 1 1 [.string F] rfl rfl (World.news_of_block (AY w5 _)) (by intro u hu;simp at hu;subst hu;rfl) (by simp;omega) (w5.heap.size+1) (by simp) ?_;intro g' cap w7 aC aA aK aZ;have aU:=LE aC;have aR:=LE (aj (aH.o.alloc (by omega) _) aI.o aA (by simp;omega));clear aC aA aK))
     refine⟨⟨k+1,(r.extract m r.size),by omega,by go_num,rfl,aX.o,by simp only[AW];omega,λj hj=>?_,?_,aR.o⟩,by simp[intOf];omega⟩
     ·rcases GN j k with h|h
      ·exact aN.o j h
      have:j=k:=by omega
      subst this;exact aJ.o
     rw[kp,BK,<-aS.o];exact aU.o
    have aY:F.toList.isEmpty=true:=by rw[aM.o,AI aD];rfl
    have aO:Hid (R=[]):=by show _=_;rw[HR.o];exact YN HN.o (by omega)
    clear aD
    go_wp2_with (first|(go_at_call 180;refine(dj n m _ hm h1 h2).i ?_;rintro e w4 ⟨rfl,rfl⟩)|(go_at_call 217;refine(ZW 1 l (f+(k:Int)) (r.extract 0 m) (n:Int) _ aP).i ?_;rw[<-HF.o];rintro e w5 ⟨rfl,aB⟩;have aL:=aB.size;simp only[AU]at aL;have aH:=LE (HB.o.j (((LG _ _).j (aB.i (by simp))).i aQ));have aI:=LE ((LY aE.o ((LG _ _).j (aB.i (by simp)))).alloc (.cells #[.string F] 9));clear aB))
    go_ret;rw[aO.o];exact bd rfl aH.o
   have bC:(r.size:Int)<=(m:Int):=by omega
   have aP:r.size<=1048576:=by omega
   have aW:Hid (r.size<=m):=by show _<=_;omega
   have aV:Hid (r=s.extract (k*m) (k*m+m)):=by show _=_;exact vT s r _ m HX.o (by omega)
   have aX:Hid (empty=s.extract ((k+1)*m) s.size):=by show _=_;rw[Zb,KN];exact Cy s r _ m HX.o (by omega)
   have aT:Hid ((if k+1=N then (2:Int) else 1)=2):=by show _=_;have:=vh s r k m N HN.o (by omega) bF HX.o;rw[AK (by omega)]
   obtain⟨F,HF⟩:∃F,Hid (F=MP 2 l (f+(k:Int)) r (n:Int)):=⟨_,LE rfl⟩;have aS:Hid (F=XS s l f n m N k):=by show _=_;rw[HF.o,aV.o];unfold XS;rw[aT.o]
   have aM:Hid (F.toList.isEmpty=!decide (1<=l/\l<=60000/\1<=f+(k:Int)/\f+(k:Int)<=1000000000)):=by show _=_;rw[HF.o,rv,p8 2 l _ _ n m hm h1 h2 (by omega) aW.o]
   by_cases aD:1<=l/\l<=60000/\1<=f+(k:Int)/\f+(k:Int)<=1000000000
   ·have aY:F.toList.isEmpty=false:=by rw[aM.o];simpa using aD
    have aJ:=LE aD;clear aD
    go_wp2_with (first|(go_at_call 180;refine(dj n m _ hm h1 h2).i ?_;rintro e w4 ⟨rfl,rfl⟩)|(go_at_call 217;refine(ZW 2 l (f+(k:Int)) r (n:Int) _ aP).i ?_;rw[<-HF.o];rintro e w5 ⟨rfl,aB⟩;have aL:=aB.size;simp only[AU]at aL;have aH:=LE (HB.o.j (((LG _ _).j (aB.i (by simp))).i aQ));have aI:=LE ((LY aE.o ((LG _ _).j (aB.i (by simp)))).alloc (.cells #[.string F] 9));clear aB)|(at_builtin;refine PU _ rfl _ _ 22 rfl w.heap.size underlying22 HI.o rfl (by omega) _ k _ rfl aI.o ⟨w5.heap.size,0,none⟩ 1 1 [.string F] rfl rfl (World.news_of_block (AY w5 _)) (by intro u hu;simp at hu;subst hu;rfl) (by simp;omega) (w5.heap.size+1) (by simp) ?_;intro g' cap w7 aC aA aK aZ;have aU:=LE aC;have aR:=LE (aj (aH.o.alloc (by omega) _) aI.o aA (by simp;omega));clear aC aA aK))
    refine⟨⟨k+1,empty,by omega,by go_num,rfl,aX.o,by simp,λj hj=>?_,?_,aR.o⟩,by simp[intOf];omega⟩
    ·rcases GN j k with h|h
     ·exact aN.o j h
     have:j=k:=by omega
     subst this;exact aJ.o
    rw[kp,BK,<-aS.o];exact aU.o
   have aY:F.toList.isEmpty=true:=by rw[aM.o,AI aD];rfl
   have aO:Hid (R=[]):=by show _=_;rw[HR.o];exact YN HN.o (by omega)
   clear aD
   go_wp2_with (first|(go_at_call 180;refine(dj n m _ hm h1 h2).i ?_;rintro e w4 ⟨rfl,rfl⟩)|(go_at_call 217;refine(ZW 2 l (f+(k:Int)) r (n:Int) _ aP).i ?_;rw[<-HF.o];rintro e w5 ⟨rfl,aB⟩;have aL:=aB.size;simp only[AU]at aL;have aH:=LE (HB.o.j (((LG _ _).j (aB.i (by simp))).i aQ));have aI:=LE ((LY aE.o ((LG _ _).j (aB.i (by simp)))).alloc (.cells #[.string F] 9));clear aB))
   go_ret;rw[aO.o];exact bd rfl aH.o
  have cB:k=N:=by omega
  subst cB
  have aO:Hid (R=TE s l f n m k k):=by
   show _=_;rw[HR.o];have h0:=aN.o 0 bT;have h3:=aN.o (k-1) (by omega);exact qg HN.o (by omega)
  have HO:=LE aG;clear aG;go_wp2;go_ret;rw[aO.o];exact uk HO.o (ip _ _ _ _ _ _ _).symm aF
section
section
variable {P:Program} {e t:TypeId} {i:TypeInfo} {n:Nat}
def nU(he:∀w,(isAgg e).run P w=.ok false w)(xs:List Int)(j:Nat)(hj:j<xs.length)(w:World):(part e (xs.map (Value.int .u8)).toArray j).run P w=.ok (.int .u8 (xs.getD j 0)) w:=by
 unfold part;simp[he,Result.andThen,hj,List.getD]
def Ci(hu:P.underlying e=some (.int .u8))(d:Nat)(a b:Int)(w:World):(Op.equalIn (d+1) e (.int .u8 a) (.int .u8 b)).run P w=.ok (a == b) w:=by
 simp[Op.equalIn,FO hu,Result.andThen]
def wj(he:∀w,(isAgg e).run P w=.ok false w)(hu:P.underlying e=some (.int .u8))(d:Nat)(xs ys:List Int)(w:World):∀(js:List Nat),(∀j∈js,j<xs.length/\j<ys.length)->(Op.eqItems (d+1) e 1 (xs.map (Value.int .u8)).toArray (ys.map (Value.int .u8)).toArray js).run P w=.ok (js.all λj=>xs.getD j 0 == ys.getD j 0) w
 | [],_=>by simp[Op.eqItems]
 | j::js,h=>by
  have hj:=h j (DZ);have ih:=wj he hu d xs ys w js (λq hq=>h q (BQ _ hq));simp only[Op.eqItems,GY,IP,nU he xs j hj.1,nU he ys j hj.2,Ci hu,IJ]
  cases hc:(xs.getD j 0 == ys.getD j 0) with
  | false=>simp only[Bool.not_false,IK,JK,List.all_cons,hc,Bool.false_and]
  | true=>simp only[Bool.not_true,EJ,IX,ih,List.all_cons,hc,IC]
def vG(xs ys:List Int)(hl:xs.length=ys.length):((List.range xs.length).all λj=>xs.getD j 0 == ys.getD j 0)=decide (xs=ys):=by
 rw[IA];simp only[DX,GS,beq_iff_eq,DO]
 constructor
 ·intro h
  apply KT hl
  intro j h1 h2;have:=h j h1;simpa[List.getD,h1,h2] using this
 intro h j hj;rw[h]
def Ai(hu:P.underlying t=some (.array n e))(hi:P.info? e=some i)(hc:P.cellsOf e=1)(he:∀w,(isAgg e).run P w=.ok false w)(hb:P.underlying e=some (.int .u8))(xs ys:List Int)(hx:xs.length=n)(hy:ys.length=n)(w:World):(binOp .neq t (.agg (xs.map (Value.int .u8)).toArray) (.agg (ys.map (Value.int .u8)).toArray)).run P w=.ok (.bool (!decide (xs=ys))) w:=by
 have h:=run_equalIn_array (w:=w) 9999 (xs.map (Value.int .u8)).toArray (ys.map (Value.int .u8)).toArray hu hi;rw[hc,<-hx,wj he hb 9998 xs ys w (List.range xs.length) (λj hj=>by have:=GS.1 hj;omega),vG xs ys (by omega)]at h;simp only[binOp];simp[Op.equal,Op.maxDepth,h,Result.andThen]
end
end
def sw(w:World)(o:Obj):(w.alloc o).heap[w.heap.size]?=some o:=by
 show(w.heap.push o)[w.heap.size]?=some o;simp
def Dv(w:World)(C:Array Value)(e:TypeId)(n i:Nat)(h:i<n):(w.alloc (.cells C e (n,n+1))).frozen? ⟨w.heap.size,i,none⟩=false:=by
 simp only[World.frozen?,sw];simp;omega
def Ac(w:World)(C:Array Value)(e:TypeId)(fr:Nat×Nat)(i:Nat):(w.alloc (.cells C e fr)).cell? ⟨w.heap.size,i,none⟩=C[i]?:=by
 simp only[World.cell?,sw];simp
def E6(w:World)(p:ByteArray):∃cap wB,(convert 9 172 (.string p)).run prog w=.ok (.slice (some ⟨w.heap.size,0,none⟩) p.size cap) wB/\Below w.heap.size w wB/\wB.heap.size=w.heap.size+1/\Fm wB w.heap.size (LF p)/\p.size<=cap:=by
 refine⟨_,_,run_bytes_of_string w _ _ 5 p underlying9 underlying172 underlying5,((AB _ _).drew).alloc (AA _) _,by simp,⟨λi hi=>?_,λi hi=>?_⟩,JI _ _ _ _⟩
 ·rw[ML]at hi
  refine(Ac w.drew _ _ _ i).j ?_;rw[bytesRow_at p _ i hi];have hl:i<p.data.toList.length:=hi;simp only[BB,LF,KJ,AM hl];rfl
 rw[ML]at hi
 exact Dv w.drew _ _ _ i (by unfold bytesRow;simp;omega)
def rQ:(prog.info? 127).map (λi=>(i.zero,i.size,i.bytes))=some (some (.agg #[.string empty,.string empty,.bool false]),3,40):=by kernel_rfl
def oL(s0:ByteArray)(s1:ByteArray)(g2:Bool)(aA:Int)(w:World)(h0:0<=aA)(h1:aA<=1048576)(aB:s0.size<=9223372036854775807)(aC:s1.size<=9223372036854775807):Calls prog 56 #[.agg #[.string s0,.string s1,.bool g2],.int .i64 aA] w λe w'=>e=.returned (.int .i64 (LO [s0.size,s1.size] aA))/\Below w.heap.size w w':=by
 by_cases c0:aA-(s0.size:Int)<0
 focus
  have HE:LO [s0.size,s1.size] aA=-1:=by simp[LO,c0]
 rotate_left
 focus
  by_cases c1:aA-(s0.size:Int)-(s1.size:Int)<0
  focus
   have HE:LO [s0.size,s1.size] aA=-1:=by simp[LO,c0,c1]
  rotate_left
  focus
   have HE:LO [s0.size,s1.size] aA=aA-(s0.size:Int)-(s1.size:Int):=by simp[LO,c0,c1]
  rotate_left
 rotate_left 2
 all_goals
  go_enter func56,ntmps56;go_wp2;go_ret;exact⟨MU (by first|rfl|exact HE.symm),LG _ _⟩
def vX(a:Option Addr)(rs:List (ByteArray×ByteArray×Bool))(c:Nat)(aB:Int)(w:World)(h:Chs w a rs)(h0:0<=aB)(h1:aB<=1048576)(hl:rs.length<=maxLen)(hs:∀s∈rs,s.1.size<=maxLen/\s.2.1.size<=maxLen):Calls prog 19 #[.slice a rs.length c,.int .i64 aB] w λe w'=>e=.returned (.int .i64 (LO (rs.length::rs.flatMap SU) aB))/\Below w.heap.size w w':=by
 unfold maxLen at hl
 by_cases hn:aB-(rs.length:Int)<0
 ·have HR:=LE (UF (rs.flatMap SU) hn)
  go_enter func19,ntmps19;go_wp2;go_ret;exact⟨MU HR.o.symm,AB _ _⟩
 have HR:=LE (TI (rs.flatMap SU) hn)
 obtain⟨R,HE⟩:∃R,Hid (R=LO (rs.length::rs.flatMap SU) aB):=⟨_,LE rfl⟩;rw[<-HE.o];go_enter func19,ntmps19;go_wp2;go_loopw [1,5] (λx i wr=>∃(k:Nat) (y:Int),k<=rs.length/\i=.int .i64 k/\x=.int .i64 y/\0<=y/\y<=1048576/\Hid (LO ((rs.drop k).flatMap SU) y=R)/\Below w.heap.size w wr) (λ_ i _=>rs.length-(intOf i).toNat)
 case atStart=>exact⟨0,_,AH _,rfl,rfl,by omega,by omega,by show _=_;rw[HE.o,HR.o,DY],AB _ _⟩
 case round =>
  obtain⟨k,y,hk,rfl,rfl,aC,aH,HZ,aA⟩:=hrel
  by_cases aF:k<rs.length
  ·obtain⟨b,o,s0,s1,g2,rfl,aI,aJ,aK,HS⟩:=(h.I aA).at aF
   obtain⟨q0,q1⟩:s0.size<=9223372036854775807/\s1.size<=9223372036854775807:=by
    have:=hs (s0,s1,g2) (by rw[HS.o];simp[List.getD,aF]);unfold maxLen at this;exact this
   obtain⟨y',HY⟩:∃y',Hid (y'=LO [s0.size,s1.size] y):=⟨_,LE rfl⟩;have aE:=RV [s0.size,s1.size] y aC;rw[<-HY.o]at aE
   have HD:Hid (LO ((rs.drop k).flatMap SU) y=LO ([s0.size,s1.size]++(rs.drop (k+1)).flatMap SU) y):=by
    show _=_;rw[RT rs k (empty,empty,false) aF,<-HS.o];rfl
   by_cases hy:y'<0
   ·have aG:y'=-1:=by omega
    have HN:=LE (VY [s0.size,s1.size] ((rs.drop (k+1)).flatMap SU) y aC (by rw[<-HY.o];exact hy));clear aE;subst aG;go_wp2_with (go_at_call 56;refine(oL s0 s1 g2 y _ aC aH q0 q1).i ?_;rw[<-HY.o];rintro e w2 ⟨rfl,aD⟩);go_ret;refine⟨MU ?_,aA.j (aD.i aA.size)⟩;rw[<-HZ.o,HD.o,HN.o]
   have aG:0<=y':=by omega
   have aL:y'<=1048576:=by omega
   have HN:=LE (UD [s0.size,s1.size] ((rs.drop (k+1)).flatMap SU) y aC (by rw[<-HY.o];exact aG));clear aE;go_wp2_with (go_at_call 56;refine(oL s0 s1 g2 y _ aC aH q0 q1).i ?_;rw[<-HY.o];rintro e w2 ⟨rfl,aD⟩);go_roundw
   case rel=>exact⟨k+1,_,by omega,by go_num,rfl,by omega,by omega,by show _=_;rw[<-HZ.o,HD.o,HN.o,<-HY.o],aA.j (aD.i aA.size)⟩
   case measure=>simp[intOf];omega
  go_wp2
  go_ret;refine⟨MU ?_,aA⟩;rw[<-HZ.o,CX (by omega)];rfl
def sB(s0:ByteArray)(s1:ByteArray)(g2:Bool)(w:World):Calls prog 71 #[.agg #[.string s0,.string s1,.bool g2]] w λe w'=>e=.returned (.agg #[.string s0,.string s1,.bool g2])/\Below w.heap.size w w':=by
 go_enter func71,ntmps71;go_wp2;exact AJ (v:=.agg #[.string s0,.string s1,.bool g2]) (by simp[results,results71,go_sem]) rfl ⟨rfl,((LG _ _).alloc (by simp) _).alloc (by simp;omega) _⟩
def Fa(a:Option Addr)(rs:List (ByteArray×ByteArray×Bool))(c:Nat)(w:World)(h:Chs w a rs)(hl:rs.length<=1048576):Calls prog 28 #[.slice a rs.length c] w λe w'=>∃g,e=.returned (.slice (some ⟨g,0,none⟩) rs.length rs.length)/\w.heap.size<=g/\Row w' g (LZ rs)/\Below w.heap.size w w':=by
 go_enter func28,ntmps28;go_wp2_with (at_make;refine YO rfl _ _ 56 rfl 127 _ 3 _ underlying56 rQ rs.length rfl rfl (by omega) (by omega) ?_;intro wx aA aJ aS;rw[pC]at aA);have aK:Row wx w.heap.size (UC rs 0):=by simpa[UC,xG] using aA
 clear aA;go_loopw [4] (λi wr=>∃k:Nat,k<=rs.length/\i=.int .i64 k/\Row wr w.heap.size (UC rs k)/\Below w.heap.size w wr) (λi _=>rs.length-(intOf i).toNat)
 case atStart=>exact⟨0,AH _,rfl,aK,aJ⟩
 case round =>
  obtain⟨k,hk,rfl,aA,aB⟩:=hrel
  by_cases aG:k<rs.length
  ·obtain⟨b,o,s0,s1,g2,rfl,aM,aN,aO,HS⟩:=(h.I aB).at aG
   have HB:=LE aB;have HR:=LE aA;clear aA aB;go_wp2_with (go_at_call 71;refine(sB s0 s1 g2 _).i ?_;rintro e w2 ⟨rfl,aE⟩;have aC:=HR.o.I aE;have aF:=Ix rs k hk;obtain⟨u0,aT⟩:∃u,w2.cell? ⟨w.heap.size,k*3,none⟩=some u:=⟨_,aC.cell (k*3) _ (AM (by omega))⟩;obtain⟨u1,aU⟩:∃u,w2.cell? ⟨w.heap.size,k*3+1,none⟩=some u:=⟨_,aC.cell (k*3+1) _ (AM (by omega))⟩;obtain⟨u2,aV⟩:∃u,w2.cell? ⟨w.heap.size,k*3+2,none⟩=some u:=⟨_,aC.cell (k*3+2) _ (AM (by omega))⟩;have aP:=aC.froz (k*3) (by omega);have aQ:=aC.froz (k*3+1) (by omega);have aR:=aC.froz (k*3+2) (by omega);have aI:=LE aC;have aD:=LE aF;clear aC aF);have aH:=((aI.o.set (k*3) (by rw[aD.o];omega) (.string s0)).set (k*3+1) (by rw[DP,aD.o];omega) (.string s1)).set (k*3+2) (by rw[DP,DP,aD.o];omega) (.bool g2)
   have aL:(((UC rs k).set (k*3) (.string s0)).set (k*3+1) (.string s1)).set (k*3+2) (.bool g2)=UC rs (k+1):=by
    have e:=HS.o;rw[show s0=(rs.getD k (empty,empty,false)).1 by rw[<-e],show s1=(rs.getD k (empty,empty,false)).2.1 by rw[<-e],show g2=(rs.getD k (empty,empty,false)).2.2 by rw[<-e]];exact Bh rs k aG
   rw[aL]at aH;go_roundw
   case rel=>exact⟨k+1,by omega,by go_num,aH,(((HB.o.j (aE.i HB.o.size)).setCell (AA _) _).setCell (AA _) _).setCell (AA _) _⟩
   case measure=>simp[intOf];omega
  go_wp2
  go_ret;exact⟨w.heap.size,rfl,AA _,by rw[<-s8 rs k (by omega)];exact aA,aB⟩
def Dg(s0:ByteArray)(s1:ByteArray)(g2:Bool)(w:World):Calls prog 92 #[.agg #[.string s0,.string s1,.bool g2],.agg #[.string s0,.string s1,.bool g2]] w λe w'=>e=.returned (.bool true)/\Below w.heap.size w w':=by
 go_enter func92,ntmps92;go_wp2;go_ret;exact⟨rfl,(LG _ _).alloc (by simp) _⟩
def uQ(a b:Option Addr)(rs:List (ByteArray×ByteArray×Bool))(c c':Nat)(w:World)(h:Chs w a rs)(h':Chs w b rs)(hl:rs.length<=1048576):Calls prog 42 #[.slice a rs.length c,.slice b rs.length c'] w λe w'=>e=.returned (.bool true)/\Below w.heap.size w w':=by
 go_enter func42,ntmps42;go_wp2;go_loopw [5] (λi wr=>∃k:Nat,k<=rs.length/\i=.int .i64 k/\Below w.heap.size w wr) (λi _=>rs.length-(intOf i).toNat)
 case atStart=>exact⟨0,AH _,rfl,AB _ _⟩
 case round =>
  obtain⟨k,hk,rfl,aA⟩:=hrel
  by_cases aL:k<rs.length
  ·obtain⟨b1,o1,s0,s1,g2,rfl,aC,aH,aI,HS⟩:=(h.I aA).at aL
   obtain⟨b2,o2,aN,aO,aM,rfl,aD,aJ,aK,aG⟩:=(h'.I aA).at aL;obtain⟨rfl,rfl,rfl⟩:s0=aN/\s1=aO/\g2=aM:=by have:=HS.o.j aG.o.symm;simpa using this
   have aQ:(k:Int)<(rs.length:Int):=by omega
   have aP:(0:Int)<=(k:Int):=by omega
   have aE:b1<wr.heap.size:=by have:=BE wr _ aC;simpa using this
   have aF:b2<wr.heap.size:=by have:=BE wr _ aD;simpa using this
   have HQ:Hid (wr.cell? ⟨b1,o1+k*3,none⟩=some (.string s0)/\wr.cell? ⟨b1,o1+k*3+1,none⟩=some (.string s1)/\wr.cell? ⟨b1,o1+k*3+2,none⟩=some (.bool g2)/\wr.cell? ⟨b2,o2+k*3,none⟩=some (.string s0)/\wr.cell? ⟨b2,o2+k*3+1,none⟩=some (.string s1)/\wr.cell? ⟨b2,o2+k*3+2,none⟩=some (.bool g2)):=⟨aC,aH,aI,aD,aJ,aK⟩;clear HS aG aC aH aI aD aJ aK;go_wp2_with fail
   go_region_held3 (λw'=>w'.cell? ⟨b1,o1+k*3,none⟩=some (.string s0)/\w'.cell? ⟨b1,o1+k*3+1,none⟩=some (.string s1)/\w'.cell? ⟨b1,o1+k*3+2,none⟩=some (.bool g2)/\w'.cell? ⟨b2,o2+k*3,none⟩=some (.string s0)/\w'.cell? ⟨b2,o2+k*3+1,none⟩=some (.string s1)/\w'.cell? ⟨b2,o2+k*3+2,none⟩=some (.bool g2))
    (first|assumption|exact HQ.o|exact⟨(aB.cell (p:=⟨b1,_,none⟩) aE).j HQ.o.1,(aB.cell (p:=⟨b1,_,none⟩) aE).j HQ.o.2.1,(aB.cell (p:=⟨b1,_,none⟩) aE).j HQ.o.2.2.1,(aB.cell (p:=⟨b2,_,none⟩) aF).j HQ.o.2.2.2.1,(aB.cell (p:=⟨b2,_,none⟩) aF).j HQ.o.2.2.2.2.1,(aB.cell (p:=⟨b2,_,none⟩) aF).j HQ.o.2.2.2.2.2⟩)
    (first|(go_at_call 92;refine(Dg s0 s1 g2 _).i ?_;rintro e w2 ⟨rfl,aB⟩))
   go_wp2;go_roundw
   case rel=>exact⟨k+1,by omega,by go_num,aA.drew.j (aB.i aA.size)⟩
   case measure=>simp[intOf];omega
  go_wp2
  go_ret;exact⟨rfl,aA⟩
def ke{w:World}{g:Nat}{cs:List Value}(h:Row w g cs)(i:Nat)(hi:i<cs.length):(∃u,w.cell? ⟨g,i,none⟩=some u)/\w.frozen? ⟨g,i,none⟩=false:=⟨⟨_,h.cell i _ (AM hi)⟩,h.froz i hi⟩
def lq(m:Nat):ByteArray×ByteArray×Bool:=(NJ m,NJ (m+1),decide ((m+2) % 3=0))
def VJ(k n:Nat):List (ByteArray×ByteArray×Bool):=(List.range n).map λi=>lq (k+3*i)
def n6(k n:Nat):(VJ k n).length=n:=by simp[VJ]
def Gg(k n:Nat):VJ k (n+1)=VJ k n++[lq (k+3*n)]:=by simp[VJ,DR]
def UW(k i:Nat)(rs:List (ByteArray×ByteArray×Bool)):List Value:=LZ (VJ k i++rs.drop i)
def uH(k i:Nat)(rs:List (ByteArray×ByteArray×Bool))(h:i<=rs.length):(UW k i rs).length=rs.length*3:=by simp[UW,cw,n6];omega
def zF(k i:Nat)(rs:List (ByteArray×ByteArray×Bool))(h:i<rs.length):(((UW k i rs).set (i*3) (.string (NJ (k+3*i)))).set (i*3+1) (.string (NJ (k+3*i+1)))).set (i*3+2) (.bool (decide ((k+3*i+2) % 3=0)))=UW k (i+1) rs:=by
 have el:(LZ (VJ k i)).length=i*3:=by rw[cw,n6]
 unfold UW;rw[Gg,RT rs i (empty,empty,false) h,YI,YI,YI,BV _ _ (by omega),BV _ _ (by omega),BV _ _ (by omega),el];simp[LZ,lq]
def Bv(a:Option Addr)(rs:List (ByteArray×ByteArray×Bool))(c k:Nat)(w:World)(h:OwnS w a (LZ rs))(hk:0<k)(hl:k+3*rs.length<=100000000):Calls prog 48 #[.slice a rs.length c,.int .i64 (k:Int)] w λe w'=>e=.returned (.int .i64 ((k+3*rs.length:Nat):Int))/\w.grownBy w' (blk a rs.length)/\OwnS w' a (LZ (VJ k rs.length)):=by
 by_cases aB:rs=[]
 ·skip
  subst aB;go_enter func48,ntmps48;go_wp2;refine GE 1 ?_;rw[IR];go_wp2;go_ret;exact⟨rfl,VT _ _,.inl rfl⟩
 obtain⟨g,rfl,aA⟩:=h.resolve_left (λe=>aB (by have:=BT List.length e;rw[cw,AR]at this;exact AC (by omega)))
 rw[MI g 0 rs.length (λe=>aB (AC e))];have aJ:Row w g (UW k 0 rs):=by simpa[UW,VJ] using aA
 clear aA aB;go_enter func48,ntmps48;go_wp2;go_loopw [1,5] (λx i wr=>∃j m:Nat,j<=rs.length/\i=.int .i64 (j:Int)/\x=.int .i64 (m:Int)/\Hid (m=k+3*j)/\Row wr g (UW k j rs)/\w.grownBy wr (some g)) (λ_ i _=>rs.length-(intOf i).toNat)
 case atStart=>exact⟨0,k,AH _,rfl,rfl,LE rfl,aJ,VT _ _⟩
 case round =>
  clear aJ;obtain⟨j,m,hj,rfl,rfl,HM,aA,aH⟩:=hrel;have HR:=LE aA;have HG:=LE aH;clear aH aA
  by_cases aQ:j<rs.length
  ·have HL:=LE (uH k j rs hj)
   have aV:(m:Int)<=99999997:=by have:=HM.o;omega
   have aR:(0:Int)<(m:Int):=by have:=HM.o;omega
   go_wp2_with (first|(have _g:=aC;go_at_call 96;refine(bm ((m:Int)+1) (m+1) (by omega) _ (by omega) (by omega)).i ?_;rintro e w3 ⟨rfl,aF⟩;have aD:=LE ((aC.o.set (j*3) (by rw[HL.o];omega) (.string (NJ m))).I aF);have aL:=ke aD.o (j*3+1) (by rw[DP,HL.o];omega);have aM:=ke aD.o (j*3+2) (by rw[DP,HL.o];omega);obtain⟨⟨u3,aL⟩,aT⟩:=aL;obtain⟨⟨u4,aM⟩,aU⟩:=aM;have aO:=LE (PY (MC aN.o _ _) (TN _ aF));clear aF)|(go_at_call 96;refine(YU m _ (by omega) (by omega)).i ?_;rintro e w2 ⟨rfl,aE⟩;have aC:=LE (HR.o.I aE);have aK:=ke aC.o (j*3) (by rw[HL.o];omega);obtain⟨⟨u2,aK⟩,aS⟩:=aK;have aN:=LE (PY HG.o (TN _ aE));clear aE))
   have aP:(((m:Int)+1+1) % 3 == 0)=decide ((m+2) % 3=0):=by rw[IA];simp;omega
   have aG:(((UW k j rs).set (j*3) (.string (NJ m))).set (j*3+1) (.string (NJ (m+1)))).set (j*3+2) (.bool (decide ((m+2) % 3=0)))=UW k (j+1) rs:=by
    rw[HM.o];exact zF k j rs aQ
   rw[aP];refine⟨⟨j+1,m+3,by omega,by go_num,by go_num,by show _=_;have:=HM.o;omega,?_,MC (MC aO.o _ _) _ _⟩,by simp[intOf];omega⟩;rw[<-aG];exact(aD.o.set (j*3+1) (by rw[DP,HL.o];omega) _).set (j*3+2) (by rw[DP,DP,HL.o];omega) _
  have aI:Hid (j=rs.length):=by show _=_;omega
  go_wp2;go_ret;refine⟨MU (by rw[HM.o,aI.o]),HG.o,.inr ⟨g,rfl,?_⟩⟩;have:=HR.o;rw[aI.o]at this;simpa[UW] using this
end
section
open Tryz
open Go.RowKit Go.ChangeShapes Go.WideShapes Go.Deep
variable {v:Value}
section
variable {H:Type} {enc:TypeId×Value->H} {P:Program} {w:World} {base:Nat} {spare:Nat->Bool} {XbJ:Bool}
def ZX{a:Addr}{i:Nat}(h:w.cell? (a.add i)=some v)(h0:∃u,w.cell? (a.add 0)=some u):∃b o,a=⟨b,o,none⟩:=by
 obtain⟨b,o,s⟩:=a;obtain⟨u,hu⟩:=h0;have hs:s=none:=by simpa[Addr.add] using World.cell?_spot hu
 exact⟨b,o,by rw[hs]⟩
def UB(b o i:Nat):(⟨b,o,none⟩:Addr).add i=⟨b,o+i,none⟩:=by unfold Addr.add;split<;>simp_all
def zu{t e:TypeId}{aD:Nat}{x:DataW H×List MemPlace}(ht:P.underlying t=some (.slice e))(he:P.underlying e=some .string)(hc:P.cellsOf e=1)
  (h:DataW.trod enc P w base spare XbJ aD t [v]=some x):∃a ss c,v=.slice a ss.length c/\Strs w a ss/\ss.length<=maxLen/\∀s∈ss,s.size<=maxLen:=by
 rcases open_strings ht he hc h with ⟨aC,_⟩|⟨a,aB,cap,ss,aC,_,hl,hm,hz,_,aA,hw⟩
 ·simp at aC
  exact⟨none,[],0,by simpa using aC,.inl rfl,by simp,by simp⟩
 simp at aC
 have aF:aB<=ss.length:=by rw[hz];split<;>omega
 have e1:(ss.take aB).length=aB:=by simp;omega
 refine⟨some a,ss.take aB,cap,by rw[e1];exact aC,?_,by omega,λs hs=>hw s (DQ hs)⟩
 by_cases h0:aB=0
 ·exact .inl (by subst h0;simp)
 obtain⟨b,o,rfl⟩:=ZX (aA 0 (by omega)) ⟨_,aA 0 (by omega)⟩
 have hb:=BE w _ (aA 0 (by omega));rw[UB]at hb;refine .inr ⟨b,o,rfl,hb,λi hi=>?_⟩;have:=aA i (by omega);rw[UB]at this;rw[this];have aE:i<aB:=by omega
 simp[List.getD,EM aE]
def Dk{t e:TypeId}{f0 f1:Field}{aE:Nat}{x:DataW H×List MemPlace}(ht:P.underlying t=some (.slice e))(he:P.underlying e=some (.struct #[f0,f1]))
  (ce:P.cellsOf e=2)(o0:f0.offset=0)(o1:f1.offset=1)(c0:P.cellsOf f0.type=1)(c1:P.cellsOf f1.type=1)(t0:P.underlying f0.type=some (.int .i64))(t1:P.underlying f1.type=some .string)
  (h:DataW.trod enc P w base spare XbJ aE t [v]=some x):∃a ws c,v=.slice a ws.length c/\Wrs w a ws/\ws.length<=maxLen/\(∀s∈ws,s.2.size<=maxLen)/\∀s∈ws,(Lit.int .i64 s.1).wf=true:=by
 rcases open_slice_pairs ht he ce o0 o1 c0 c1 h with ⟨aC,_⟩|⟨a,aA,cap,m,n,V0,V1,D0,D1,P0,P1,aC,_,hl,hm,hz,_,aB⟩
 ·simp at aC
  exact⟨none,[],0,by simpa using aC,.inl rfl,by simp,by simp,by simp⟩
 simp at aC
 have aG:aA<=m:=by rw[hz];split<;>omega
 have aD:∀i,i<aA->∃q:Int×ByteArray,w.cell? (a.add (i*2))=some (.int .i64 q.1)/\w.cell? (a.add (i*2+1))=some (.string q.2)/\q.2.size<=maxLen/\(Lit.int .i64 q.1).wf=true:=by
  intro i hi;obtain⟨h1,h2,h3,h4⟩:=aB i (by omega);obtain⟨y,ey,_,wy⟩:=DataW.trod_int t0 h3;obtain⟨s,es,_,ws⟩:=IH t1 h4;simp at ey es;rw[ey]at h1;rw[es]at h2;exact⟨(y,s),h1,h2,ws,wy⟩
 obtain⟨q,hq⟩:=choose_lt aD;have e1:((List.range aA).map q).length=aA:=by simp
 refine⟨some a,(List.range aA).map q,cap,by rw[e1];exact aC,?_,by omega,λs hs=>?_,λs hs=>?_⟩
 ·by_cases h0:aA=0
  ·exact .inl (by subst h0;simp)
  have aF:=(hq 0 (by omega)).1
  obtain⟨b,o,rfl⟩:=ZX aF ⟨_,aF⟩;have hb:=BE w _ aF;rw[UB]at hb;refine .inr ⟨b,o,rfl,hb,λi hi=>?_⟩;rw[e1]at hi;obtain⟨h1,h2,_⟩:=hq i hi;rw[UB]at h1 h2;simp[List.getD,hi,h1,<-IE]at h2⊢;exact h2
 ·obtain⟨i,hi,rfl⟩:=CE.1 hs
  exact(hq i (by simpa using hi)).2.2.1
 obtain⟨i,hi,rfl⟩:=CE.1 hs
 exact(hq i (by simpa using hi)).2.2.2
end
end
section
open Tryz
open Go.RowKit Go.ChangeShapes Go.WideShapes Go.Deep
section
variable {H:Type} {enc:TypeId×Value->H} {P:Program} {w:World} {base:Nat} {spare:Nat->Bool} {XbJ:Bool}
def uY{t e:TypeId}{f0 f1:Field}{aE:Nat}{v:Value}{x:DataW H×List MemPlace}(ht:P.underlying t=some (.slice e))(he:P.underlying e=some (.struct #[f0,f1]))
  (ce:P.cellsOf e=2)(o0:f0.offset=0)(o1:f1.offset=1)(c0:P.cellsOf f0.type=1)(c1:P.cellsOf f1.type=1)(t0:P.underlying f0.type=some .string)(t1:P.underlying f1.type=some .string)
  (h:DataW.trod enc P w base spare XbJ aE t [v]=some x):∃a rs c,v=.slice a rs.length c/\Prs w a rs/\rs.length<=maxLen/\(∀s∈rs,s.1.size<=maxLen/\s.2.size<=maxLen):=by
 rcases open_slice ht h with ⟨aC,_⟩|⟨a,aB,cap,m,n,D,Pl,aC,hb,hl,hm,aK,_,hx⟩
 ·simp at aC
  exact⟨none,[],0,by simpa using aC,.inl rfl,by simp,by simp⟩
 simp at aC
 have aO:aB<=m:=by rw[aK];split<;>omega
 have aD:∀i,i<aB->∃q:ByteArray×ByteArray,w.cell? (a.add (i*2))=some (.string q.1)/\w.cell? (a.add (i*2+1))=some (.string q.2)/\q.1.size<=maxLen/\q.2.size<=maxLen:=by
  intro i hi;obtain⟨aJ,h1,h2⟩:=hx i (by omega);rw[ce]at h1;obtain⟨_,aF,aA⟩:=KP h1;obtain⟨xs,k,hk,aP,_,aL,hf⟩:=FL he h2
  match xs,aL,aJ,aF with
  | [y0,y1],_,[v0,v1],_ =>
   have g0:=hf 0 f0 rfl;have g1:=hf 1 f1 rfl;simp[o0,o1,c0,c1]at g0 g1;have e0:=aA 0 (by omega);have e1:=aA 1 (by omega);rw[add_add]at e0 e1;obtain⟨z0,aH,_,aM⟩:=IH t0 g0;simp at aH;subst aH;obtain⟨z1,aI,_,aN⟩:=IH t1 g1;simp at aI;subst aI;exact⟨(z0,z1),by simpa using e0,by simpa using e1,aM,aN⟩
 obtain⟨q,hq⟩:=choose_lt aD;have e1:((List.range aB).map q).length=aB:=by simp
 refine⟨some a,(List.range aB).map q,cap,by rw[e1];exact aC,?_,by omega,λs hs=>?_⟩
 ·by_cases h0:aB=0
  ·exact .inl (by subst h0;simp)
  have aG:=(hq 0 (by omega)).1
  obtain⟨b,o,rfl⟩:=ZX aG ⟨_,aG⟩;have hb:=BE w _ aG;rw[UB]at hb;refine .inr ⟨b,o,rfl,hb,λi hi=>?_⟩;rw[e1]at hi;obtain⟨h0,h1,_⟩:=hq i hi;rw[UB]at h0 h1;have eg:((List.range aB).map q).getD i (empty,empty)=q i:=by simp[List.getD,hi]
  rw[eg];exact⟨h0,by rw[IE];exact h1⟩
 obtain⟨i,hi,rfl⟩:=CE.1 hs
 exact(hq i (by simpa using hi)).2.2
end
end
section
open Tryz
open Go.RowKit Go.ChangeShapes Go.WideShapes Go.Deep Go.Joins
variable {n:Nat}
section
variable {H:Type} {enc:TypeId×Value->H} {w:World} {base:Nat} {spare:Nat->Bool} {XbJ:Bool}
def In{P:Program}{t:TypeId}{f0:Field}{cs:List Value}{x:DataW H×List MemPlace}(hs:P.underlying t=some (.struct #[f0]))(o0:f0.offset=0)(k0:P.cellsOf f0.type=1)(hC:P.cellsOf t=1)(h:DataW.trod enc P w base spare XbJ n t cs=some x):∃(c0:Value) (y0:DataW H×List MemPlace) (m:Nat),cs=[c0]/\DataW.trod enc P w base spare XbJ m f0.type [c0]=some y0:=by
 obtain⟨xs,m,_,_,hl,aA,hf⟩:=FL hs h;rw[hC]at hl
 match cs,hl,xs,aA with
 | [c0],_,[y0],_ =>
  have g0:=hf 0 f0 rfl;rw[o0,k0]at g0;exact⟨c0,y0,m,rfl,g0⟩
def Am:prog.cellsOf 199=2:=by kernel_rfl
def rq{cs:List Value}{x:DataW H×List MemPlace}(h:DataW.trod enc prog w base spare XbJ n 30 cs=some x):∃a rs c,cs=[.slice a rs.length c]/\Prs w a rs/\rs.length<=maxLen/\(∀s∈rs,s.1.size<=maxLen/\s.2.size<=maxLen):=by
 obtain⟨c0,y0,m,rfl,g0⟩:=In underlying30 rfl (by kernel_rfl) (by kernel_rfl) h;obtain⟨a,rs,c,rfl,h1,h2,h3⟩:=uY underlying28 underlying199 Am rfl rfl (by kernel_rfl) (by kernel_rfl) underlying9 underlying9 g0;exact⟨a,rs,c,rfl,h1,h2,h3⟩
def TV{v:Value}{x:DataW H×List MemPlace}(h:DataW.trod enc prog w base spare XbJ n 3 [v]=some x):∃a,v=.int .i64 a:=by
 obtain⟨a,e,_,_⟩:=DataW.trod_int underlying3 h;simp at e;exact⟨a,e⟩
end
end
section
open Tryz
open Go.RowKit Go.ChangeShapes Go.WideShapes Go.Deep Go.Joins
variable {cs:List Value}{n:Nat}
section
variable {H:Type} {enc:TypeId×Value->H} {w:World} {base:Nat} {spare:Nat->Bool} {XbJ:Bool}
def uT{P:Program}{t:TypeId}{f0 f1 f2 f3:Field}{x:DataW H×List MemPlace}(hs:P.underlying t=some (.struct #[f0,f1,f2,f3]))(o0:f0.offset=0)(o1:f1.offset=1)(o2:f2.offset=2)(o3:f3.offset=3)(k0:P.cellsOf f0.type=1)(k1:P.cellsOf f1.type=1)(k2:P.cellsOf f2.type=1)(k3:P.cellsOf f3.type=1)(hC:P.cellsOf t=4)(h:DataW.trod enc P w base spare XbJ n t cs=some x):∃(c0 c1 c2 c3:Value) (y0 y1 y2 y3:DataW H×List MemPlace) (m:Nat),cs=[c0,c1,c2,c3]/\DataW.trod enc P w base spare XbJ m f0.type [c0]=some y0/\DataW.trod enc P w base spare XbJ m f1.type [c1]=some y1/\DataW.trod enc P w base spare XbJ m f2.type [c2]=some y2/\DataW.trod enc P w base spare XbJ m f3.type [c3]=some y3:=by
 obtain⟨xs,m,_,_,hl,aA,hf⟩:=FL hs h;rw[hC]at hl
 match cs,hl,xs,aA with
 | [c0,c1,c2,c3],_,[y0,y1,y2,y3],_ =>
  have g0:=hf 0 f0 rfl;rw[o0,k0]at g0;have g1:=hf 1 f1 rfl;rw[o1,k1]at g1;have g2:=hf 2 f2 rfl;rw[o2,k2]at g2;have g3:=hf 3 f3 rfl;rw[o3,k3]at g3;exact⟨c0,c1,c2,c3,y0,y1,y2,y3,m,rfl,g0,g1,g2,g3⟩
def Bi{P:Program}{t:TypeId}{f0 f1 f2 f3 f4 f5 f6:Field}{x:DataW H×List MemPlace}(hs:P.underlying t=some (.struct #[f0,f1,f2,f3,f4,f5,f6]))(o0:f0.offset=0)(o1:f1.offset=1)(o2:f2.offset=2)(o3:f3.offset=3)(o4:f4.offset=7)(o5:f5.offset=8)(o6:f6.offset=9)(k0:P.cellsOf f0.type=1)(k1:P.cellsOf f1.type=1)(k2:P.cellsOf f2.type=1)(k3:P.cellsOf f3.type=4)(k4:P.cellsOf f4.type=1)(k5:P.cellsOf f5.type=1)(k6:P.cellsOf f6.type=1)(hC:P.cellsOf t=10)(h:DataW.trod enc P w base spare XbJ n t cs=some x):∃(c0 c1 c2 c3 c4 c5 c6 c7 c8 c9:Value) (y0 y1 y2 y3 y4 y5 y6:DataW H×List MemPlace) (m:Nat),cs=[c0,c1,c2,c3,c4,c5,c6,c7,c8,c9]/\DataW.trod enc P w base spare XbJ m f0.type [c0]=some y0/\DataW.trod enc P w base spare XbJ m f1.type [c1]=some y1/\DataW.trod enc P w base spare XbJ m f2.type [c2]=some y2/\DataW.trod enc P w base spare XbJ m f3.type [c3,c4,c5,c6]=some y3/\DataW.trod enc P w base spare XbJ m f4.type [c7]=some y4/\DataW.trod enc P w base spare XbJ m f5.type [c8]=some y5/\DataW.trod enc P w base spare XbJ m f6.type [c9]=some y6:=by
 obtain⟨xs,m,_,_,hl,aA,hf⟩:=FL hs h;rw[hC]at hl
 match cs,hl,xs,aA with
 | [c0,c1,c2,c3,c4,c5,c6,c7,c8,c9],_,[y0,y1,y2,y3,y4,y5,y6],_ =>
  have g0:=hf 0 f0 rfl;rw[o0,k0]at g0;have g1:=hf 1 f1 rfl;rw[o1,k1]at g1;have g2:=hf 2 f2 rfl;rw[o2,k2]at g2;have g3:=hf 3 f3 rfl;rw[o3,k3]at g3;have g4:=hf 4 f4 rfl;rw[o4,k4]at g4;have g5:=hf 5 f5 rfl;rw[o5,k5]at g5;have g6:=hf 6 f6 rfl;rw[o6,k6]at g6;exact⟨c0,c1,c2,c3,c4,c5,c6,c7,c8,c9,y0,y1,y2,y3,y4,y5,y6,m,rfl,g0,g1,g2,g3,g4,g5,g6⟩
def tT{x:DataW H×List MemPlace}(h:DataW.trod enc prog w base spare XbJ n 27 cs=some x):∃T Hh F R,cs=[.int .i64 T,.int .i64 Hh,.int .i64 F,.int .i64 R]:=by
 obtain⟨c0,c1,c2,c3,y0,y1,y2,y3,m,rfl,g0,g1,g2,g3⟩:=uT underlying27 rfl rfl rfl rfl (by kernel_rfl) (by kernel_rfl) (by kernel_rfl) (by kernel_rfl) (by kernel_rfl) h;obtain⟨a0,rfl⟩:=TV g0;obtain⟨a1,rfl⟩:=TV g1;obtain⟨a2,rfl⟩:=TV g2;obtain⟨a3,rfl⟩:=TV g3;exact⟨a0,a1,a2,a3,rfl⟩
def Gw{x:DataW H×List MemPlace}(h:DataW.trod enc prog w base spare XbJ n 32 cs=some x):∃W S L T Hh F R U O a rs c,cs=(sJ W S L T Hh F R U O (.slice a rs.length c))/\Prs w a rs/\rs.length<=maxLen/\(∀s∈rs,s.1.size<=maxLen/\s.2.size<=maxLen):=by
 obtain⟨c0,c1,c2,c3,c4,c5,c6,c7,c8,c9,y0,y1,y2,y3,y4,y5,y6,m,rfl,g0,g1,g2,g3,g4,g5,g6⟩:=Bi underlying32 rfl rfl rfl rfl rfl rfl rfl (by kernel_rfl) (by kernel_rfl) (by kernel_rfl) (by kernel_rfl) (by kernel_rfl) (by kernel_rfl) (by kernel_rfl) (by kernel_rfl) h;obtain⟨a0,rfl⟩:=TV g0;obtain⟨a1,rfl⟩:=TV g1;obtain⟨a2,rfl⟩:=TV g2;obtain⟨T,Hh,F,R,e3⟩:=tT g3;obtain⟨a4,rfl⟩:=TV g4;obtain⟨a5,rfl⟩:=TV g5;obtain⟨a,rs,c,e6,h1,h2,h3⟩:=rq g6;simp only[KW,and_true]at e3 e6;obtain⟨rfl,rfl,rfl,rfl⟩:=e3;subst e6;exact⟨a0,a1,a2,T,Hh,F,R,a4,a5,a,rs,c,rfl,h1,h2,h3⟩
end
end
section
open Tryz
open Go.RowKit Go.ChangeShapes Go.WideShapes Go.Deep
section
variable {H:Type} {enc:TypeId×Value->H} {P:Program} {w:World} {base:Nat} {spare:Nat->Bool} {XbJ:Bool}
def Hn{t e:TypeId}{f0 f1 f2:Field}{aE:Nat}{v:Value}{x:DataW H×List MemPlace}(ht:P.underlying t=some (.slice e))(he:P.underlying e=some (.struct #[f0,f1,f2]))
  (ce:P.cellsOf e=3)(o0:f0.offset=0)(o1:f1.offset=1)(o2:f2.offset=2)(c0:P.cellsOf f0.type=1)(c1:P.cellsOf f1.type=1)(c2:P.cellsOf f2.type=1)(t0:P.underlying f0.type=some .string)(t1:P.underlying f1.type=some .string)(t2:P.underlying f2.type=some .bool)
  (h:DataW.trod enc P w base spare XbJ aE t [v]=some x):∃a rs c,v=.slice a rs.length c/\Chs w a rs/\rs.length<=maxLen/\(∀s∈rs,s.1.size<=maxLen/\s.2.1.size<=maxLen):=by
 rcases open_slice ht h with ⟨aC,_⟩|⟨a,aB,cap,m,n,D,Pl,aC,hb,hl,hm,aL,_,hx⟩
 ·simp at aC
  exact⟨none,[],0,by simpa using aC,.inl rfl,by simp,by simp⟩
 simp at aC
 have aP:aB<=m:=by rw[aL];split<;>omega
 have aD:∀i,i<aB->∃q:ByteArray×ByteArray×Bool,w.cell? (a.add (i*3))=some (.string q.1)/\w.cell? (a.add (i*3+1))=some (.string q.2.1)/\w.cell? (a.add (i*3+2))=some (.bool q.2.2)/\q.1.size<=maxLen/\q.2.1.size<=maxLen:=by
  intro i hi;obtain⟨aK,h1,h2⟩:=hx i (by omega);rw[ce]at h1;obtain⟨_,aF,aA⟩:=KP h1;obtain⟨xs,k,hk,aQ,_,aM,hf⟩:=FL he h2
  match xs,aM,aK,aF with
  | [y0,y1,y2],_,[v0,v1,v2],_ =>
   have g0:=hf 0 f0 rfl;have g1:=hf 1 f1 rfl;have g2:=hf 2 f2 rfl;simp[o0,o1,o2,c0,c1,c2]at g0 g1 g2;have e0:=aA 0 (by omega);have e1:=aA 1 (by omega);have e2:=aA 2 (by omega);rw[add_add]at e0 e1 e2;obtain⟨z0,aH,_,aN⟩:=IH t0 g0;simp at aH;subst aH;obtain⟨z1,aI,_,aO⟩:=IH t1 g1;simp at aI;subst aI;obtain⟨z2,aJ,_⟩:=DataW.trod_bool t2 g2;simp at aJ;subst aJ;exact⟨(z0,z1,z2),by simpa using e0,by simpa using e1,by simpa using e2,aN,aO⟩
 obtain⟨q,hq⟩:=choose_lt aD;have e1:((List.range aB).map q).length=aB:=by simp
 refine⟨some a,(List.range aB).map q,cap,by rw[e1];exact aC,?_,by omega,λs hs=>?_⟩
 ·by_cases h0:aB=0
  ·exact .inl (by subst h0;simp)
  have aG:=(hq 0 (by omega)).1
  obtain⟨b,o,rfl⟩:=ZX aG ⟨_,aG⟩;have hb:=BE w _ aG;rw[UB]at hb;refine .inr ⟨b,o,rfl,hb,λi hi=>?_⟩;rw[e1]at hi;obtain⟨h0,h1,h2,_⟩:=hq i hi;rw[UB]at h0 h1 h2;have eg:((List.range aB).map q).getD i (empty,empty,false)=q i:=by simp[List.getD,hi]
  rw[eg];exact⟨h0,by rw[IE];exact h1,by rw[IE];exact h2⟩
 obtain⟨i,hi,rfl⟩:=CE.1 hs
 exact(hq i (by simpa using hi)).2.2.2
end
