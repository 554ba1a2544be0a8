import Derived.Test.YthcfgbpailnahaaGreatDoorPrWoB
import Derived.Test.YthcfgbpailnahaaGreatDoorPrFnA
import Derived.Test.YthcfgbpailnahaaGreatDoorPrPfK
import Derived.Test.YthcfgbpailnahaaGreatDoorPrG38
import Derived.Shelf.Strings.BuilderK
import Derived.Test.YthcfgbpailnahaaGreatDoorPrRpL
import Derived.Test.YthcfgbpailnahaaGreatDoorPrAs
set_option maxHeartbeats 16000000
set_option maxRecDepth 8000
set_option linter.all false
namespace Go.Proofs.YthcfgbpailnahaaGreatDoor
open _root_.ByteArray(empty)
section
open Tryz
open Go.RowKit
variable {e:ByteArray}{n:Int}{ws:List (Int×ByteArray)}{es ss:List ByteArray}{cs:List Value}{aA base g hi lo:Nat}{F:Nat->Prop}{p:Option Addr}{r:Option Nat}{P:Program}{a b w w':World}
def PK(x:Wo):Bool:=decide (x.W=0/\x.S=0/\x.L=0/\(x.T=0/\x.H=0/\x.F=0/\x.R=0)/\x.U=0/\x.O=0/\x.rs.length=0)
def PW(x:Wo):Bool:=if x.up=true then OF x.W x.S x.L x.T x.H x.F x.R x.U x.O x.rs && decide (x.W=x.w/\x.S=(x.ss.length:Int)) else PK x
def QD(P:List (List (ByteArray×ByteArray))):Bool:=decide (1<=P.length/\P.length<=200) && P.all MA
def QU(ts:List ByteArray):Bool:=decide (ts.length<=2000) && ts.all λs=>decide (s.size=64)
def NR(x:Wo):Bool:=decide (1<=x.w/\x.w<=8) && (LS x.ss x.ws && (PW x && (QD x.P && QU x.ts)))
theorem tK(a:Option Addr)(P:List (List (ByteArray×ByteArray)))(c:Nat)(w:World)(h:Pst w a P)(hl:P.length<=1048576)(hs:∀rs∈P,rs.length<=1048576/\∀s∈rs,s.1.size<=1048576/\s.2.size<=1048576):Calls prog 75 #[.slice a P.length c] w λe w'=>e=.returned (.bool (QD P))/\Below w.heap.size w w':=by
 by_cases h1:P.length<1
 ·have e:QD P=false:=by unfold QD;rw[AI (by omega)];rfl
  rw[e];have aG:(P.length:Int)<1:=by omega
  go_enter func75,ntmps75;go_wp2;go_ret;exact⟨rfl,AB _ _⟩
 have aG:¬(P.length:Int)<1:=by omega
 by_cases h2:200<P.length
 ·have e:QD P=false:=by unfold QD;rw[AI (by omega)];rfl
  rw[e];have aH:(200:Int)<(P.length:Int):=by omega
  go_enter func75,ntmps75;go_wp2;go_ret;exact⟨rfl,AB _ _⟩
 have aH:¬(200:Int)<(P.length:Int):=by omega
 have HN:Hid (∀k,k<P.length->MA (P.getD k [])=false->QD P=false):=λk hk hx=>by
  unfold QD;have:P.all MA=false:=FN.2 ⟨P.getD k [],by simp[List.getD,hk],by rw[hx];simp⟩;rw[this,IL]
 have HY:Hid ((∀k,k<P.length->MA (P.getD k [])=true)->QD P=true):=λhx=>by
  unfold QD;rw[AO (by omega),IC]
  refine DX.2 λrs hr=>?_
  obtain⟨k,hk,rfl⟩:=FP hr;have:=hx k hk;simpa[List.getD,hk] using this
 obtain⟨B,HB⟩:∃B,Hid (B=QD P):=⟨_,LE rfl⟩;rw[<-HB.o]at HN HY⊢;clear h1 h2;go_enter func75,ntmps75;go_wp2;go_loopw [4,15] (λ_ i wr=>∃k:Nat,k<=P.length/\i=.int .i64 (k:Int)/\Hid (∀j,j<k->MA (P.getD j [])=true)/\Below w.heap.size w wr) (λ_ i _=>P.length-(intOf i).toNat)
 case atStart=>exact⟨0,AH _,rfl,λj hj=>absurd hj (by omega),AB _ _⟩
 case round =>
  obtain⟨k,hk,rfl,HA,aA⟩:=hrel
  by_cases aF:k<P.length
  ·obtain⟨b,o,p,cp,rfl,aJ,aI,HP⟩:=(h.I aA).at aF
   obtain⟨rs,aD⟩:∃rs,Hid (rs=P.getD k []):=⟨_,LE rfl⟩;rw[<-aD.o]at aI HP;have aB:rs∈P:=by rw[aD.o];simp[List.getD,aF]
   have HV:=LE (λob=>ig p rs cp (wr.alloc ob) (HP.o.I (MB _ _)) (hs rs aB).1 (hs rs aB).2);have aC:=LE aA;clear aA
   cases hst:MA rs with
   | false =>
    rw[hst]at HV;obtain rfl:B=false:=HN.o k aF (by rw[<-aD.o];exact hst);go_wp2_with (go_at_call 118;refine(HV.o _).i ?_;rintro e w2 ⟨rfl,aE⟩);go_ret;exact⟨rfl,aC.o.j (((MB wr _).j (aE.i (by simp))).i aC.o.size)⟩
   | true =>
    rw[hst]at HV;go_wp2_with (go_at_call 118;refine(HV.o _).i ?_;rintro e w2 ⟨rfl,aE⟩);go_roundw
    case rel=>exact⟨k+1,by omega,by go_num,λj hj=>by
     by_cases e:j=k
     ·subst e;rw[<-aD.o];exact hst
     exact HA.o j (by omega),aC.o.j (((MB wr _).j (aE.i (by simp))).i aC.o.size)⟩
    case measure=>simp[intOf];omega
  obtain rfl:B=true:=HY.o (λj hj=>HA.o j (by omega))
  go_wp2;go_ret;exact⟨rfl,aA⟩
theorem zI(a:Option Addr)(ts:List ByteArray)(c:Nat)(w:World)(h:Strs w a ts)(hl:ts.length<=1048576)(hs:∀s∈ts,s.size<=1048576):Calls prog 76 #[.slice a ts.length c] w λe w'=>e=.returned (.bool (QU ts))/\Below w.heap.size w w':=by
 by_cases h2:2000<ts.length
 ·have e:QU ts=false:=by unfold QU;rw[AI (by omega)];rfl
  rw[e];have aD:(2000:Int)<(ts.length:Int):=by omega
  go_enter func76,ntmps76;go_wp2;go_ret;exact⟨rfl,AB _ _⟩
 have aD:¬(2000:Int)<(ts.length:Int):=by omega
 have HN:Hid (∀k,k<ts.length->¬(ts.getD k empty).size=64->QU ts=false):=λk hk hx=>by
  unfold QU;have:(ts.all λs=>decide (s.size=64))=false:=FN.2 ⟨ts.getD k empty,by simp[List.getD,hk],by simpa using hx⟩;rw[this,IL]
 have HY:Hid ((∀k,k<ts.length->(ts.getD k empty).size=64)->QU ts=true):=λhx=>by
  unfold QU;rw[AO (by omega),IC]
  refine DX.2 λs hr=>?_
  obtain⟨k,hk,rfl⟩:=FP hr;have:=hx k hk;simpa[List.getD,hk] using this
 obtain⟨B,HB⟩:∃B,Hid (B=QU ts):=⟨_,LE rfl⟩;rw[<-HB.o]at HN HY⊢;clear h2;go_enter func76,ntmps76;go_wp2;go_loopw [4,10] (λ_ i wr=>∃k:Nat,k<=ts.length/\i=.int .i64 (k:Int)/\Hid (∀j,j<k->(ts.getD j empty).size=64)/\wr=w) (λ_ i _=>ts.length-(intOf i).toNat)
 case atStart=>exact⟨0,AH _,rfl,λj hj=>absurd hj (by omega),rfl⟩
 case round =>
  obtain⟨k,hk,rfl,HA,rfl⟩:=hrel
  by_cases aB:k<ts.length
  ·obtain⟨b,o,s,rfl,hc,HS⟩:=h.at aB
   have aE:=hs s (by rw[HS.o];simp[List.getD,aB])
   by_cases aC:s.size=64
   ·have aA:(s.size:Int)=64:=by omega
    go_wp2;go_roundw
    case rel=>exact⟨k+1,by omega,by go_num,λj hj=>by
     by_cases e:j=k
     ·subst e;rw[<-HS.o];exact aC
     exact HA.o j (by omega),by first|rfl|trivial⟩
    case measure=>simp[intOf];omega
   have aA:¬(s.size:Int)=64:=by omega
   obtain rfl:B=false:=HN.o k aB (by rw[<-HS.o];exact aC);go_wp2;go_ret;exact⟨rfl,AB _ _⟩
  obtain rfl:B=true:=HY.o (λj hj=>HA.o j (by omega))
  go_wp2;go_ret;exact⟨rfl,AB _ _⟩
section
abbrev UM(ss:List ByteArray)(ws:List (Int×ByteArray))(frm size n:Int):Prop:=LS ss ws=true/\(1<=n/\n<=8)/\0<=frm/\0<=size/\frm<=(ss.length:Int)/\size<=(ss.length:Int)-frm
def RM(ss:List ByteArray)(ws:List (Int×ByteArray))(frm size first aA n:Int):Scd :=if UM ss ws frm size n then NG (λk=>(NY ws ss).getD k empty) frm.toNat first n size.toNat 0 0 aA empty ([],0,aA) else ([],0,0)
def YH(w w':World)(e:Ending)(x:Scd):Prop:=∃y,e=.returned (.agg #[y,.int .i64 x.2.1,.int .i64 x.2.2])/\w'.ownsRow w.heap.size 9 1 y x.1.length (x.1.map Value.string)/\Below w.heap.size w w'
structure ScB(w0 w:World)(RB G XB OT WS:Nat)(S:List Value)(cx:Nat)(xp:Value)(y:Value)(ents:List ByteArray)(u l wk wl wm:Int)(wp:ByteArray):Prop where
 rb:Row w RB [.slice none 0 0,.int .i64 0,.int .i64 0]
 sec:Row w G S
 xb:Row w XB [.slice (some ⟨G,0,none⟩) S.length cx,xp]
 ot:Row w OT [y,.int .i64 u,.int .i64 l]
 ws:Row w WS [.int .i64 wk,.int .i64 wl,.int .i64 wm,.string wp]
 own:w.ownsRow w0.heap.size 9 1 y ents.length (ents.map Value.string)
 o1:w0.heap.size<=RB
 o2:RB<G
 o3:G<XB
 o4:XB<OT
 o5:OT<WS
 yo:∀k,y.ownBlock=some k->WS<k
 be:Below w0.heap.size w0 w
section
variable {w0 w w':World} {RB G XB OT WS:Nat} {S:List Value} {cx:Nat} {xp:Value} {y:Value} {ents:List ByteArray} {u l wk wl wm:Int} {wp:ByteArray}
theorem ScB.I(h:ScB w0 w RB G XB OT WS S cx xp y ents u l wk wl wm wp)(hb:Below w.heap.size w w'):ScB w0 w' RB G XB OT WS S cx xp y ents u l wk wl wm wp :=⟨h.rb.I hb,h.sec.I hb,h.xb.I hb,h.ot.I hb,h.ws.I hb,LY h.own hb,h.o1,h.o2,h.o3,h.o4,h.o5,h.yo,h.be.j (hb.i h.be.size)⟩
theorem ScB.own_ne(h:ScB w0 w RB G XB OT WS S cx xp y ents u l wk wl wm wp){k:Nat}(hk:k<=WS):y.ownBlock≠some k:=λe=>by have:=h.yo k e;omega
theorem ScB.setWas(h:ScB w0 w RB G XB OT WS S cx xp y ents u l wk wl wm wp)(k' l' m':Int)(p':ByteArray):ScB w0 ((((w.setCell ⟨WS,0,none⟩ (.int .i64 k')).setCell ⟨WS,1,none⟩ (.int .i64 l')).setCell ⟨WS,2,none⟩ (.int .i64 m')).setCell ⟨WS,3,none⟩ (.string p')) RB G XB OT WS S cx xp y ents u l k' l' m' p':=by
 have o1:=h.o1;have o2:=h.o2;have o3:=h.o3;have o4:=h.o4;have o5:=h.o5
 have aA:∀ {g:Nat} {cs:List Value},g≠WS->Row w g cs->Row ((((w.setCell ⟨WS,0,none⟩ (.int .i64 k')).setCell ⟨WS,1,none⟩ (.int .i64 l')).setCell ⟨WS,2,none⟩ (.int .i64 m')).setCell ⟨WS,3,none⟩ (.string p')) g cs:=λhg hr =>
  (((hr.other _ (IZ hg) _).other _ (IZ hg) _).other _ (IZ hg) _).other _ (IZ hg) _
 have hy:=h.own_ne (AA WS)
 have bs:∀ {x:World},Below w0.heap.size w0 x->∀i v,Below w0.heap.size w0 (x.setCell ⟨WS,i,none⟩ v):=λhx i v=>hx.setCell (by show w0.heap.size<=WS;omega) _
 exact⟨aA (by omega) h.rb,aA (by omega) h.sec,aA (by omega) h.xb,aA (by omega) h.ot,(((h.ws.set 0 (by simp) _).set 1 (by simp) _).set 2 (by simp) _).set 3 (by simp) _,
  BO (BO (BO (BO h.own hy _) hy _) hy _) hy _,o1,o2,o3,o4,o5,h.yo,bs (bs (bs (bs h.be _ _) _ _) _ _) _ _⟩
theorem ScB.setEnd(h:ScB w0 w RB G XB OT WS S cx xp y ents u l wk wl wm wp)(u' l':Int):ScB w0 ((w.setCell ⟨OT,1,none⟩ (.int .i64 u')).setCell ⟨OT,2,none⟩ (.int .i64 l')) RB G XB OT WS S cx xp y ents u' l' wk wl wm wp:=by
 have o1:=h.o1;have o2:=h.o2;have o3:=h.o3;have o4:=h.o4;have o5:=h.o5
 have aA:∀ {g:Nat} {cs:List Value},g≠OT->Row w g cs->Row ((w.setCell ⟨OT,1,none⟩ (.int .i64 u')).setCell ⟨OT,2,none⟩ (.int .i64 l')) g cs:=λhg hr=>(hr.other _ (IZ hg) _).other _ (IZ hg) _
 have hy:=h.own_ne (k:=OT) (by omega)
 have bs:∀ {x:World},Below w0.heap.size w0 x->∀i v,Below w0.heap.size w0 (x.setCell ⟨OT,i,none⟩ v):=λhx i v=>hx.setCell (by show w0.heap.size<=OT;omega) _
 exact⟨aA (by omega) h.rb,aA (by omega) h.sec,aA (by omega) h.xb,(h.ot.set 1 (by simp) _).set 2 (by simp) _,aA (by omega) h.ws,
  BO (BO h.own hy _) hy _,o1,o2,o3,o4,o5,h.yo,bs (bs h.be _ _) _ _⟩
theorem ScB.push(h:ScB w0 w RB G XB OT WS S cx xp y ents u l wk wl wm wp){y':Value}{ents':List ByteArray}{H:Nat}(aB:w'.ownsRow w0.heap.size 9 1 y' ents'.length (ents'.map Value.string))(hg:w.grownBy w' y.ownBlock)(aE:y.ownBlock=y'.ownBlock\/y'.ownBlock=some H)(hH:w.heap.size<=H):ScB w0 (w'.setCell ⟨OT,0,none⟩ y') RB G XB OT WS S cx xp y' ents' u l wk wl wm wp:=by
 have o1:=h.o1;have o2:=h.o2;have o3:=h.o3;have o4:=h.o4;have o5:=h.o5;have lW:=h.ws.lt
 have aC:∀k,y'.ownBlock=some k->WS<k:=λk hk=>by
  rcases aE with e|e
  ·exact h.yo k (e.j hk)
  rw[e]at hk;cases hk;omega
 have gr:∀ {g:Nat} {cs:List Value},g<=WS->Row w g cs->Row w' g cs:=λaF hr=>hr.z hg (λe=>h.own_ne aF e.symm)
 have aA:∀ {g:Nat} {cs:List Value},g≠OT->Row w' g cs->Row (w'.setCell ⟨OT,0,none⟩ y') g cs:=λhg hr=>hr.other _ (IZ hg) _
 have aG:y'.ownBlock≠some OT:=λe=>by have:=aC OT e;omega
 have aD:Below w0.heap.size w0 w':=h.be.j (NE hg h.be.size (λg e=>(h.own.lt g e).1))
 exact⟨aA (by omega) (gr (by omega) h.rb),aA (by omega) (gr (by omega) h.sec),aA (by omega) (gr (by omega) h.xb),(gr (by omega) h.ot).set 0 (by simp) _,aA (by omega) (gr (AA _) h.ws),
  BO aB aG _,o1,o2,o3,o4,o5,aC,aD.setCell (by show w0.heap.size<=OT;omega) _⟩
end
theorem Du(wk wl wm:Int)(wp:ByteArray)(k l m:Int)(p:ByteArray)(w:World):Calls prog 199 #[NH wk wl wm wp,NH k l m p] w λe w'=>e=.returned (.bool (PE wk wl k l))/\Below w.heap.size w w':=by
 have aB:∀o1 o2,Below w.heap.size w ((w.alloc o1).alloc o2):=λo1 o2=>(LG _ _).alloc (by simp) _
 obtain⟨B,hB⟩:∃B,PE wk wl k l=B:=⟨_,rfl⟩;have HB:=LE hB;rw[hB];clear hB
 by_cases h1:l<wl
 focus
  have e:B=false:=by rw[<-HB.o];unfold PE;simp;omega
  subst e;clear HB
 rotate_left
 focus
  by_cases h3:k=3
  focus
   subst h3
   by_cases hw:wk=1
   focus
    have e:B=false:=by rw[<-HB.o];unfold PE;simp[hw]
    subst e;clear HB
   rotate_left
   focus
    have e:B=true:=by rw[<-HB.o];unfold PE;simp[hw];omega
    have aE:(wk != 1)=true:=by simp[hw]
    subst e;clear HB
   rotate_left
  rotate_left 2
  focus
   by_cases aA:k=1\/k=2
   ·by_cases hw:wk=1
    focus
     by_cases hl:wl=l
     focus
      have e:B=true:=by rw[<-HB.o];unfold PE;rcases aA with rfl|rfl<;>simp[hw,hl]
     rotate_left
     focus
      have e:B=false:=by rw[<-HB.o];unfold PE;rcases aA with rfl|rfl<;>simp[hw,hl]
      have aF:(wl == l)=false:=by simp[hl]
     rotate_left
    rotate_left 2
    focus
     have e:B=true:=by rw[<-HB.o];unfold PE;rcases aA with rfl|rfl<;>simp[hw]<;>omega
     have aE:(wk != 1)=true:=by simp[hw]
    rotate_left
    all_goals
     subst e;clear HB;rcases aA with rfl|rfl<;>(go_enter func199,ntmps199;go_wp2;go_ret;exact⟨rfl,aB _ _⟩)
   focus
    have aC:¬k=1:=λe=>aA (.inl e)
    have aD:¬k=2:=λe=>aA (.inr e)
    have e:B=false:=by rw[<-HB.o];unfold PE;simp[h3,aC,aD]
    subst e;clear HB aA
   rotate_left
  rotate_left
 rotate_left 3
 all_goals
  go_enter func199,ntmps199;go_wp2;go_ret;exact⟨rfl,aB _ _⟩
end
section
set_option maxHeartbeats 4000000
theorem xZ:(prog.info? 9).map (λi=>(i.zero,i.size,i.bytes))=some (some (.string empty),1,16):=by kernel_rfl
theorem Do{e:TypeId}{z:Value}{size:Nat}(h:(P.info? e).map (λi=>(i.zero,i.size,i.bytes))=some (some z,size,aA)):∃i,P.info? e=some i/\i.zero=some z/\i.size=size/\i.bytes=aA:=by
 obtain⟨i,hi,hh⟩:=EF.1 h;simp only[EA]at hh;exact⟨i,hi,hh⟩
theorem zX(w:World)(cs:Array Value)(t:TypeId):∀j u,cs.toList[j]?=some u->(w.alloc (.cells cs t)).cell? ((⟨w.heap.size,0,none⟩:Addr).add j)=some u:=World.news_of_block (AY w (.cells cs t))
theorem Dx(k:ByteArray):∀u∈[Value.string k],u.oneCell'=true:=by
 intro u hu;simp only[DK,EN,IY]at hu;subst hu;rfl
def rc(N FB:Nat)(y:Value)(w:World)(ents':List ByteArray)(u' l':Int)(w':World):Prop :=∃y',Row w' FB [y',.int .i64 u',.int .i64 l']/\w'.ownsRow N 9 1 y' ents'.length (ents'.map Value.string)/\(y'.ownBlock=y.ownBlock\/∃H,y'.ownBlock=some H/\w.heap.size<=H)/\Below N w w'/\(∀b,b<w.heap.size->b≠FB->some b≠y.ownBlock->w'.heap[b]?=w.heap[b]?)
theorem uG(N FB:Nat)(y:Value)(ents:List ByteArray)(u0 l0 k l m:Int)(p aB:ByteArray)(x:Nat)(w:World)
  (hr:Row w FB [y,.int .i64 u0,.int .i64 l0])(ho:w.ownsRow N 9 1 y ents.length (ents.map Value.string))(aG:N<=FB)(aH:N<=w.heap.size)(aF:y.ownBlock≠some FB)(hx:x<=200)(aU:ents.length<=300):Calls prog 169 #[.pointer (some ⟨FB,0,none⟩),NH k l m p,.int .i64 (x:Int),.string aB] w λe w'=>e=.returned (.tuple #[])/\rc N FB y w (if k=2 then ents++[aB] else ents) ((x:Int)+1) l w':=by
 have aX:IntKind.i64.wrap ((x:Int)+1)=(x:Int)+1:=by simp[IntKind.wrap,IntKind.bits,IntKind.signed];omega
 obtain⟨i0,aK,aM,aN,aO⟩:=Do xZ;have HI:=LE (AG aK (AG aM (AG aN aO)));clear aK aM aN aO
 obtain⟨ya,yc,rfl⟩:∃ya yc,y=.slice ya ents.length yc:=by
  rcases MM ho with ⟨h1,h2⟩|⟨gg,cap,h1,_⟩
  ·exact⟨none,0,by rw[h1,h2]⟩
  exact⟨_,cap,h1⟩
 obtain⟨c0,c1,c2⟩:=hr.k3;obtain⟨f0,f1,f2⟩:=hr.z3;have hl:=hr.lt;have aW:¬FB=w.heap.size:=by omega
 have HR:=LE (((hr.set 1 (by simp) (.int .i64 ((x:Int)+1))).set 2 (by simp) (.int .i64 l)).alloc (.cells #[.int .i64 k,.int .i64 l,.int .i64 m,.string p] 204));have HO:=LE ((BO (BO ho aF (a:=⟨FB,1,none⟩) (.int .i64 ((x:Int)+1))) aF (a:=⟨FB,2,none⟩) (.int .i64 l)).alloc (.cells #[.int .i64 k,.int .i64 l,.int .i64 m,.string p] 204));have HB:=LE ((((AB N w).setCell (p:=⟨FB,1,none⟩) aG (.int .i64 ((x:Int)+1))).setCell (p:=⟨FB,2,none⟩) aG (.int .i64 l)).alloc (by simpa using aH) (.cells #[.int .i64 k,.int .i64 l,.int .i64 m,.string p] 204))
 have HG:Hid (∀b,b<w.heap.size->b≠FB->(((w.setCell ⟨FB,1,none⟩ (.int .i64 ((x:Int)+1))).setCell ⟨FB,2,none⟩ (.int .i64 l)).alloc (.cells #[.int .i64 k,.int .i64 l,.int .i64 m,.string p] 204)).heap[b]?=w.heap[b]?):=λb hb aE=>by
  rw[JL _ _ (by simpa using hb),BD _ _ _ _ aE,BD _ _ _ _ aE]
 by_cases hk:k=2
 ·subst hk
  rw[AK rfl];go_enter func169,ntmps169
  go_wp2_with (first|(at_builtin;refine PU _ rfl _ _ 22 rfl N underlying22 HI.o rfl (by omega) _ ents.length _ rfl (HO.o.alloc _) ⟨w.heap.size+1,0,none⟩ 1 1 [.string aB] rfl rfl (by intro j z hj;have:=zX (((w.setCell ⟨FB,1,none⟩ (.int .i64 ((x:Int)+1))).setCell ⟨FB,2,none⟩ (.int .i64 l)).alloc (.cells #[.int .i64 2,.int .i64 l,.int .i64 m,.string p] 204)) #[.string aB] 9 j z hj;simpa using this) (Dx _) (by simp;omega) (w.heap.size+1+1) (by simp) ?_;intro gn cap aY aC aA aD aL;have rF:=(HR.o.alloc (.cells #[.string aB] 9)).z aA (λe=>aF e.symm);have d0:=rF.x 0;have e0:=rF.q 0;have dl:=rF.lt;have aQ:=LE rF;have aJ:=LE aA;have aP:=LE aC;have aI:=LE aD;clear rF aA aC aD))
  go_end0
  have aT:∀z,(Value.slice ya ents.length yc).ownBlock=some z->N<=z/\z<w.heap.size:=λz hz=>ho.lt z hz
  have aS:¬gn=FB:=λe=>by
   rcases aI.o with h|h
   ·exact aF (h.j (by rw[e]))
   omega
  refine⟨rfl,.slice (some ⟨gn,0,none⟩) (ents.length+1) cap,aQ.o.set 0 (by simp) _,?_,?_,?_,λb hb aE aR=>?_⟩
  ·rw[AF,BK]
   exact BO aP.o (by simpa[Value.ownBlock] using aS) _
  ·rcases aI.o with h|h
   ·exact .inl h.symm
   exact .inr ⟨gn,rfl,by omega⟩
  ·exact(((HB.o.alloc (AL aH HB.o.size) _).j (NE aJ.o (AL aH (by simp<;>omega)) (λz hz=>(aT z hz).1))).setCell aG _)
  rw[BD _ _ _ _ aE,aJ.o.block b (by simp;omega) aR,JL _ _ (by simp;omega)]
  exact HG.o b hb aE
 rw[AE hk]
 have aV:(k == 2)=false:=by simp[hk]
 go_enter func169,ntmps169;go_wp2;go_end0;exact⟨rfl,_,HR.o,HO.o,.inl rfl,HB.o,λb hb aE _=>HG.o b hb aE⟩
end
section
def NF:List ByteArray->List Pr->Option (List Pr)
 | [],rs=>some rs
 | e::es,rs=>match SW e with
  | none=>none
  | some b=>if OQ rs b=0 then NF es (MO rs b) else none
theorem bn:∀(es:List ByteArray) (rs:List Pr),MA rs=true->∀r,NF es rs=some r->MA r=true
 | [],rs,h,r,hr=>by cases hr;exact h
 | e::es,rs,h,r,hr=>by
  rw[NF]at hr
  split at hr
  ·cases hr
  split at hr
  ·rename_i hc
   exact bn es _ (gc hc) r hr
  cases hr
theorem yq{rs:List Pr}(h:SW e=none):NF (e::es) rs=none:=by rw[NF,h]
theorem nO{rs:List Pr}{b:List Ch}(h:SW e=some b)(hc:OQ rs b≠0):NF (e::es) rs=none:=by rw[NF,h];simp only;rw[AE hc]
theorem tn{rs:List Pr}{b:List Ch}(h:SW e=some b)(hc:OQ rs b=0):NF (e::es) rs=NF es (MO rs b):=by rw[NF,h];simp only;rw[AK hc]
theorem UR:MA []=true:=by decide
theorem SG{rs:List Pr}(h:MA rs=true):rs.length<=100/\∀x∈rs,x.1.size<=1048576/\x.2.size<=1048576:=by
 obtain⟨h1,h2,h3⟩:=(kx rs).1 h;refine⟨h1,λx hx=>?_⟩;obtain⟨k1,k2⟩:=h2 x hx;unfold OG at k1;unfold NN at k2;simp at k1 k2;omega
theorem ry{b:List Ch}(h:OA b=true):b.length<=20/\∀x∈b,x.1.size<=1048576/\x.2.1.size<=1048576:=by
 obtain⟨h1,h2⟩:=VQ h;refine⟨by omega,λx hx=>?_⟩;obtain⟨k1,k2⟩:=n7 (h2 x hx);unfold OG at k1;unfold NN at k2;simp at k1 k2;omega
def UL(x:RtT):Prop:=(0<=x.1/\x.1<=1000000000)/\(0<=x.2.1/\x.2.1<=1)/\(1<=x.2.2.1/\x.2.2.1<=999999000)/\(0<=x.2.2.2/\x.2.2.2<=60000)
theorem nZ{s:ByteArray}{a:Int}{x:RtT}(h:NC s a n=some x):UL x:=by
 unfold NC at h
 split at h
 ·cases h
 rename_i k l m p hp
 have hr:=SR hp
 split at h
 ·rename_i hh
  cases h
  obtain⟨h1,h2,h3⟩:=hh
  have hf:SM (QK p) (PZ p):=by
   by_cases e:SM (QK p) (PZ p)
   ·exact e
   exfalso
   unfold ON at h2;rw[AE e]at h2;have aA:=hr.1;rw[<-h2]at aA;exact absurd aA (by decide)
  unfold SM at hf;unfold UL;simp only;omega
 cases h
theorem uv{b:RtT}{o:Option RtT}(hb:UL b)(ho:∀x,o=some x->UL x):UL (RP b o):=by
 unfold RP
 split
 ·exact hb
 rename_i r
 split
 ·exact ho _ rfl
 exact hb
theorem En(s0 s1:ByteArray)(n:Int):UL (bj s0 s1 n):=by
 unfold bj;exact uv (uv (by unfold UL;simp) (λx hx=>nZ hx)) (λx hx=>nZ hx)
theorem dk(h:LS ss ws=true/\1<=n/\n<=8):UL (MS ss ws n):=by
 unfold MS;rw[AK h];exact En _ _ _
def OM(ss:List ByteArray)(ws:List (Int×ByteArray))(n:Int):Scd:=RM ss ws (2+(MS ss ws n).2.1*hv ss.length) (hv ss.length) (MS ss ws n).2.2.1 (MS ss ws n).2.2.2 n
theorem xW{S:Int}(h:8<=S/\S<=200):2+2*hv S<=S:=by unfold hv;rw[AK h];omega
theorem il{H q:Int}(h:0<=H/\H<=1)(hq:0<=q):0<=H*q/\H*q<=q:=by
 have:H=0\/H=1:=by omega
 rcases this with rfl|rfl<;>omega
theorem Ca(h:LS ss ws=true/\1<=n/\n<=8):UM ss ws (2+(MS ss ws n).2.1*hv ss.length) (hv ss.length) n:=by
 have hg:=dk h;obtain⟨⟨aB,aC,aD⟩,aA,hw⟩:=OZ h.1;have h1:=PH (S:=(ss.length:Int)) (by omega);have h2:=xW (S:=(ss.length:Int)) (by omega);have h3:=il hg.2.1 (q:=hv ss.length) (by omega);exact⟨h.1,h.2,by omega,by omega,by omega,by omega⟩
theorem ni(h:LS ss ws=true/\1<=n/\n<=8):(0<=(OM ss ws n).2.1/\(OM ss ws n).2.1<=hv ss.length)/\(0<=(OM ss ws n).2.2/\(OM ss ws n).2.2<=60000)/\(OM ss ws n).1.length<=99/\∀e∈(OM ss ws n).1,e.size<=6336:=by
 have hg:=dk h;have aA:=Ca h;obtain⟨⟨aC,aD,aE⟩,aB,hw⟩:=OZ h.1;have h1:=PH (S:=(ss.length:Int)) (by omega);unfold OM RM;rw[AK aA];obtain⟨q,hq⟩:∃q:Nat,hv ss.length=(q:Int):=⟨(hv ss.length).toNat,by omega⟩;rw[hq]at h1⊢;simp only[DG];have u1:=nf (λk=>(NY ws ss).getD k empty) (2+(MS ss ws n).2.1*(q:Int)).toNat (MS ss ws n).2.2.1 n q 0 0 (MS ss ws n).2.2.2 empty ([],0,(MS ss ws n).2.2.2) (by simp);have u2:=ox (λk=>(NY ws ss).getD k empty) (2+(MS ss ws n).2.1*(q:Int)).toNat (MS ss ws n).2.2.1 n q 0 0 (MS ss ws n).2.2.2 empty ([],0,(MS ss ws n).2.2.2);have u3:=qz (λk=>(NY ws ss).getD k empty) (2+(MS ss ws n).2.1*(q:Int)).toNat (MS ss ws n).2.2.1 n q 0 0 (MS ss ws n).2.2.2 empty ([],0,(MS ss ws n).2.2.2) 6336 (by show 0+64*q<=6336;omega) (by intro e he;cases he);simp only[AR]at u3
 refine⟨by omega,?_,by omega,u3.1⟩;have:=hg.2.2.2;rcases u2 with u2|u2
 ·rw[u2];exact this
 omega
def PC(ss:List ByteArray)(ws:List (Int×ByteArray))(n:Int):Dd :=if LS ss ws=true/\1<=n/\n<=8 then
  match NF (OM ss ws n).1 [] with
  | none=>LT 2
  | some rs =>
   if 60000<(OM ss ws n).2.2+1 then LT 3
   else if hv ss.length-1<MH (MN rs) n then LT 4
   else if hv ss.length<=(OM ss ws n).2.1 then OY n ss.length ((OM ss ws n).2.2+1) (MS ss ws n).1 (MS ss ws n).2.1 (MS ss ws n).2.2.1 rs
   else ⟨0,n,ss.length,(OM ss ws n).2.2+1,(MS ss ws n).1,(MS ss ws n).2.1,(MS ss ws n).2.2.1,(MS ss ws n).2.2.2,(OM ss ws n).2.1+1,0,rs,
    [(false,2+(MS ss ws n).2.1*hv ss.length+(OM ss ws n).2.1,MP 3 ((OM ss ws n).2.2+1) ((MS ss ws n).2.2.1+(OM ss ws n).2.1) empty n),(true,0,empty)]⟩
 else LT 1
section
variable {ss:List ByteArray} {ws:List (Int×ByteArray)} {n T H F R U L:Int} {es:List ByteArray} {rs:List Pr}
theorem bh(h:¬(LS ss ws=true/\1<=n/\n<=8)):PC ss ws n=LT 1:=by unfold PC;rw[AE h]
theorem oy(h:LS ss ws=true/\1<=n/\n<=8)(h2:OM ss ws n=(es,U,L))(h3:NF es []=none):PC ss ws n=LT 2:=by
 unfold PC;rw[AK h,h2];simp only;rw[h3]
theorem qj(h:LS ss ws=true/\1<=n/\n<=8)(h2:OM ss ws n=(es,U,L))(h3:NF es []=some rs)(h4:60000<L+1):PC ss ws n=LT 3:=by
 unfold PC;rw[AK h,h2];simp only;rw[h3];simp only;rw[AK h4]
theorem mn(h:LS ss ws=true/\1<=n/\n<=8)(h2:OM ss ws n=(es,U,L))(h3:NF es []=some rs)(h4:¬60000<L+1)(h5:hv ss.length-1<MH (MN rs) n):PC ss ws n=LT 4:=by
 unfold PC;rw[AK h,h2];simp only;rw[h3];simp only;rw[AE h4,AK h5]
theorem jw(h:LS ss ws=true/\1<=n/\n<=8)(h1:MS ss ws n=(T,H,F,R))(h2:OM ss ws n=(es,U,L))(h3:NF es []=some rs)(h4:¬60000<L+1)(h5:¬hv ss.length-1<MH (MN rs) n)(h6:hv ss.length<=U):PC ss ws n=OY n ss.length (L+1) T H F rs:=by
 unfold PC;rw[AK h,h2,h1];simp only;rw[h3];simp only;rw[AE h4,AE h5,AK h6]
theorem kl(h:LS ss ws=true/\1<=n/\n<=8)(h1:MS ss ws n=(T,H,F,R))(h2:OM ss ws n=(es,U,L))(h3:NF es []=some rs)(h4:¬60000<L+1)(h5:¬hv ss.length-1<MH (MN rs) n)(h6:¬hv ss.length<=U):PC ss ws n=⟨0,n,ss.length,L+1,T,H,F,R,U+1,0,rs,[(false,2+H*hv ss.length+U,MP 3 (L+1) (F+U) empty n),(true,0,empty)]⟩:=by
 unfold PC;rw[AK h,h2,h1];simp only;rw[h3];simp only;rw[AE h4,AE h5,AE h6]
end
theorem Eo{W S L T H F:Int}{rs:List Pr}(hl:rs.length<=1048576)(aA:VX W S L T H F rs):(OY W S L T H F rs).rs.length<=1048576/\(OY W S L T H F rs).ops.length<=1000:=by
 unfold OY
 cases h2:XR S T F with
 | false=>simp[LT]
 | true =>
  obtain⟨⟨h1,aB⟩,h3,h4,h5,h6,h7,h8⟩:=aA;have hq:=PH h3;have hm:=ew L (F+hv S) W.toNat (56-W.toNat) (by omega) (by omega) (by omega) (MN rs);rw[show((W.toNat:Nat):Int)=W by omega]at hm;simp only[IK,WO,AF,QC];refine⟨hl,?_⟩;simp;omega
theorem Hk(ss:List ByteArray)(ws:List (Int×ByteArray))(n:Int):(PC ss ws n).rs.length<=1048576/\(PC ss ws n).ops.length<=1000:=by
 by_cases h:LS ss ws=true/\1<=n/\n<=8
 ·obtain⟨T,H,F,R,aA⟩:∃T H F R,MS ss ws n=(T,H,F,R):=⟨_,_,_,_,rfl⟩
  obtain⟨es,U,L,hX⟩:∃es U L,OM ss ws n=(es,U,L):=⟨_,_,_,rfl⟩;have hg:=dk h;have hx:=ni h;rw[aA]at hg;rw[hX]at hx;unfold UL at hg;simp only at hg hx;obtain⟨⟨aB,aC,aD⟩,_,_⟩:=OZ h.1
  cases hf:NF es [] with
  | none=>rw[oy h hX hf];simp[LT]
  | some rs =>
   have aE:=(SG (bn es [] UR rs hf)).1
   by_cases h4:60000<L+1
   ·rw[qj h hX hf h4];simp[LT]
   by_cases h5:hv ss.length-1<MH (MN rs) n
   ·rw[mn h hX hf h4 h5];simp[LT]
   by_cases h6:hv ss.length<=U
   ·rw[jw h aA hX hf h4 h5 h6]
    exact Eo (by omega) ⟨h.2,by omega,by omega,hg.1,hg.2.1,hg.2.2.1,by omega⟩
   rw[kl h aA hX hf h4 h5 h6]
   simp;omega
 rw[bh h];simp[LT]
end
theorem Ops.take{a:Option Addr}{rs:List (Bool×Int×ByteArray)}(h:Ops w a rs)(m:Nat):Ops w a (rs.take m):=by
 rcases h with h|⟨b,o,h1,h2,h3⟩
 ·exact .inl (by rw[h];simp)
 refine .inr ⟨b,o,h1,h2,λi hi=>?_⟩
 have aA:i<rs.length/\i<m:=by simp at hi;omega
 have e:(rs.take m).getD i (false,0,empty)=rs.getD i (false,0,empty):=by simp[List.getD,FH,aA.2]
 rw[e];exact h3 i aA.1
theorem Row.lowB{R:Nat}(h:Row w R cs)(hb:Below base w w')(hR:R<base):Row w' R cs :=⟨AD h.lt hb.size,λi v hv=>(hb.cell (p:=⟨R,i,none⟩) hR).j (h.cell i v hv),λi hi=>(hb.frozen (p:=⟨R,i,none⟩) hR).j (h.froz i hi)⟩
theorem OwnS.setp{a:Option Addr}(h:OwnS w a cs)(p:Addr)(hp:∀g,a=some ⟨g,0,none⟩->cs≠[]->p.block≠g)(v:Value):OwnS (w.setCell p v) a cs:=by
 rcases h with h|⟨g,h1,h2⟩
 ·exact .inl h
 by_cases hc:cs=[]
 ·exact .inl hc
 exact .inr ⟨g,h1,h2.other p (hp g h1 hc) v⟩
theorem tf(ss:List ByteArray):NK (ss.map LF)=ss:=by
 unfold NK;rw[IT];exact KS (λs=>SJ s) ss
theorem vw(ws:List (Int×ByteArray)):XbJ (LP ws)=ws:=by
 unfold XbJ LP;rw[IT];exact KS (λx=>by show(x.1,strOfNums (LF x.2))=x;rw[SJ]) ws
theorem DV.form{X n:Nat}{v:Value}{ps:List (List Int)}{hs:List (Int×List Int)}(h:DV w base X g n v ps hs)(aA:∀p∈hs,p.2.length=64):∃a c,v=.slice a hs.length c/\Hld w a hs:=by
 rcases MM h.own with ⟨e,h0⟩|⟨g,c,e,_,_,hr⟩
 ·exact⟨_,_,by rw[e,h0],.inl (AC h0)⟩
 exact⟨_,_,e,hr.hld aA⟩
theorem uf:∀(l:List (Bool×Int×ByteArray)) (d:List ByteArray×List (Int×ByteArray)),LS d.1 d.2=true->LS (NW l d).1 (NW l d).2=true
 | [],_,h=>h
 | o::r,d,h=>uf r _ (kt d o h)
theorem xN(base X g n:Nat)(v:Value)(ss:List ByteArray)(ws:List (Int×ByteArray))(s:Bool)(aA:Int)(d:ByteArray)(w:World)(h:DV w base X g n v (ss.map LF) (LP ws))(hn:ss.length=n)(aC:LS ss ws=true)(hd:d.size<=1048576)(aB:base<=w.heap.size):Calls prog 184 #[.pointer (some ⟨X,0,none⟩),.agg #[.bool s,.int .i64 aA,.string d]] w λe w'=>(∃x,e=.returned x)/\(∃v',DV w' base X g n v' ((QJ (ss,ws) (s,aA,d)).1.map LF) (LP (QJ (ss,ws) (s,aA,d)).2))/\Below base w w':=by
 cases s with
 | true =>
  rw[qN];refine(Fk base X g n v ss ws aA d w h hn aC aB).i ?_;rintro e w' ⟨h1,h2,h3⟩;exact⟨h1,⟨_,h2⟩,h3⟩
 | false =>
  cases hc:OI ss.length (aA,d) with
  | false =>
   rw[jf (ss,ws) (aA,d) (.inl hc)];refine(xc base X g n v ss ws aA d w h hn aC hd (.inl hc) aB).i ?_;rintro e w' ⟨h1,h2,h3⟩;exact⟨h1,⟨_,h2⟩,h3⟩
  | true =>
   by_cases hl:ws.length<300
   ·rw[qS (ss,ws) (aA,d) hc hl]
    exact Iv base X g n v ss ws aA d w h hn aC hc hl aB
   rw[jf (ss,ws) (aA,d) (.inr hl)]
   refine(xc base X g n v ss ws aA d w h hn aC hd (.inr hl) aB).i ?_;rintro e w' ⟨h1,h2,h3⟩;exact⟨h1,⟨_,h2⟩,h3⟩
def PQ(z:Int)(n:Nat):Nat:=min z.toNat n
theorem yf(z:Int)(n:Nat):PQ z n<=n:=Nat.min_le_right _ _
set_option maxRecDepth 100000 in
theorem yS(a:Option Addr)(ss:List ByteArray)(c:Nat)(a':Option Addr)(ws:List (Int×ByteArray))(c':Nat)(f:Option Addr)(rs:List (Bool×Int×ByteArray))(cf:Nat)(z:Int)(m:Nat)(w:World)(h:Strs w a ss)(h':Wrs w a' ws)(hz:Ops w f rs)(eC:rs.length<=cf)(eI:rs.length<=1048576)(cS:PQ z rs.length=m)(dN:∀x∈rs,x.2.2.size<=1048576)(bQ:LS ss ws=true):Calls prog 138 #[LN a ss.length c a' ws.length c',.slice f rs.length cf,.int .i64 z] w λe w'=>∃a1 c1 aB aP,e=.returned (LN a1 (NW (rs.take (m)) (ss,ws)).1.length c1 aB (NW (rs.take (m)) (ss,ws)).2.length aP)/\OwnD w' a1 (NW (rs.take (m)) (ss,ws)).1 aB (NW (rs.take (m)) (ss,ws)).2/\(∀g,blk a1 (NW (rs.take (m)) (ss,ws)).1.length=some g->w.heap.size<=g)/\(∀g,blk aB (NW (rs.take (m)) (ss,ws)).2.length=some g->w.heap.size<=g)/\Below w.heap.size w w':=by
 obtain⟨⟨eM,cM,dH⟩,cC,hw⟩:=OZ bQ
 have aW:∀o1 o2,Below w.heap.size w ((w.alloc o1).alloc o2):=λo1 o2=>(LG _ _).alloc (by simp) _
 have eL:m<=rs.length:=by rw[<-cS];exact yf _ _
 obtain⟨RS,aN⟩:∃RS,Hid (RS=rs.take (m)):=⟨_,LE rfl⟩;have aC:RS.length=m:=by rw[aN.o];simp;omega
 have cT:Ops w f RS:=by rw[aN.o];exact hz.take (m)
 have dB:Hid (∀x∈RS,x.2.2.size<=1048576):=λx hx=>dN x (by rw[aN.o]at hx;exact DQ hx)
 rw[<-aN.o];obtain⟨aI,aD⟩:∃aI,Hid (aI=NW RS (ss,ws)):=⟨_,LE rfl⟩;rw[<-aD.o];go_enter func138,ntmps138;go_wp2_with fail;refine(UI a ss c a' ws c' _ (h.I (aW _ _)) (h'.I (aW _ _)) (by omega) (by omega) (λs hs=>by have:=cC s hs;omega) (λx hx=>by have:=AZ (hw x hx);omega)).i ?_;rw[bQ];rintro e w1 ⟨rfl,aQ⟩;have cE:=(aW _ _).j (aQ.i (by simp;omega));obtain⟨q1,q2⟩:=ZS aQ;have rR:=(NT (w.alloc (.cells #[.slice a ss.length c,.slice a' ws.length c'] 44)) #[.slice none 0 0,.slice none 0 0] 44 (w.heap.size+1) (by simp)).I aQ;have aG:=LE rR;have aJ:=LE cE;clear rR aQ cE;go_wp2_with fail;refine(aw a ss c a' ws c' _ (h.I aJ.o) (h'.I aJ.o) cM dH (λs hs=>by have:=cC s hs;omega) (λx hx=>by have:=AZ (hw x hx);omega)).i ?_;rintro e w2 ⟨g,v,rfl,bT,aA,hg,aX⟩;clear q1 q2;have aH:=LE (aG.o.I aX);have aU:Hid (w.heap.size+1+1<=g):=by have:=aG.o.lt;show _<=_;omega
 have bW:=LE (Below.then aJ.o (AA _) aX);have eF:g<w2.heap.size:=bT.lt;have eG:=aU.o;rw[<-PL]at aA
 have bJ:∀k,v.ownBlock=some k->g+1<=k/\k<w2.heap.size:=λk hk=>aA.lt k hk
 have cP:DV (w2.alloc (.cells #[.slice (some ⟨g,0,none⟩) ss.length ss.length,v] 136)) (w.heap.size+1+1) w2.heap.size g ss.length v (ss.map LF) (LP ws) :=⟨ME _ _ _,bT.I (MB _ _),(LY aA (MB _ _)).i (by omega),λe=>by have:=bJ _ e;omega,λe=>by have:=bJ _ e;omega,by omega,by omega,by omega⟩
 have aE:w.heap.size+1+1<=(w2.alloc (.cells #[.slice (some ⟨g,0,none⟩) ss.length ss.length,v] 136)).heap.size:=by simp;omega
 have aO:=LE cP;have aM:=LE (aH.o.alloc (.cells #[.slice (some ⟨g,0,none⟩) ss.length ss.length,v] 136));have aL:=LE (Below.then bW.o (AA _) (MB w2 (.cells #[.slice (some ⟨g,0,none⟩) ss.length ss.length,v] 136)))
 obtain⟨av,cv,hv⟩:∃a c,v=.slice a ws.length c:=by
  rw[<-PL];rcases MM aA with ⟨e,h0⟩|⟨g,c,e,_⟩
  ·exact⟨_,_,by rw[e,h0]⟩
  exact⟨_,_,e⟩
 subst hv;have cZ:=LE bQ;clear cP bT aA aX aJ aG bW aH bJ;go_upto_region 4 with fail;obtain⟨wq,aV⟩:∃wq,wq=w2.alloc (.cells #[.slice (some ⟨g,0,none⟩) ss.length ss.length,.slice av ws.length cv] 136):=⟨_,rfl⟩;rw[<-aV]at aO aM aL aE⊢;go_cut [22,23,24] from 16 to 24 (λsv nv iv wx=>sv=.slice f m cf/\nv=.int .i64 (m:Int)/\iv=.int .i64 0/\wx=wq)
 case first =>
  clear aO aM aL aE cT aV;unfold PQ at cS;have eH:¬((cf:Int)<(m:Int)):=by omega
  by_cases h0:z<0
  focus
   obtain rfl:m=0:=by omega
  rotate_left
  focus
   have eN:0<=z:=by omega
   by_cases h1:z<(rs.length:Int)
   focus
    obtain⟨zn,rfl⟩:∃zn:Nat,z=(zn:Int):=⟨z.toNat,by omega⟩;obtain rfl:m=zn:=by omega
   rotate_left
   focus
    obtain rfl:m=rs.length:=by omega
    by_cases h2:z=(rs.length:Int)
    focus
     subst h2
    rotate_left
    focus
     have eO:(rs.length:Int)<z:=by omega
    rotate_left
   rotate_left 2
  rotate_left 3
  all_goals
   go_wp2_with fail;go_meet
   exact⟨by first|rfl|(congr 1;omega),by first|rfl|(congr 1;omega),rfl,rfl⟩
 case rest =>
  obtain⟨rfl,rfl,rfl,dP⟩:=hcut;clear aV;subst dP;go_wp2;go_loopw [9,24] (λ_ i wr=>∃(k:Nat) (d:List ByteArray×List (Int×ByteArray)) (v:Value),k<=m/\i=.int .i64 k/\d.1.length=ss.length/\Hid (LS d.1 d.2=true)/\Hid (NW (RS.drop k) d=aI)/\Hid (DV wr (w.heap.size+1+1) w2.heap.size g ss.length v (d.1.map LF) (LP d.2))/\Hid (Row wr (w.heap.size+1) [.slice none 0 0,.slice none 0 0])/\Hid (Below w.heap.size w wr)/\w.heap.size+1+1<=wr.heap.size) (λ_ i _=>m-(intOf i).toNat)
  case atStart =>
   exact⟨0,(ss,ws),_,AH _,rfl,rfl,cZ,by show _=_;rw[DY,aD.o],aO,aM,aL,aE⟩
  case round =>
   obtain⟨k,d,v,hk,rfl,aR,aS,HK,aF,aG,aK,cQ⟩:=hrel
   by_cases bE:k<m
   ·obtain⟨b,o,s0,n1,s2,rfl,dV,dZ,eB,HS⟩:=(cT.I aK.o).at (k:=k) (by rw[aC];exact bE)
    have bI:(s0,n1,s2)∈RS:=by rw[HS.o];simp[List.getD,aC,bE]
    have dL:s2.size<=1048576:=dB.o _ bI
    have bC:∀ob,Below wr.heap.size wr (wr.alloc ob):=λob=>MB _ _
    have cV:=LE (λob=>xN (w.heap.size+1+1) w2.heap.size g ss.length v d.1 d.2 s0 n1 s2 (wr.alloc ob) (aF.o.I (bC ob)) aR aS.o dL (AL cQ (bC ob).size));go_wp2_with (go_at_call 184;refine(cV.o _).i ?_;rintro e w4 ⟨⟨x,rfl⟩,⟨v',cF⟩,aY⟩);have aT:=LE cF;have b7:=LE (((bC (.cells #[.bool s0,.int .i64 n1,.string s2] 122)).i cQ).j aY)
    have cW:Hid (NW (RS.drop (k+1)) (QJ d (s0,n1,s2))=aI):=by
     show _=_;rw[<-HK.o,RT RS k (false,0,empty) (by rw[aC];exact bE),<-HS.o,NW]
    have dM:=aY.size;clear cF aY;go_wp2;go_roundw
    case rel =>
     exact⟨k+1,_,v',by omega,by go_num,by rw[qH];exact aR,kt d _ aS.o,cW,aT,aG.o.lowB b7.o (by omega),aK.o.j (b7.o.i (by omega)),by simp at dM;omega⟩
    case measure =>
     simp[intOf];omega
   have bU:Hid (d=aI):=by
    have:=HK.o;rw[CX (by rw[aC];omega)]at this;exact this
   clear HK aD aO aM aL;obtain rfl:=bU.o;obtain⟨⟨dF,eJ,eK⟩,bF,cL⟩:=OZ aS.o;have bV:=LE (dy (ws:=d.2) λx hx=>by have:=AZ (cL x hx);omega);obtain⟨a2,c2,hv,cJ⟩:=aF.o.form bV.o;rw[PL]at hv;have q0:=aF.o.rx.x 0;have q1:=aF.o.rx.x 1;rw[hv]at q1;have cX:=LE cJ;clear dF bF cL cJ;go_wp2_with fail;refine(ny (some ⟨g,0,none⟩) (d.1.map LF) ss.length ss.length a2 (LP d.2) d.2.length c2 (by simp[aR]) (PL _) _ aF.o.pr.plt cX.o cM (by omega) aF.o.pr.len bV.o).i ?_;rintro e w5 ⟨a1,c1,aB,aP,rfl,bP,cH,cI,aZ⟩;rw[tf,vw]at bP;have rR:=aG.o.I aZ;have r0:=rR.x 0;have r1:=rR.x 1;obtain⟨dQ,dR⟩:=rR.z2;have cU:=LE (Below.then aK.o (AA _) aZ);have cY:=LE bP;have dU:=aK.o.size
   have cA:Hid (∀g,blk a1 ss.length=some g->w.heap.size+1<g):=λg hg=>by have h1:=cH g hg;omega
   have cB:Hid (∀g,blk aB d.2.length=some g->w.heap.size+1<g):=λg hg=>by have h1:=cI g hg;omega
   clear bP cH cI aZ rR q0 q1;go_wp2;rw[aR];have eE:d.1.length≠0:=by omega
   have cO:∀(wz:World) (u:Value) (i:Nat),OwnD wz a1 d.1 aB d.2->OwnD (wz.setCell ⟨w.heap.size+1,i,none⟩ u) a1 d.1 aB d.2:=λwz u i ho=>by
    refine⟨ho.s.setp _ (λg3 e3 cN e=>?_) _,ho.p.setp _ (λg3 e3 cN e=>?_) _,ho.ne⟩
    ·have:=cA.o g3 (by rw[e3];exact MI g3 0 _ (by omega))
     have e':w.heap.size+1=g3:=e;omega
    have:=cB.o g3 (by rw[e3];exact MI g3 0 _ (λe0=>cN (by rw[AC e0];rfl)))
    have e':w.heap.size+1=g3:=e;omega
   refine AJ (v:=LN a1 ss.length c1 aB d.2.length aP) (by simp[results,results138,go_sem,r0,r1]) rfl ⟨a1,c1,aB,aP,rfl,cO _ _ _ (cO _ _ _ cY.o),λg hg=>by have:=cA.o g hg;omega,λg hg=>by have:=cB.o g hg;omega,?_⟩;exact(cU.o.setCell (by show w.heap.size<=w.heap.size+1;omega) _).setCell (by show w.heap.size<=w.heap.size+1;omega) _
theorem Ad(a:Option Addr)(ss:List ByteArray)(c:Nat)(a':Option Addr)(ws:List (Int×ByteArray))(c':Nat)(f:Option Addr)(rs:List (Bool×Int×ByteArray))(cf:Nat)(z:Int)(w:World)(h:Strs w a ss)(h':Wrs w a' ws)(hz:Ops w f rs)(aC:rs.length<=cf)(aD:rs.length<=1048576)(aF:∀x∈rs,x.2.2.size<=1048576)(aE:LS ss ws=true):Calls prog 138 #[LN a ss.length c a' ws.length c',.slice f rs.length cf,.int .i64 z] w λe w'=>∃a1 c1 aA aB,e=.returned (LN a1 (NW (rs.take (PQ z rs.length)) (ss,ws)).1.length c1 aA (NW (rs.take (PQ z rs.length)) (ss,ws)).2.length aB)/\OwnD w' a1 (NW (rs.take (PQ z rs.length)) (ss,ws)).1 aA (NW (rs.take (PQ z rs.length)) (ss,ws)).2/\(∀g,blk a1 (NW (rs.take (PQ z rs.length)) (ss,ws)).1.length=some g->w.heap.size<=g)/\(∀g,blk aA (NW (rs.take (PQ z rs.length)) (ss,ws)).2.length=some g->w.heap.size<=g)/\Below w.heap.size w w':=by
 exact yS a ss c a' ws c' f rs cf z _ w h h' hz aC aD rfl aF aE
theorem Fb(a:Option Addr)(ss:List ByteArray)(c:Nat)(a':Option Addr)(ws:List (Int×ByteArray))(c':Nat)(v z:Value)(w:World)(h:Strs w a ss)(h':Wrs w a' ws)(hl:ss.length<=1048576)(aD:ws.length<=1048576)(hs:∀s∈ss,s.size<=1048576)(aF:∀x∈ws,x.2.size<=1048576)(aE:LS ss ws=false):Calls prog 138 #[LN a ss.length c a' ws.length c',v,z] w λe w'=>e=.returned (LN none 0 0 none 0 0)/\Below w.heap.size w w':=by
 have aA:∀o1 o2,Below w.heap.size w ((w.alloc o1).alloc o2):=λo1 o2=>(LG _ _).alloc (by simp) _
 go_enter func138,ntmps138;go_wp2_with fail;refine(UI a ss c a' ws c' _ (h.I (aA _ _)) (h'.I (aA _ _)) hl aD hs aF).i ?_;rw[aE];rintro e w1 ⟨rfl,aB⟩;have aC:=LE ((aA _ _).j (aB.i (by simp;omega)));have rR:=(NT (w.alloc (.cells #[.slice a ss.length c,.slice a' ws.length c'] 44)) #[.slice none 0 0,.slice none 0 0] 44 (w.heap.size+1) (by simp)).I aB;have r0:=rR.x 0;have r1:=rR.x 1;obtain⟨aG,aH⟩:=rR.z2;clear rR aB;go_wp2;exact AJ (v:=LN none 0 0 none 0 0) (by simp[results,results138,go_sem,r0,r1]) rfl ⟨rfl,(aC.o.setCell (by show w.heap.size<=w.heap.size+1;omega) _).setCell (by show w.heap.size<=w.heap.size+1;omega) _⟩
def NU(ss:List ByteArray)(ws:List (Int×ByteArray))(rs:List (Bool×Int×ByteArray))(z:Int):List ByteArray×List (Int×ByteArray):=if LS ss ws=true then NW (rs.take (PQ z rs.length)) (ss,ws) else ([],[])
theorem Cm(a:Option Addr)(ss:List ByteArray)(c:Nat)(a':Option Addr)(ws:List (Int×ByteArray))(c':Nat)(f:Option Addr)(rs:List (Bool×Int×ByteArray))(cf:Nat)(z:Int)(w:World)(h:Strs w a ss)(h':Wrs w a' ws)(hz:Ops w f rs)(aD:rs.length<=cf)(aF:rs.length<=1048576)(aH:∀x∈rs,x.2.2.size<=1048576)(hl:ss.length<=1048576)(aE:ws.length<=1048576)(hs:∀s∈ss,s.size<=1048576)(aG:∀x∈ws,x.2.size<=1048576):Calls prog 138 #[LN a ss.length c a' ws.length c',.slice f rs.length cf,.int .i64 z] w λe w'=>∃a1 c1 aB aC,e=.returned (LN a1 (NU ss ws rs z).1.length c1 aB (NU ss ws rs z).2.length aC)/\OwnD w' a1 (NU ss ws rs z).1 aB (NU ss ws rs z).2/\(∀g,blk a1 (NU ss ws rs z).1.length=some g->w.heap.size<=g)/\(∀g,blk aB (NU ss ws rs z).2.length=some g->w.heap.size<=g)/\Below w.heap.size w w':=by
 by_cases aA:LS ss ws=true
 ·have e1:NU ss ws rs z=NW (rs.take (PQ z rs.length)) (ss,ws):=by simp[NU,aA]
  rw[e1];exact Ad a ss c a' ws c' f rs cf z w h h' hz aD aF aH aA
 have e1:NU ss ws rs z=([],[]):=by simp[NU,aA]
 rw[e1];refine(Fb a ss c a' ws c' _ _ w h h' hl aE hs aG (by simpa using aA)).i ?_;rintro e w' ⟨rfl,hb⟩;exact⟨none,0,none,0,rfl,⟨.inl rfl,.inl rfl,.inl rfl⟩,(λg hg=>by cases hg),(λg hg=>by cases hg),hb⟩
structure Ev where
 K:Int
 b:List Ch
 cut:Int
 fs:List Int
def Wo.call(x:Wo)(e:Ev):Dd×Bool :=if e.K=1 then (PC x.ss x.ws x.w,!x.up)
 else if e.K=2 then (RU x.W x.S x.L x.T x.H x.F x.R x.U x.O x.rs e.b,x.up)
 else if e.K=3 then (SN x.W x.S x.L x.T x.H x.F x.R x.U x.O x.rs,x.up)
 else if e.K=4 then (QX x.W x.S x.L x.T x.H x.F x.R x.U x.O x.rs,x.up)
 else (LT 0,false)
def Wo.pow(x:Wo)(fs:List Int):Wo:={ x with ss:=PO fs x.ss x.ws,ws:=[],up:=false,W:=0,S:=0,L:=0,T:=0,H:=0,F:=0,R:=0,U:=0,O:=0,rs:=[] }
def QH(e:Ev)(d:Dd):Bool:=decide (0<=e.cut/\e.cut<=d.ops.length)
def VE(e:Ev)(d:Dd):Nat:=if 0<=e.cut/\e.cut<=d.ops.length then e.cut.toNat else d.ops.length
theorem tz(e:Ev)(d:Dd):VE e d<=d.ops.length:=by unfold VE;split<;>omega
def OJ(aA:List NM):List ByteArray:=aA.filterMap λo=>if o.1=true then none else some o.2.2
theorem xF(l:List NM)(o:NM):OJ (l++[o])=OJ l++(if o.1=true then [] else [o.2.2]):=by
 unfold OJ;rw[List.filterMap_append]
 by_cases h:o.1=true<;>simp[h]
theorem qh(l:List NM):(OJ l).length<=l.length:=List.length_filterMap_le _ _
def QP(x:Wo)(e:Ev)(d:Dd):List ByteArray:=x.ts++OJ (d.ops.take (VE e d))
def OL(x:Wo)(e:Ev)(d:Dd):List (List Pr):=if e.K=2 then x.P++[d.rs] else x.P
def Wo.ran(x:Wo)(e:Ev)(d:Dd):Wo:={ x with ss:=(NU x.ss x.ws d.ops (VE e d)).1,ws:=(NU x.ss x.ws d.ops (VE e d)).2,P:=OL x e d,ts:=QP x e d }
def Wo.upS(x:Wo)(d:Dd):Wo:={ x with up:=true,W:=d.W,S:=d.S,L:=d.L,T:=d.T,H:=d.H,F:=d.F,R:=d.R,U:=d.U,O:=d.O,rs:=d.rs }
def Wo.doE(x:Wo)(e:Ev):Wo :=if e.K=5 then x.pow e.fs
 else if (x.call e).2=false\/(x.call e).1.C≠0 then x
 else if 2000<(QP x e (x.call e).1).length\/200<(OL x e (x.call e).1).length then x
 else if QH e (x.call e).1=true then (x.ran e (x.call e).1).pow e.fs
 else if e.K=2 then (x.ran e (x.call e).1).upS (x.call e).1
 else { (x.ran e (x.call e).1).upS (x.call e).1 with P:=[(x.call e).1.rs] }
structure Wo.ok(x:Wo):Prop where
 d:LS x.ss x.ws=true\/(x.ss=[]/\x.ws=[])
 s:MA x.rs=true
 p:x.P.length<=200/\∀r∈x.P,MA r=true
 t:x.ts.length<=2000/\∀s∈x.ts,s.size<=64
theorem Wo.ok.le{x:Wo}(h:x.ok):x.le 1048576:=by
 have hs:=SG h.s
 have hd:(x.ss.length<=1048576/\∀s∈x.ss,s.size<=1048576)/\(x.ws.length<=1048576/\∀s∈x.ws,s.2.size<=1048576):=by
  rcases h.d with h|⟨h1,h2⟩
  ·obtain⟨⟨h1,h2,h3⟩,h4,h5⟩:=OZ h
   refine⟨⟨by omega,λs hs=>by have:=h4 s hs;omega⟩,by omega,λs hs=>?_⟩;have:=AZ (h5 s hs);omega
  rw[h1,h2];simp
 exact⟨hd.1.1,hd.1.2,hd.2.1,hd.2.2,by omega,hs.2,by have:=h.p.1;omega,λr hr=>by have:=SG (h.p.2 r hr);exact⟨by omega,this.2⟩,by have:=h.t.1;omega,λs hs=>by have:=h.t.2 s hs;omega⟩
theorem fk(k l m:Int)(p:ByteArray)(n:Int):(MP k l m p n).size<=64:=by
 unfold MP
 split
 ·rename_i h
  have hd:=AZ (by unfold NI at h;exact h);rw[eo _ _ _ _ _ (by omega)];exact AA _
 simp
theorem uz(s:ByteArray)(l f:Int)(n m:Nat):∀p∈NQ s l f n m,p.size<=64:=by
 unfold NQ
 split
 ·intro p hp
  obtain⟨i,_,rfl⟩:=CE.1 hp;exact fk _ _ _ _ _
 simp
theorem p5(q:Int)(l:List ByteArray)(h:∀p∈l,p.size<=64):∀o∈MG q l,o.2.2.size<=64:=by
 intro o ho;obtain⟨i,hi,rfl⟩:=List.mem_mapIdx.1 ho;exact h _ (KV _)
theorem Ga(L F:Int)(n m:Nat)(aA:List (List Ch)):∀p∈OD L F n m aA,p.size<=64:=by
 have aC:∀(aA:List (List Ch)) (aB:List ByteArray),(∀p∈aB,p.size<=64)->∀p∈aA.foldl (qw L F n m) aB,p.size<=64:=by
  intro aA
  induction aA with
  | nil=>intro aB h;exact h
  | cons b aA ih =>
   intro aB h;refine ih _ ?_;unfold qw;intro p hp;rcases BP.1 hp with hp|hp
   ·exact h p hp
   exact uz _ _ _ _ _ p hp
 refine aC aA _ ?_;intro p hp;rw[EH.1 hp];exact fk _ _ _ _ _
def Dd.ok(d:Dd):Prop:=MA d.rs=true/\d.ops.length<=1000/\∀o∈d.ops,o.2.2.size<=64
theorem YM(C:Int):(LT C).ok:=⟨UR,by simp[LT],by simp[LT]⟩
theorem oZ(W S L T H F:Int)(rs:List Pr)(h:MA rs=true)(hl:(OY W S L T H F rs).ops.length<=1000):(OY W S L T H F rs).ok:=by
 refine⟨?_,hl,?_⟩<;>unfold OY<;>split
 ·exact h
 ·exact UR
 ·intro o ho
  unfold WO at ho;simp only[BP,DK,EN,IY]at ho;rcases ho with ho|rfl|rfl|rfl
  ·exact p5 _ _ (Ga _ _ _ _ _) o ho
  ·simp
  ·show(ON _ _ _ _ _).size<=64
   unfold ON
   split
   ·exact fk _ _ _ _ _
   simp
  simp
 simp[LT]
theorem wT(W S L T H F R U O:Int)(rs:List Pr)(b:List Ch):(RU W S L T H F R U O rs b).ok:=by
 have hb:=(wU W S L T H F R U O rs b).2
 refine⟨?_,hb,?_⟩<;>unfold RU<;>(repeat' split)<;>first|exact UR|(simp[LT];done)|skip
 ·rename_i h _ _
  show MA (OR rs b)=true;unfold OR;rw[AK h];exact gc h
 exact p5 _ _ (uz _ _ _ _ _)
theorem xR(W S L T H F R U O:Int)(rs:List Pr):(SN W S L T H F R U O rs).ok:=by
 unfold SN
 split
 ·rename_i h
  obtain⟨_,_,_,_,_,_,_,_,h9⟩:=ca h
  exact⟨by first|exact h9|exact h9.1,by simp,by simp⟩
 exact YM 1
theorem H7(W S L T H F R U O:Int)(rs:List Pr)(hl:rs.length<=1048576):(QX W S L T H F R U O rs).ok:=by
 have hb:=(Gm W S L T H F R U O rs hl).2;unfold QX at hb⊢
 split
 ·rename_i h
  rw[AK h]at hb;obtain⟨_,_,_,_,_,_,_,_,h9⟩:=ca h;exact oZ _ _ _ _ _ _ _ (by first|exact h9|exact h9.1) hb
 exact YM 1
theorem zY(ss:List ByteArray)(ws:List (Int×ByteArray))(n:Int):(PC ss ws n).ok:=by
 have hb:=(Hk ss ws n).2;unfold PC at hb⊢
 split
 ·rename_i h
  rw[AK h]at hb
  cases hf:NF (OM ss ws n).1 [] with
  | none=>exact YM 2
  | some rs =>
   rw[hf]at hb;have hs:=bn _ _ UR _ hf;simp only at hb⊢
   split
   ·exact YM 3
   rename_i h3
   rw[AE h3]at hb
   split
   ·exact YM 4
   rename_i h4
   rw[AE h4]at hb
   split
   ·rename_i h5
    rw[AK h5]at hb;exact oZ _ _ _ _ _ _ _ hs hb
   refine⟨hs,by simp,?_⟩
   intro o ho;simp only[DK,EN,IY]at ho;rcases ho with rfl|rfl
   ·exact fk _ _ _ _ _
   simp
 exact YM 1
theorem Wo.ok.call{x:Wo}(h:x.ok)(e:Ev):(x.call e).1.ok:=by
 have:=(SG h.s).1;unfold Wo.call
 split
 ·exact zY _ _ _
 split
 ·exact wT _ _ _ _ _ _ _ _ _ _ _
 split
 ·exact xR _ _ _ _ _ _ _ _ _ _
 split
 ·exact H7 _ _ _ _ _ _ _ _ _ _ (by omega)
 exact YM 0
theorem nw(zs:List Int):∀(hs:List (Int×List Int)) (i:Nat) (ps:List (List Int)),(∀p∈hs,p.2.length=64)->(∀p∈ps,p.length=64)->∀p∈QF zs i hs ps,p.length=64
 | [],_,_,_,h2=>h2
 | x::r,i,ps,h1,h2=>by
  rw[QF]
  by_cases hk:x.1.toNat<ps.length
  ·refine nw zs r (i+1) _ (λp hp=>h1 p (BQ _ hp)) (λp hp=>?_)
   rcases EI hp with hp|rfl
   ·exact h2 p hp
   have e1:=h1 x DZ
   have e2:=h2 (ps.getD x.1.toNat []) (by simp[List.getD,hk]);unfold RH;simp only[AF,BC,BU];omega
  rw[List.set_eq_of_length_le (by omega)]
  exact nw zs r (i+1) _ (λp hp=>h1 p (BQ _ hp)) h2
theorem E0(fs:List Int)(ss:List ByteArray)(ws:List (Int×ByteArray))(h:LS ss ws=true):∀s∈NK (QF fs 0 (LP ws) (ss.map LF)),(s.size:Int)=64:=by
 obtain⟨_,h4,h5⟩:=OZ h;intro s hs;obtain⟨l,hl,rfl⟩:=CE.1 hs
 have:=nw fs (LP ws) 0 (ss.map LF) (λp hp=>by
  obtain⟨x,hx,rfl⟩:=CE.1 hp;have:=(ZE (h5 x hx)).2
  simp only[ML];omega) (λp hp=>by
  obtain⟨x,hx,rfl⟩:=CE.1 hp;have:=h4 x hx
  simp only[ML];omega) l hl
 rw[BS,this];rfl
theorem uU(fs:List Int)(ss:List ByteArray)(ws:List (Int×ByteArray)):LS (PO fs ss ws) []=true\/(PO fs ss ws=[]/\([]:List (Int×ByteArray))=[]):=by
 unfold PO
 split
 ·rename_i h
  refine .inl ?_;obtain⟨⟨h1,h2,h3⟩,h4,h5⟩:=OZ h;refine lj ⟨by simp[NK,ZG];omega,by simp[NK,ZG];omega,by simp⟩ (λs hs=>?_) (by simp);exact E0 fs ss ws h s hs
 exact .inr ⟨rfl,rfl⟩
theorem Wo.ok.pow{x:Wo}(h:x.ok)(fs:List Int):(x.pow fs).ok:=⟨uU fs x.ss x.ws,UR,h.p,h.t⟩
theorem sZ(ss:List ByteArray)(ws:List (Int×ByteArray))(aA:List NM)(z:Int):LS (NU ss ws aA z).1 (NU ss ws aA z).2=true\/((NU ss ws aA z).1=[]/\(NU ss ws aA z).2=[]):=by
 unfold NU
 split
 ·rename_i h;exact .inl (uf _ (ss,ws) h)
 exact .inr ⟨rfl,rfl⟩
theorem Wo.ok.ran{x:Wo}(h:x.ok)(e:Ev){d:Dd}(hd:d.ok)(hn:(QP x e d).length<=2000/\(OL x e d).length<=200):(x.ran e d).ok:=by
 obtain⟨h1,h2,h3⟩:=hd
 have aA:∀s∈QP x e d,s.size<=64:=by
  intro s hs;rcases BP.1 hs with hs|hs
  ·exact h.t.2 s hs
  obtain⟨o,ho,he⟩:=List.mem_filterMap.1 hs
  split at he
  ·cases he
  injection he with he
  rw[<-he];exact h3 o (DQ ho)
 have hP:∀r∈OL x e d,MA r=true:=by
  unfold OL
  split
  ·intro r hr
   rcases BP.1 hr with hr|hr
   ·exact h.p.2 r hr
   rw[EH.1 hr];exact h1
  exact h.p.2
 exact⟨sZ _ _ _ _,h.s,⟨hn.2,hP⟩,⟨hn.1,aA⟩⟩
theorem Wo.ok.doE{x:Wo}(h:x.ok)(e:Ev):(x.doE e).ok:=by
 have hd:=h.call e;unfold Wo.doE;generalize (x.call e)=c at hd⊢;obtain⟨d,aB⟩:=c;obtain⟨h1,h2,h3⟩:=hd
 split
 ·exact h.pow _
 split
 ·exact h
 split
 ·exact h
 rename_i hn
 simp only at hn h1 h2 h3⊢;have aA:=h.ran e (d:=d) ⟨h1,h2,h3⟩ (by omega)
 split
 ·exact aA.pow _
 split
 ·exact⟨aA.d,h1,aA.p,aA.t⟩
 exact⟨aA.d,h1,⟨by simp,λr hr=>by rw[EH.1 hr];exact h1⟩,aA.t⟩
structure Win(lo hi:Nat)(w w':World):Prop where
 os:w'.os=w.os
 tape:w'.tape=w.tape
 output:w'.output=w.output
 size:w.heap.size<=w'.heap.size
 block:∀b,b<w.heap.size->(b<lo\/hi<=b)->w'.heap[b]?=w.heap[b]?
theorem Win.refl(lo hi:Nat)(w:World):Win lo hi w w:=⟨rfl,rfl,rfl,AA _,λ_ _ _=>rfl⟩
theorem Win.j{c:World}(h:Win lo hi a b)(k:Win lo hi b c):Win lo hi a c :=⟨k.os.j h.os,k.tape.j h.tape,k.output.j h.output,AL h.size k.size,λi hi hr=>(k.block i (AD hi h.size) hr).j (h.block i hi hr)⟩
theorem Win.wide{aB:Nat}(h:Win lo hi a b)(h1:aB<=lo)(h2:hi<=aA):Win aB aA a b:=⟨h.os,h.tape,h.output,h.size,λi hi hr=>h.block i hi (by omega)⟩
theorem G7(h:Below a.heap.size a b):Win lo hi a b:=⟨h.os,h.tape,h.output,h.size,λi hi _=>h.block i hi⟩
theorem pO(h:a.grownBy b r)(hr:∀g,r=some g->lo<=g/\g<hi):Win lo hi a b :=⟨h.os,h.tape,h.output,h.size,λi hi hn=>h.block i hi (λe=>by have:=hr i e.symm;omega)⟩
theorem Win.I{B:Nat}(h:Win lo hi a b)(h1:B<=lo)(h2:B<=a.heap.size):Below B a b:=⟨h.os,h.tape,h.output,h.size,λk hk=>h.block k (by omega) (by omega)⟩
theorem Row.win(r:Row w g cs)(h:Win lo hi w w')(hg:g<lo\/hi<=g):Row w' g cs:=QW r (h.block g r.lt hg) (AD r.lt h.size)
theorem Dep.win{aC:Nat}{F:World->Prop}(h:Dep w lo hi F)(k:Win aC aA w w')(hr:hi<=aC\/aA<=lo):Dep w' lo hi F:=by
 have aB:∀b,lo<=b->b<hi->w'.heap[b]?=w.heap[b]?:=λb h1 h2=>k.block b (AD h2 h.top) (by omega)
 exact⟨h.keep w' aB (AL h.top k.size),AL h.top k.size,λw2 h2 h3=>h.keep w2 (λb h4 h5=>(h2 b h4 h5).j (aB b h4 h5)) h3⟩
def NL(P:List (List (ByteArray×ByteArray))):Nat:=(P.map List.length).sum
theorem qV(P:List (List (ByteArray×ByteArray)))(j:Nat)(h:j<P.length):NL (P.take (j+1))=NL (P.take j)+(P.getD j []).length:=by
 unfold NL;rw[AQ h,BK,GI];simp[List.getD,h]
theorem sp(P:List (List (ByteArray×ByteArray)))(j:Nat):NL (P.take j)<=NL P:=by
 have e:NL (P.take j++P.drop j)=NL (P.take j)+NL (P.drop j):=by unfold NL;rw[BK,GI]
 rw[ES]at e;omega
theorem yw:∀(l:List Nat) (x:Int),0<=x->0<=LO l x->((l.sum:Nat):Int)<=x
 | [],x,h,_=>by simpa using h
 | n::r,x,h,hz=>by
  by_cases hn:x-(n:Int)<0
  ·rw[UF r hn]at hz;omega
  rw[TI r hn]at hz
  have:=yw r (x-n) (by omega) hz;rw[List.sum_cons];omega
theorem sg:∀P:List (List (ByteArray×ByteArray)),NL P<=(P.flatMap PT).sum
 | []=>by simp[NL]
 | r::P=>by
  have:=sg P;unfold NL at this⊢;rw[GL,GI,FD,List.sum_cons];unfold PT at this⊢;rw[List.sum_cons];omega
theorem Ex(x:Wo)(h:0<=LO (QV x) 1048576):NL x.P<=1048576:=by
 have h1:=yw (QV x) 1048576 (by omega) h;have h2:=sg x.P;unfold QV at h1;rw[GI,GI,GI,List.sum_cons]at h1;omega
section
structure Only(o:Nat->Nat)(K:Nat->Prop)(w w':World):Prop where
 os:w'.os=w.os
 tape:w'.tape=w.tape
 output:w'.output=w.output
 size:w.heap.size<=w'.heap.size
 block:∀b,b<w.heap.size->¬K (o b)->w'.heap[b]?=w.heap[b]?
def OwL(w:World)(o:Nat->Nat)(k:Nat)(a:Option Addr)(cs:List Value):Prop:=cs=[]\/∃g,a=some ⟨g,0,none⟩/\Row w g cs/\o g=k
def PsR(w:World)(o:Nat->Nat)(p:Option Addr)(n:Nat)(R:Nat->List Pr):Prop :=n=0\/∃b,p=some ⟨b,0,none⟩/\b<w.heap.size/\o b=5/\∀i,i<n->∃p' c',w.cell? ⟨b,i,none⟩=some (.slice p' (R i).length c')/\OwL w o (7+i) p' (LI (R i))
section
variable {w w' v:World} {o o':Nat->Nat} {k:Nat} {a p:Option Addr} {cs:List Value} {r:Option Nat} {K K':Nat->Prop} {n:Nat} {R R':Nat->List Pr} {rs:List Pr}
theorem Only.j(h:Only o K w w')(h':Only o K w' v):Only o K w v :=⟨h'.os.j h.os,h'.tape.j h.tape,h'.output.j h.output,AL h.size h'.size,λb hb hk=>(h'.block b (AD hb h.size) hk).j (h.block b hb hk)⟩
theorem Only.i(h:Only o K w w')(hk:∀k,K k->K' k):Only o K' w w':=⟨h.os,h.tape,h.output,h.size,λb hb k=>h.block b hb (λe=>k (hk _ e))⟩
theorem XP(h:Below w.heap.size w w'):Only o K w w':=⟨h.os,h.tape,h.output,h.size,λb hb _=>h.block b hb⟩
theorem VH(h:w.grownBy w' r)(hr:∀g,r=some g->K (o g)):Only o K w w':=⟨h.os,h.tape,h.output,h.size,λb hb k=>h.block b hb (λe=>k (hr b e.symm))⟩
theorem Only.win(h:Only o (λk=>k≠0) w w')(ho:∀b,o b≠0->lo<=b/\b<hi):Win lo hi w w':=⟨h.os,h.tape,h.output,h.size,λb hb k=>h.block b hb (λe=>by have:=ho b e;omega)⟩
theorem OwL.own(h:OwL w o k a cs):OwnS w a cs:=h.imp_right λ⟨g,e,h,_⟩=>⟨g,e,h⟩
theorem mv(h:OwnS w a cs)(ho:∀g,a=some ⟨g,0,none⟩->cs≠[]->o g=k):OwL w o k a cs:=by
 by_cases hc:cs=[]
 ·exact .inl hc
 obtain⟨g,h1,h2⟩:=h.resolve_left hc
 exact .inr ⟨g,h1,h2,ho g h1 hc⟩
theorem OwL.only(h:OwL w o k a cs)(hc:Only o K w w')(hk:¬K k):OwL w' o k a cs :=h.imp_right λ⟨g,e,h,n⟩=>⟨g,e,QW h (hc.block g h.lt (by rw[n];exact hk)) (AD h.lt hc.size),n⟩
theorem OwL.lab(h:OwL w o k a cs)(ho:∀b,b<w.heap.size->o' b=o b):OwL w o' k a cs:=h.imp_right λ⟨g,e,h,n⟩=>⟨g,e,h,(ho g h.lt).j n⟩
theorem OwL.gb{m:Nat}(h:OwL w o k a cs)(hm:cs=[]->m=0)(e:blk a m=some g):o g=k:=by
 rcases h with h|⟨b,rfl,h,n⟩
 ·rw[hm h]at e;simp[blk]at e
 rw[WJ e];exact n
theorem OwL.prb(h:OwL w o k a (LI rs))(e:blk a rs.length=some g):o g=k:=h.gb (λe=>by have:=BT List.length e;rw[RC,AR]at this;omega) e
theorem PsR.only(h:PsR w o p n R)(hc:Only o K w w')(h5:¬K 5)(h7:∀i,¬K (7+i)):PsR w' o p n R :=h.imp_right λ⟨b,e,hl,h5',hs⟩=>⟨b,e,AD hl hc.size,h5',λi hi=>by
  obtain⟨p',c',h1,h2⟩:=hs i hi
  exact⟨p',c',(CW (a:=⟨b,i,none⟩) (hc.block b hl (by rw[h5'];exact h5))).j h1,h2.only hc (h7 i)⟩⟩
theorem PsR.lab(h:PsR w o p n R)(ho:∀b,b<w.heap.size->o' b=o b):PsR w o' p n R :=h.imp_right λ⟨b,e,hl,h5',hs⟩=>⟨b,e,hl,(ho b hl).j h5',λi hi=>by
  obtain⟨p',c',h1,h2⟩:=hs i hi
  exact⟨p',c',h1,h2.lab ho⟩⟩
theorem PsR.congr(h:PsR w o p n R)(he:∀i,i<n->R i=R' i):PsR w o p n R' :=h.imp_right λ⟨b,e,hl,h5',hs⟩=>⟨b,e,hl,h5',λi hi=>by rw[<-he i hi];exact hs i hi⟩
theorem PsR.put(h:PsR w o p n R){j:Nat}(hj:j<n):∃b p' c',p=some ⟨b,0,none⟩/\b<w.heap.size/\w.cell? ⟨b,j,none⟩=some (.slice p' (R j).length c')/\OwL w o (7+j) p' (LI (R j))/\∀w' S,w.grownBy w' (blk p' (R j).length)->OwnS w' p' (LI S)->S.length=(R j).length->PsR w' o p n (λi=>if i=j then S else R i):=by
 obtain⟨b,e,hl,h5,hs⟩:=h.resolve_left (by omega);obtain⟨p',c',h1,h2⟩:=hs j hj;refine⟨b,p',c',e,hl,h1,h2,λw' S hg ho hS=>.inr ⟨b,e,AD hl hg.size,h5,λi hi=>?_⟩⟩;have hc:Only o (λk=>k=7+j) w w':=VH hg (λg k=>h2.prb k);obtain⟨p2,c2,h3,h4⟩:=hs i hi;have aB:=(CW (a:=⟨b,i,none⟩) (hc.block b hl (by rw[h5];omega))).j h3
 by_cases aA:i=j
 ·subst aA
  obtain⟨rfl,_,rfl⟩:p2=p'/\True/\c2=c':=by rw[h1]at h3;injection h3 with h3;injection h3 with e1 e2 e3;exact⟨e1.symm,trivial,e3.symm⟩
  refine⟨p2,c2,?_,?_⟩
  ·simp only[IK];rw[hS];exact aB
  simp only[IK]
  exact mv ho (λg e1 e2=>h2.gb (m:=1) (λe=>absurd (AC (by have:=BT List.length e;rw[RC,AR]at this;omega:S.length=0)) (λe=>e2 (by rw[e];rfl))) (by rw[e1];rfl))
 refine⟨p2,c2,?_,?_⟩
 ·simp only[AE aA];exact aB
 simp only[AE aA];exact h4.only hc (by omega)
end
abbrev UY(w:World)(o:Nat->Nat)(p:Option Addr)(P:List (List Pr)):Prop:=PsR w o p P.length (λi=>P.getD i [])
theorem PsR.pst{o:Nat->Nat}{P:List (List Pr)}(h:UY w o p P):Pst w p P:=by
 rcases h with h|⟨b,e,hl,h5,hs⟩
 ·exact .inl (AC h)
 refine .inr ⟨b,0,e,hl,λi hi=>?_⟩
 obtain⟨p',c',h1,h2⟩:=hs i hi;exact⟨p',c',by rw[BF];exact h1,h2.own.prs⟩
structure WoG(c1 c2 c3:List Value)(n:Nat)(R:Nat->List Pr)(c5:List Value)(w:World)(q:Wp)(o:Nat->Nat):Prop where
 h1:OwL w o 1 q.a c1
 h2:OwL w o 2 q.a' c2
 h3:OwL w o 3 q.s c3
 h4:PsR w o q.p n R
 h5:OwL w o 4 q.t c5
section
variable {c1 c2 c3:List Value} {n:Nat} {R:Nat->List Pr} {c5:List Value} {w w':World} {q:Wp} {o o':Nat->Nat} {K:Nat->Prop}
theorem WoG.only(h:WoG c1 c2 c3 n R c5 w q o)(hc:Only o K w w')(hk:∀k,K k->k=0):WoG c1 c2 c3 n R c5 w' q o :=⟨h.h1.only hc (λk=>nomatch hk _ k),h.h2.only hc (λk=>nomatch hk _ k),h.h3.only hc (λk=>nomatch hk _ k),h.h4.only hc (λk=>nomatch hk _ k) (λi k=>by have:=hk _ k;omega),h.h5.only hc (λk=>nomatch hk _ k)⟩
theorem WoG.I(h:WoG c1 c2 c3 n R c5 w q o)(hb:Below w.heap.size w w'):WoG c1 c2 c3 n R c5 w' q o:=h.only (XP (K:=λ_=>False) hb) (λ_ k=>k.elim)
theorem WoG.z(h:WoG c1 c2 c3 n R c5 w q o)(hg:w.grownBy w' (some g))(h0:o g=0):WoG c1 c2 c3 n R c5 w' q o:=h.only (VH (K:=λk=>k=0) hg (λ_ e=>by cases e;exact h0)) (λ_ k=>k)
theorem WoG.lab(h:WoG c1 c2 c3 n R c5 w q o)(ho:∀b,b<w.heap.size->o' b=o b):WoG c1 c2 c3 n R c5 w q o':=⟨h.h1.lab ho,h.h2.lab ho,h.h3.lab ho,h.h4.lab ho,h.h5.lab ho⟩
theorem WoG.dep(h:WoG c1 c2 c3 n R c5 w q o)(ho:∀b,o b≠0->lo<=b/\b<hi)(hh:hi<=w.heap.size):Dep w lo hi (λW=>WoG c1 c2 c3 n R c5 W q o) :=⟨h,hh,λw' h1 h2=>by
  have key:∀ {k:Nat} {a:Option Addr} {cs:List Value},0<k->OwL w o k a cs->OwL w' o k a cs:=λhk h=>h.imp_right λ⟨g,e,r,n⟩=>by have:=ho g (by omega);exact⟨g,e,QW r (h1 g this.1 this.2) (by omega),n⟩
  refine⟨key (by omega) h.h1,key (by omega) h.h2,key (by omega) h.h3,h.h4.imp_right λ⟨b,e,hl,h5',hs⟩=>?_,key (by omega) h.h5⟩;have:=ho b (by omega);refine⟨b,e,by omega,h5',λi hi=>?_⟩;obtain⟨p',c',k1,k2⟩:=hs i hi
  exact⟨p',c',(CW (a:=⟨b,i,none⟩) (h1 b this.1 this.2)).j k1,key (by omega) k2⟩⟩
end
abbrev OO(x:Wo)(w:World)(q:Wp)(o:Nat->Nat):Prop:=WoG (x.ss.map Value.string) (LU x.ws) (LI x.rs) x.P.length (λi=>x.P.getD i []) (x.ts.map Value.string) w q o
theorem WoG.at{x:Wo}{q:Wp}{o:Nat->Nat}(h:OO x w q o):x.at w q:=⟨h.h1.own.strs,h.h2.own.wrs,h.h3.own.prs,PsR.pst h.h4,h.h5.own.strs⟩
end
section
def PstF(w:World)(F:Nat->Prop)(p:Option Addr)(P:List (List Pr)):Prop :=P=[]\/∃b o,p=some ⟨b,o,none⟩/\b<w.heap.size/\F b/\∀i,i<P.length->∃p' c',w.cell? ⟨b,o+i,none⟩=some (.slice p' (P.getD i []).length c')/\DepF w F (λW=>Prs W p' (P.getD i []))
section
variable {w w':World} {F G:Nat->Prop} {p:Option Addr} {P:List (List Pr)}
theorem PstF.step(h:PstF w F p P)(h0:Below 0 w w')(hk:∀b,F b->b<w.heap.size->w'.heap[b]?=w.heap[b]?):PstF w' F p P:=by
 rcases h with h|⟨b,o,h1,h2,h3,h4⟩
 ·exact .inl h
 refine .inr ⟨b,o,h1,AD h2 h0.size,h3,λi hi=>?_⟩
 obtain⟨p',c',h5,h6⟩:=h4 i hi;exact⟨p',c',(CW (a:=⟨b,o+i,none⟩) (hk b h3 h2)).j h5,h6.step h0 hk⟩
theorem PstF.i(h:PstF w F p P)(hF:∀b,b<w.heap.size->F b->G b):PstF w G p P:=by
 rcases h with h|⟨b,o,h1,h2,h3,h4⟩
 ·exact .inl h
 refine .inr ⟨b,o,h1,h2,hF b h2 h3,λi hi=>?_⟩
 obtain⟨p',c',h5,h6⟩:=h4 i hi;exact⟨p',c',h5,h6.i hF⟩
theorem PstF.pst(h:PstF w F p P):Pst w p P:=by
 rcases h with h|⟨b,o,h1,h2,h3,h4⟩
 ·exact .inl h
 refine .inr ⟨b,o,h1,h2,λi hi=>?_⟩
 obtain⟨p',c',h5,h6⟩:=h4 i hi;exact⟨p',c',h5,h6.l⟩
theorem PstF.I(h:PstF w F p P)(hb:Below w.heap.size w w'):PstF w' F p P:=h.step (hb.i (AH _)) (λb _ hl=>hb.block b hl)
end
structure WoF(x:Wo)(w:World)(F:Nat->Prop)(q:Wp):Prop where
 h1:DepF w F (λW=>Strs W q.a x.ss)
 h2:DepF w F (λW=>Wrs W q.a' x.ws)
 h3:DepF w F (λW=>Prs W q.s x.rs)
 h4:PstF w F q.p x.P
 h5:DepF w F (λW=>Strs W q.t x.ts)
section
variable {x:Wo} {w w':World} {F G:Nat->Prop} {q:Wp}
theorem WoF.step(h:WoF x w F q)(h0:Below 0 w w')(hk:∀b,F b->b<w.heap.size->w'.heap[b]?=w.heap[b]?):WoF x w' F q:=⟨h.h1.step h0 hk,h.h2.step h0 hk,h.h3.step h0 hk,h.h4.step h0 hk,h.h5.step h0 hk⟩
theorem WoF.I(h:WoF x w F q)(hb:Below w.heap.size w w'):WoF x w' F q:=h.step (hb.i (AH _)) (λb _ hl=>hb.block b hl)
theorem WoF.z(h:WoF x w F q)(hg:w.grownBy w' r)(hr:∀g,r=some g->¬F g):WoF x w' F q :=h.step (NE hg (AH _) (λ_ _=>AH _)) (λb hb hl=>hg.block b hl (λe=>hr b e.symm hb))
theorem WoF.i(h:WoF x w F q)(hF:∀b,b<w.heap.size->F b->G b):WoF x w G q:=⟨h.h1.i hF,h.h2.i hF,h.h3.i hF,h.h4.i hF,h.h5.i hF⟩
theorem WoF.at(h:WoF x w F q):x.at w q:=⟨h.h1.l,h.h2.l,h.h3.l,h.h4.pst,h.h5.l⟩
end
def th(w w':World)(F:Nat->Prop)(e:Ending)(x:Wo):Prop:=∃q,e=.returned (MD x q)/\WoF x w' (λb=>F b\/w.heap.size<=b) q/\Below w.heap.size w w'
theorem Bw{P:List (List Pr)}(h:PstF w F p P):∃news:List Value,news.length=P.length/\(∀u∈news,u.oneCell'=true)/\(∀i,i<P.length->∃p' c',news[i]?=some (.slice p' (P.getD i []).length c')/\DepF w F (λW=>Prs W p' (P.getD i [])))/\(P=[]\/∃b o,p=some ⟨b,o,none⟩/\b<w.heap.size/\∀i u,news[i]?=some u->w.cell? ⟨b,o+i,none⟩=some u):=by
 rcases h with h|⟨b,o,h1,h2,h3,h4⟩
 ·exact⟨[],by simp[h],by simp,by simp[h],.inl h⟩
 have hc:∀i,i<P.length->∃u,w.cell? ⟨b,o+i,none⟩=some u:=λi hi=>by obtain⟨p',c',h5,_⟩:=h4 i hi;exact⟨_,h5⟩
 refine⟨(List.range P.length).map λi=>(w.cell? ⟨b,o+i,none⟩).getD undef,by simp,λu hu=>?_,λi hi=>?_,.inr ⟨b,o,h1,h2,λi u hu=>?_⟩⟩
 ·obtain⟨i,hi,rfl⟩:=CE.1 hu
  obtain⟨p',c',h5,_⟩:=h4 i (GS.1 hi);rw[h5];rfl
 ·obtain⟨p',c',h5,h6⟩:=h4 i hi
  exact⟨p',c',by simp[hi,h5],h6⟩
 obtain⟨hi,e⟩:=CA.1 hu
 simp only[BJ,KL]at hi;obtain⟨p',c',h5,_⟩:=h4 i hi;rw[<-e];simp[h5]
theorem WU(w:World)(o:Obj):Below w.heap.size w (w.alloc o):=LG _ _
theorem ae(b j:Nat):(⟨b,0,none⟩:Addr).add j=⟨b,j,none⟩:=by unfold Addr.add;split<;>simp_all
theorem dx(x:Int)(h0:-9223372036854775808<=x)(h1:x<=9223372036854775807):IntKind.i64.wrap x=x:=by
 simp[IntKind.wrap,IntKind.bits,IntKind.signed];omega
theorem vq{i:Nat}{v:Value}(h:w.cell? ⟨g,i,none⟩=some v):g<w.heap.size:=by
 by_cases hg:g<w.heap.size
 ·exact hg
 simp[World.cell?,DW (by omega:w.heap.size<=g)]at h
theorem cq{e:TypeId}{size:Nat}{n cap:Nat}{xs:List Value}(h:w.ownsRow base e size (.slice (some ⟨g,0,none⟩) n cap) n xs):base<=g:=by
 rcases h.2 with h|⟨g',aA,cur,h1,h2,_⟩
 ·cases h.1
 injection h1 with h1
 injection h1 with h1;injection h1 with h1;omega
theorem Gz{Q:List (List Pr)}(h:PstF w F p Q)(t e:TypeId)(ht:P.underlying t=some (.slice e))(c:Nat):∃news,(∀w',Below w.heap.size w w'->Src P 1 t (.slice p Q.length c) Q.length news w')/\news.length=Q.length/\(∀i,i<Q.length->∃p' c',news[i]?=some (.slice p' (Q.getD i []).length c')/\DepF w F (λW=>Prs W p' (Q.getD i []))):=by
 obtain⟨news,h1,h2,h3,h4⟩:=Bw h;refine⟨news,λw' hb=>?_,h1,h3⟩;rcases h4 with h4|⟨b,o,rfl,hl,h5⟩
 ·subst h4
  have:news=[]:=AC h1;subst this
  cases p with
  | none=>exact Src.ofNil w' ht c
  | some x=>exact Src.ofSlice w' ht x 0 c [] (by simp) (by simp) (by simp)
 refine Src.ofSlice w' ht ⟨b,o,none⟩ Q.length c news (by omega) (λj u hu=>?_) h2
 have ha:(⟨b,o,none⟩:Addr).add j=⟨b,o+j,none⟩:=by unfold Addr.add;split<;>simp_all
 rw[ha];exact(hb.cell (p:=⟨b,o+j,none⟩) hl).j (h5 j u hu)
theorem fa{G:Nat->Prop}{P:List (List Pr)}{rs:List Pr}{news:List Value}{oa:Option Addr}{oc:Nat}(hl:news.length=P.length)(h:∀i,i<P.length->∃p' c',news[i]?=some (.slice p' (P.getD i []).length c')/\DepF w F (λW=>Prs W p' (P.getD i [])))(hr:Row w g (news++[.slice oa rs.length oc]))(hg:F g)(hd:DepF w F (λW=>Prs W oa rs)):PstF w F (some ⟨g,0,none⟩) (P++[rs]):=by
 refine .inr ⟨g,0,rfl,hr.lt,hg,λi hi=>?_⟩;rw[AF,EQ]at hi
 by_cases h2:i<P.length
 ·obtain⟨p',c',h3,h4⟩:=h i h2
  have e:(P++[rs]).getD i []=P.getD i []:=by simp[List.getD,AX h2]
  rw[e,BF];exact⟨p',c',hr.cell i _ (by rw[AX (by omega)];exact h3),h4⟩
 obtain rfl:i=P.length:=by omega
 have e:(P++[rs]).getD P.length []=rs:=by simp[List.getD]
 rw[e,BF];exact⟨oa,oc,hr.cell _ _ (by rw[<-hl];simp),hd⟩
theorem Aj{rs:List Pr}{oa:Option Addr}{oc:Nat}(hr:Row w g [.slice oa rs.length oc])(hg:F g)(hd:DepF w F (λW=>Prs W oa rs)):PstF w F (some ⟨g,0,none⟩) [rs] :=fa (G:=F) (P:=[]) (news:=[]) rfl (λi hi=>absurd hi (by simp)) hr hg hd
theorem tw(t ty e:TypeId)(i:TypeInfo)(z:Value)(size aB:Nat)(ht:P.underlying t=some (.slice e))(hi:P.info? e=some i)(hz:i.zero=some z)(aD:i.size=size)(aJ:i.bytes=aB)(aL:z.cells.size=size)
  (b B:Nat)(h0:w.ownsRow B e size (.slice (some ⟨b,0,none⟩) 0 0) 0 [])(v:Value)(n:Nat)(news:List Value)(aA:Src P size t v n news w)(hn:n<=1048576)(aI:n*aB<=281474976710656)(hB:B<=w.heap.size):∃g cap wx,(Builtin.append_ #[t,t] ty #[.slice (some ⟨b,0,none⟩) 0 0,v]).run P w=.ok (.slice (some ⟨g,0,none⟩) n cap) wx/\wx.ownsRow B e size (.slice (some ⟨g,0,none⟩) n cap) n news/\(g=b\/g=w.heap.size)/\Below w.heap.size w wx:=by
 subst aD aJ
 by_cases aK:n=0
 ·subst aK
  have aE:news=[]:=AC (by have:=aA.newsLen;omega);subst aE;have aC:=run_append_room_src (P:=P) w t t ty e i ht hi b 0 0 0 v 0 [] aA (by omega) (by simp) (by simp);exact⟨_,_,_,aC,h0,.inl rfl,AB _ _⟩
 have aF:(Builtin.firstCells i.size 0 (.slice (some ⟨b,0,none⟩) 0 0)).run P w.drew=.ok ([]:List Value).toArray w.drew:=FR w.drew i.size 0 _ 0 0 [] (by simp) (by simp)
 have aC:=run_append_grow_src (P:=P) w t t ty e i z ht hi hz (some ⟨b,0,none⟩) 0 0 [] aF v n news aA (by omega) (by omega) (by rw[BF,sr n (by omega)];exact aI);refine⟨_,_,_,by rw[aC,BF],?_,.inr rfl,(AB _ _).drew.alloc (AA _) _⟩;have aG:=JI w (0+n) 0 e;have aH:=GZ w (0+n) 0 e (by unfold maxLen;omega);rw[BF]at aG aH;refine⟨aA.newsLen,.inr ⟨w.heap.size,_,_,rfl,hB,AY w.drew _,aG,aH,?_,?_⟩⟩
 ·simp[KF,aA.newsLen,aL]
  rw[<-Zb]
  congr 1
  omega
 simp[aA.newsLen]
theorem ux{aF:Array Oper}{aC:List Oper}{o:Oper}{a:Act}{Q:Exit->Act->World->Prop}(aI:o.guard=none)(s x:Operand)(t:TypeId)
  (ho:o.op=.call { callee:=.builtin .append,args:=#[s,x],argTypes:=#[t,t] })(e:TypeId)(i:TypeInfo)(z:Value)(size aA:Nat)(ht:P.underlying t=some (.slice e))(hi:P.info? e=some i)(hz:i.zero=some z)(aB:i.size=size)(aH:i.bytes=aA)(aJ:z.cells.size=size)
  (b B:Nat)(hs:a.eval s=.slice (some ⟨b,0,none⟩) 0 0)(h0:w.ownsRow B e size (.slice (some ⟨b,0,none⟩) 0 0) 0 [])(v:Value)(hx:a.eval x=v)(n:Nat)(news:List Value)(aE:Src P size t v n news w)(hn:n<=1048576)(aG:n*aA<=281474976710656)(hB:B<=w.heap.size)
  (h:∀g cap wx,wx.ownsRow B e size (.slice (some ⟨g,0,none⟩) n cap) n news->(g=b\/g=w.heap.size)->Below w.heap.size w wx->wpList P aF Q aC (a.put o.dst (.slice (some ⟨g,0,none⟩) n cap)) wx):wpList P aF Q (o::aC) a w:=by
 refine IV aI λK hK=>?_
 obtain⟨g,cap,wx,aD,h1,h2,h3⟩:=tw (P:=P) (w:=w) t o.type e i z size aA ht hi hz aB aH aJ b B h0 v n news aE hn aG hB;unfold Oper.wp;simp[execOp,ho,resolve,invoke,builtin,hs,hx,aD,Result.andThen];exact hK _ _ (h g cap wx h1 h2 h3)
theorem qt{aE:Array Oper}{o:Oper}{a:Act}{K:Act->World->Prop}{Q:Exit->Act->World->Prop}{E:Prop}(aH:o.guard=none)(s x:Operand)(t:TypeId)
  (ho:o.op=.call { callee:=.builtin .append,args:=#[s,x],argTypes:=#[t,t] })(e:TypeId)(i:TypeInfo)(z:Value)(size aA:Nat)(ht:P.underlying t=some (.slice e))(hi:P.info? e=some i)(hz:i.zero=some z)(aB:i.size=size)(aG:i.bytes=aA)(aI:z.cells.size=size)
  (b B:Nat)(hs:a.eval s=.slice (some ⟨b,0,none⟩) 0 0)(h0:w.ownsRow B e size (.slice (some ⟨b,0,none⟩) 0 0) 0 [])(v:Value)(hx:a.eval x=v)(n:Nat)(news:List Value)(aD:Src P size t v n news w)(hn:n<=1048576)(aF:n*aA<=281474976710656)(hB:B<=w.heap.size)
  (h:∀g cap wx,wx.ownsRow B e size (.slice (some ⟨g,0,none⟩) n cap) n news->(g=b\/g=w.heap.size)->Below w.heap.size w wx->K (a.put o.dst (.slice (some ⟨g,0,none⟩) n cap)) wx):if Region.wanted o (yielded aE a.tmps)=true then Oper.wp P o a w K Q else E:=by
 have hw:Region.wanted o (yielded aE a.tmps)=true:=by simp[Region.wanted,aH]
 rw[AK hw];obtain⟨g,cap,wx,aC,h1,h2,h3⟩:=tw (P:=P) (w:=w) t o.type e i z size aA ht hi hz aB aG aI b B h0 v n news aD hn aF hB;unfold Oper.wp;simp[execOp,ho,resolve,invoke,builtin,hs,hx,aC,Result.andThen];exact h g cap wx h1 h2 h3
end
theorem MF:(prog.info? 53).map (·.size)=some 16:=by kernel_rfl
theorem PstF.z{P:List (List Pr)}(h:PstF w F p P)(hg:w.grownBy w' r)(hr:∀g,r=some g->¬F g):PstF w' F p P :=h.step (NE hg (AH _) (λ_ _=>AH _)) (λb hb hl=>hg.block b hl (λe=>hr b e.symm hb))
theorem ZQ:(prog.info? 50).map (·.size)=some 10:=by kernel_rfl
def ja(w w':World)(e:Ending)(aA:Option (List Pr)):Prop:=∃a c,e=.returned (.tuple #[LR a (aA.getD []).length c,.bool aA.isSome])/\(aA.getD []).length<=c/\OwnS w' a (LI (aA.getD []))/\(∀g,blk a (aA.getD []).length=some g->w.heap.size<=g)/\Below w.heap.size w w'
theorem yp{s:ByteArray}{o:List Ch}(h:SW s=some o):OA o=true:=by
 rw[<-xe]at h;unfold WI at h
 split at h
 ·cases h
 split at h
 ·rename_i hh;cases h;exact hh
 cases h
theorem qG{a:Option Addr}{rs:List Ch}(h:OwnS w a (LZ rs)):Chs w a rs:=by
 rcases h with h|⟨g,rfl,h⟩
 ·refine .inl ?_
  cases rs with
  | nil=>rfl
  | cons x r=>obtain⟨x0,x1,x2⟩:=x;exact absurd h (by simp[LZ])
 exact h.chs
theorem mf{l:List Pr}(h:LI l≠[]):l.length≠0:=λe=>h (by rw[AC e];rfl)
theorem OwnS.setF{a:Option Addr}(h:OwnS w a cs)(p:Addr)(hp:∀g,a=some ⟨g,0,none⟩->cs≠[]->p.block≠g)(v:Value):OwnS (w.setCell p v) a cs:=by
 by_cases h0:cs=[]
 ·exact .inl h0
 rcases h with h|⟨g,rfl,hr⟩
 ·exact absurd h h0
 exact .inr ⟨g,rfl,hr.other p (hp g rfl h0) v⟩
structure FdB(w W:World)(rs:List Pr)(sa:Option Addr)(sc:Nat):Prop where
 rb:Row W w.heap.size [.slice none 0 0]
 st:Row W (w.heap.size+1) [.slice sa rs.length sc]
 own:OwnS W sa (LI rs)
 lo:∀g,blk sa rs.length=some g->w.heap.size+2<=g
 cap:rs.length<=sc
 be:Below w.heap.size w W
theorem FdB.new(w:World):FdB w ((w.alloc (.cells #[.slice none 0 0] 48)).alloc (.cells #[.slice none 0 0] 48)) [] none 0 :=⟨(NT w #[.slice none 0 0] 48 w.heap.size rfl).alloc _,NT _ #[.slice none 0 0] 48 _ (by simp),.inl rfl,λg hg=>(by cases hg),AA _,(LG _ _).alloc (by simp) _⟩
theorem FdB.I{W W':World}{rs:List Pr}{sa:Option Addr}{sc:Nat}(h:FdB w W rs sa sc)(hb:Below W.heap.size W W'):FdB w W' rs sa sc:=⟨h.rb.I hb,h.st.I hb,h.own.I hb,h.lo,h.cap,h.be.j (hb.i h.be.size)⟩
theorem FdB.set{X:World}{W':Obj}{rs aA:List Pr}{sa aB:Option Addr}{sc aC:Nat}(h:FdB w (X.alloc W') rs sa sc)(ho:OwnS X aB (LI aA))(hc:aA.length<=aC)(aD:∀g,blk aB aA.length=some g->w.heap.size+2<=g):FdB w ((X.alloc W').setCell ⟨w.heap.size+1,0,none⟩ (.slice aB aA.length aC)) aA aB aC:=by
 refine⟨h.rb.other _ (by show w.heap.size+1≠w.heap.size;omega) _,h.st.set 0 (by simp) _,OwnS.setF (ho.I (LG _ _)) _ (λg hg hn=>?_) _,aD,hc,h.be.setCell (by show w.heap.size<=w.heap.size+1;omega) _⟩;have:=aD g (by subst hg;exact MI _ _ _ (mf hn));show w.heap.size+1≠g;omega
theorem Ck(a:Option Addr)(es:List ByteArray)(c:Nat)(w:World)(h:Strs w a es)(hl:es.length<=1000)(hs:∀e∈es,e.size<=1048576):Calls prog 152 #[.slice a es.length c] w λe w'=>ja w w' e (NF es []):=by
 obtain⟨aB,aG⟩:∃aB,Hid (aB=NF es []):=⟨_,LE rfl⟩;rw[<-aG.o];have HH:=LE h;have HS:=LE hs;clear h hs;go_enter func152,ntmps152;go_wp2;go_loopw [5] (λiv wr=>∃(i:Nat) (rs:List Pr) (sa:Option Addr) (sc:Nat) (W:World),W=wr/\iv=.int .i64 (i:Int)/\i<=es.length/\MA rs=true/\Hid (NF (es.drop i) rs=aB)/\FdB w W rs sa sc) (λiv _=>((es.length:Int)-intOf iv).toNat)
 case atStart =>
  exact⟨0,[],none,0,_,rfl,rfl,AH _,UR,by show _=_;rw[aG.o];rfl,FdB.new w⟩
 case round =>
  obtain⟨i,rs,sa,sc,wr,rfl,rfl,hi,aV,HF,D⟩:=hrel;have HD:=LE D;have d1:=D.st.x 0;have aP:=D.st.lt;have d0:=D.rb.x 0;have aO:=D.rb.lt;have aN:=D.rb.q 0;have aC:=SG aV;have cA:=aC.1;have bT:=LE aV;have bC:=LE aC.2;clear aV aC D
  by_cases aT:i<es.length
  ·have aU:(i:Int)<(es.length:Int):=by omega
   have bW:(0:Int)<=(i:Int):=by omega
   have cB:IntKind.i64.wrap ((i:Int)+1)=(i:Int)+1:=by simp[IntKind.wrap,IntKind.bits,IntKind.signed];omega
   obtain⟨b,o,s,rfl,hc,HE⟩:=(HH.o.I HD.o.be).at aT;have bI:s.size<=1048576:=HS.o s (by rw[HE.o];simp[List.getD,aT]);have aR:es.drop i=s::es.drop (i+1):=by rw[HE.o];simp[List.getD,aT]
   have bU:b<wr.heap.size:=by have:=BE wr _ hc;simpa using this
   have aI:=LE (λwx=>t7 s wx bI)
   skip
   rw[aR]at HF;have bQ:=LE aR;clear aR
   cases hR:SW s with
   | none =>
    rw[hR]at aI;have HN:Hid (aB=none):=by show _=_;rw[<-HF.o];exact yq hR
    clear hR;go_wp2_with fail;refine(aI.o _).i ?_;rintro e w5 ⟨ab,cb,rfl,_,_,aD⟩;simp only[JP,JD,AR];have D5:=HD.o.I aD;have aF:=LE D5;have r0:=D5.rb.x 0;have bP:=D5.rb.lt;have bJ:=D5.rb.q 0;clear d1 aP d0 aO aN D5 aD hc;go_wp2;refine AJ (v:=.tuple #[LR none 0 0,.bool false]) (by simp[results,results152,go_sem,r0,LR]) rfl ?_;rw[HN.o];exact⟨none,0,rfl,AA _,.inl rfl,λg hg=>(by cases hg),aF.o.be.setCell (by show w.heap.size<=w.heap.size;omega) _⟩
   | some bb =>
    rw[hR]at aI;have aQ:=ry (yp hR);have aY:=LE aQ.2;have bE:=aQ.1;clear aQ
    by_cases aA:OQ rs bb=0
    focus
     have HN:Hid (NF (es.drop (i+1)) (MO rs bb)=aB):=by show _=_;rw[<-HF.o];exact(tn hR aA).symm
     have hU:OR rs bb=MO rs bb:=by unfold OR;rw[AK aA]
     have aZ:=LE (gc aA)
    rotate_left
    focus
     have HN:Hid (aB=none):=by show _=_;rw[<-HF.o];exact nO hR aA
     have hU:OR rs bb=[]:=by unfold OR;rw[AE aA]
     have bV:(OQ rs bb == 0)=false:=by simp[aA]
     have bF:(OQ rs bb != 0)=true:=by simp[aA]
    rotate_left
    all_goals
     clear hR;go_wp2_with fail;refine(aI.o _).i ?_;rintro e w5 ⟨ab,cb,rfl,aK,aS,aD⟩;simp only[GA,JE]at aK aS⊢;have D5:=HD.o.I aD;have aF:=LE D5;have r1:=D5.st.x 0;have aX:=D5.st.lt;have aH:=LE (qR sa rs sc ab bb cb w5 D5.own.prs (by omega) bC.o (qG aK) (by omega) aY.o)
    ·rw[hU,aA]at aH
     clear d1 aP d0 aO aN D5 aD hc aK aS;go_wp2_with fail;refine aH.o.i ?_;rintro e w6 ⟨a6,c6,rfl,aW,aL,aJ,aE⟩;have D6:=(aF.o.I aE).I (MB w6 (.cells #[.slice a6 (MO rs bb).length c6] 48));have aM:=LE (D6.set aL aW (λg hg=>by have:=aJ g hg;omega));have x1:=D6.st.x 0;have cC:=D6.st.q 0;have cE:=D6.st.lt;have x6:w6.heap.size≠w.heap.size+1:=by have:=(aF.o.I aE).st.lt;omega
     clear r1 aX D6 aE aL aJ aA hU;go_wp2;exact⟨⟨i+1,_,a6,c6,_,rfl,by simp,by omega,aZ.o,HN,aM.o⟩,by simp[intOf];omega⟩
    rw[hU]at aH
    clear d1 aP d0 aO aN D5 aD hc aK aS hU;go_wp2_with fail;refine aH.o.i ?_;rintro e w6 ⟨a6,c6,rfl,aW,aL,aJ,aE⟩;have D6:=(aF.o.I aE).I (MB w6 (.cells #[.slice a6 0 c6] 48));have aM:=LE D6;have r0:=D6.rb.x 0;have bP:=D6.rb.lt;have bJ:=D6.rb.q 0;clear r1 aX D6 aE aL aJ;go_wp2;refine AJ (v:=.tuple #[LR none 0 0,.bool false]) (by simp[results,results152,go_sem,r0,LR]) rfl ?_;rw[HN.o];exact⟨none,0,rfl,AA _,.inl rfl,λg hg=>(by cases hg),aM.o.be.setCell (by show w.heap.size<=w.heap.size;omega) _⟩
  have HN:Hid (aB=some rs):=by show _=_;rw[<-HF.o,CX (by omega)];rfl
  have aU:¬((i:Int)<(es.length:Int)):=by omega
  have b7:¬(w.heap.size=w.heap.size+1):=by omega
  go_wp2;refine AJ (v:=.tuple #[LR sa rs.length sc,.bool true]) (by simp[results,results152,go_sem,d0,LR]) rfl ?_;rw[HN.o];refine⟨sa,sc,rfl,HD.o.cap,OwnS.setF HD.o.own ⟨w.heap.size,0,none⟩ (λg hg hn=>?_) _,λg hg=>by have:=HD.o.lo g hg;omega,HD.o.be.setCell (by show w.heap.size<=w.heap.size;omega) _⟩;have:=HD.o.lo g (by subst hg;exact MI _ _ _ (mf hn));show w.heap.size≠g;omega
@[reducible] def nu(a:Option Addr)(n c:Nat)(u l:Int):Value:=.agg #[.slice a n c,.int .i64 u,.int .i64 l]
theorem ym{e:Ending}{x:Scd}(h:YH w w' e x):∃a c,e=.returned (nu a x.1.length c x.2.1 x.2.2)/\OwnS w' a (x.1.map Value.string)/\(∀g,blk a x.1.length=some g->w.heap.size<=g)/\Below w.heap.size w w':=by
 obtain⟨y,rfl,ho,hb⟩:=h;rcases MM ho with ⟨e1,e2⟩|⟨g,cap,e1,h1,h2,hr⟩
 ·subst e1
  have:x.1=[]:=AC e2;exact⟨none,0,by rw[e2],.inl (by rw[this];rfl),λg hg=>(by rw[e2]at hg;cases hg),hb⟩
 subst e1
 refine⟨_,cap,rfl,.inr ⟨g,rfl,hr⟩,λg' hg=>?_,hb⟩;have:=WJ hg;omega
theorem G5(a:Option Addr)(es:List ByteArray)(c:Nat)(w:World)(h:Strs w a es)(hl:es.length<=1000)(hs:∀e∈es,e.size<=1048576):Calls prog 124 #[.slice a es.length c] w λe w'=>ja w w' e (NF es []):=by
 obtain⟨aB,aH⟩:∃aB,Hid (aB=NF es []):=⟨_,LE rfl⟩;rw[<-aH.o];have HH:=LE h;have HS:=LE hs;clear h hs;go_enter func124,ntmps124;go_wp2;go_loopw [13] (λiv wr=>∃(i:Nat) (rs:List Pr) (sa:Option Addr) (sc:Nat) (W:World),W=wr/\iv=.int .i64 (i:Int)/\i<=es.length/\MA rs=true/\Hid (NF (es.drop i) rs=aB)/\FdB w W rs sa sc) (λiv _=>((es.length:Int)-intOf iv).toNat)
 case atStart =>
  exact⟨0,[],none,0,_,rfl,rfl,AH _,UR,by show _=_;rw[aH.o];rfl,FdB.new w⟩
 case round =>
  obtain⟨i,rs,sa,sc,wr,rfl,rfl,hi,aV,HF,D⟩:=hrel;have HD:=LE D;have d1:=D.st.x 0;have aP:=D.st.lt;have d0:=D.rb.x 0;have aO:=D.rb.lt;have aN:=D.rb.q 0;have aC:=SG aV;have cA:=aC.1;have bT:=LE aV;have bC:=LE aC.2;clear aV aC D
  by_cases aT:i<es.length
  ·have aU:(i:Int)<(es.length:Int):=by omega
   have bW:(0:Int)<=(i:Int):=by omega
   have cB:IntKind.i64.wrap ((i:Int)+1)=(i:Int)+1:=by simp[IntKind.wrap,IntKind.bits,IntKind.signed];omega
   obtain⟨b,o,s,rfl,hc,HE⟩:=(HH.o.I HD.o.be).at aT;have bI:s.size<=1048576:=HS.o s (by rw[HE.o];simp[List.getD,aT]);have aR:es.drop i=s::es.drop (i+1):=by rw[HE.o];simp[List.getD,aT]
   have bU:b<wr.heap.size:=by have:=BE wr _ hc;simpa using this
   have aG:=LE (λwx=>yI s wx bI);rw[xe]at aG;rw[aR]at HF;have bQ:=LE aR;clear aR
   cases hR:SW s with
   | none =>
    rw[hR]at aG;have HN:Hid (aB=none):=by show _=_;rw[<-HF.o];exact yq hR
    clear hR;go_wp2_with fail;refine(aG.o _).i ?_;rintro e w5 ⟨ab,cb,rfl,_,_,aD⟩;simp only[JP,JD,AR];have D5:=HD.o.I aD;have aF:=LE D5;have r0:=D5.rb.x 0;have bP:=D5.rb.lt;have bJ:=D5.rb.q 0;clear d1 aP d0 aO aN D5 aD hc;go_wp2;refine AJ (v:=.tuple #[LR none 0 0,.bool false]) (by simp[results,results124,go_sem,r0,LR]) rfl ?_;rw[HN.o];exact⟨none,0,rfl,AA _,.inl rfl,λg hg=>(by cases hg),aF.o.be.setCell (by show w.heap.size<=w.heap.size;omega) _⟩
   | some bb =>
    rw[hR]at aG;have aQ:=ry (yp hR);have aY:=LE aQ.2;have bE:=aQ.1;clear aQ
    by_cases aA:OQ rs bb=0
    focus
     have HN:Hid (NF (es.drop (i+1)) (MO rs bb)=aB):=by show _=_;rw[<-HF.o];exact(tn hR aA).symm
     have hU:OR rs bb=MO rs bb:=by unfold OR;rw[AK aA]
     have aZ:=LE (gc aA)
    rotate_left
    focus
     have HN:Hid (aB=none):=by show _=_;rw[<-HF.o];exact nO hR aA
     have hU:OR rs bb=[]:=by unfold OR;rw[AE aA]
     have bV:(OQ rs bb == 0)=false:=by simp[aA]
     have bF:(OQ rs bb != 0)=true:=by simp[aA]
    rotate_left
    all_goals
     clear hR;go_wp2_with fail;refine(aG.o _).i ?_;rintro e w5 ⟨ab,cb,rfl,aK,aS,aD⟩;simp only[GA,JE]at aK aS⊢;have D5:=HD.o.I aD;have aF:=LE D5;have r1:=D5.st.x 0;have aX:=D5.st.lt;have aI:=LE (xz sa rs sc ab bb cb w5 D5.own.prs (by omega) bC.o (qG aK) (by omega) aY.o)
    ·rw[hU,aA]at aI
     clear d1 aP d0 aO aN D5 aD hc aK aS;go_wp2_with fail;refine aI.o.i ?_;rintro e w6 ⟨a6,c6,rfl,aW,aL,aJ,aE⟩;have D6:=(aF.o.I aE).I (MB w6 (.cells #[.slice a6 (MO rs bb).length c6] 48));have aM:=LE (D6.set aL aW (λg hg=>by have:=aJ g hg;omega));have x1:=D6.st.x 0;have cC:=D6.st.q 0;have cE:=D6.st.lt;have x6:w6.heap.size≠w.heap.size+1:=by have:=(aF.o.I aE).st.lt;omega
     clear r1 aX D6 aE aL aJ aA hU;go_wp2;exact⟨⟨i+1,_,a6,c6,_,rfl,by simp,by omega,aZ.o,HN,aM.o⟩,by simp[intOf];omega⟩
    rw[hU]at aI
    clear d1 aP d0 aO aN D5 aD hc aK aS hU;go_wp2_with fail;refine aI.o.i ?_;rintro e w6 ⟨a6,c6,rfl,aW,aL,aJ,aE⟩;have D6:=(aF.o.I aE).I (MB w6 (.cells #[.slice a6 0 c6] 48));have aM:=LE D6;have r0:=D6.rb.x 0;have bP:=D6.rb.lt;have bJ:=D6.rb.q 0;clear r1 aX D6 aE aL aJ;go_wp2;refine AJ (v:=.tuple #[LR none 0 0,.bool false]) (by simp[results,results124,go_sem,r0,LR]) rfl ?_;rw[HN.o];exact⟨none,0,rfl,AA _,.inl rfl,λg hg=>(by cases hg),aM.o.be.setCell (by show w.heap.size<=w.heap.size;omega) _⟩
  have HN:Hid (aB=some rs):=by show _=_;rw[<-HF.o,CX (by omega)];rfl
  have aU:¬((i:Int)<(es.length:Int)):=by omega
  have b7:¬(w.heap.size=w.heap.size+1):=by omega
  go_wp2;refine AJ (v:=.tuple #[LR sa rs.length sc,.bool true]) (by simp[results,results124,go_sem,d0,LR]) rfl ?_;rw[HN.o];refine⟨sa,sc,rfl,HD.o.cap,OwnS.setF HD.o.own ⟨w.heap.size,0,none⟩ (λg hg hn=>?_) _,λg hg=>by have:=HD.o.lo g hg;omega,HD.o.be.setCell (by show w.heap.size<=w.heap.size;omega) _⟩;have:=HD.o.lo g (by subst hg;exact MI _ _ _ (mf hn));show w.heap.size≠g;omega
end
section
open Tryz
open Go.RowKit Go.Shelf
variable {g1 g2 n3:Nat}{A B:World}
attribute [local go_sem] Oper.semAt_some
@[reducible] def mw(x:Int×Int×Int×ByteArray):Value:=NH x.1 x.2.1 x.2.2.1 x.2.2.2
@[reducible] def gw{SF:Nat->ByteArray}{fm:Nat}{wd:Int}{N:Nat}(x:Pgs SF fm wd N):Array Value:=#[.int .i64 (x.1:Int),mw (RF SF fm wd x.1)]
def KpP(n3 g1 g2:Nat)(A B:World):Prop:=Below n3 A B/\B.heap[g1]?=A.heap[g1]?/\B.heap[g2]?=A.heap[g2]?
theorem KpP.t{C:World}(h:KpP n3 g1 g2 A B)(k:KpP n3 g1 g2 B C):KpP n3 g1 g2 A C:=⟨h.1.j k.1,k.2.1.j h.2.1,k.2.2.j h.2.2⟩
theorem KpP.b{w:World}(hn:n3<=w.heap.size)(h1:g1<w.heap.size)(h2:g2<w.heap.size)(W:World)(l:Nat)(o o':Obj)(hl:w.heap.size<=l)(h:W.heap[l]?=some o)(hc:o.isCells=false)(hw:o.isWalk=false):KpP n3 g1 g2 W (W.putObj l o') :=⟨belowK_b hn W l o o' hl h hc hw,World.putObj_heap_other (by omega),World.putObj_heap_other (by omega)⟩
theorem KpP.z{C:World}(h:KpP n3 g1 g2 A B)(hg:Below B.heap.size B C)(h0:n3<=B.heap.size)(h1:g1<B.heap.size)(h2:g2<B.heap.size):KpP n3 g1 g2 A C :=⟨h.1.j (hg.i h0),(hg.block g1 h1).j h.2.1,(hg.block g2 h2).j h.2.2⟩
def nR{SF:Nat->ByteArray}{fm:Nat}{wd:Int}{N:Nat}(u:Nat)(ys:List (Pgs SF fm wd N)):Prop:=Good u ys/\(N<=u+ys.length\/MX (SF (fm+(u+ys.length))) wd=none)
theorem PX{w:World}{g:Nat}{cs:Array Value}{t:TypeId}{z:Nat×Nat}(h:w.heap[g]?=some (.cells cs t z))(i:Nat)(v:Value)(hv:cs[i]?=some v):w.cell? ⟨g,i,none⟩=some v:=by
 simp[World.cell?,h,hv]
theorem fd(h:Below A.heap.size A B):A.grownBy B none:=⟨h.os,h.tape,h.output,h.size,λk hk _=>h.block k hk⟩
theorem B6(n:Nat)(hn:1<=n)(l g1 g2 fm N u:Nat)(SF:Nat->ByteArray)(wd:Int)(v0 v1:Value)(w3:World)(hN:N<=200)(hu:u<=N)
  (aZ:Hid (∀wx,Below w3.heap.size w3 wx->∀m:Nat,m<N->Calls prog 211 #[cz v0 v1 (fm:Int) (N:Int) wd,.int .i64 (m:Int)] wx λe w'=>e=.returned (TW (MX (SF (fm+m)) wd))/\Below wx.heap.size wx w'))
  (J Jx:List (Pgs SF fm wd N)->World->Prop)
  (hY:∀pre x W1,J pre W1->pre.length<N->YieldAt Fence.wide (n-1) prog l (gw x) W1 λe W'=>(e=.returned (.bool true)/\J (pre++[x]) W'/\KpP w3.heap.size g1 g2 W1 W')\/(e=.returned (.bool false)/\Jx (pre++[x]) W'))
  (W:World)(hW:Below w3.heap.size w3 W)(aN:W.heap[g1]?=some (.cells #[.iface 260 (.agg #[v0,v1]),.int .i64 (fm:Int),.int .i64 (N:Int),.int .i64 wd] 214 (0,0)))(aO:W.heap[g2]?=some (.cells #[.int .i64 (u:Int)] 3 (0,0)))
  (h0:J [] W)(hJ:∀s A B,J s A->A.grownBy B none->J s B):CallsIn Fence.wide n prog 210 #[.func (.yield l) #[] #[],.pointer (some ⟨g2,0,none⟩),.pointer (some ⟨g1,0,none⟩)] W λe W'=>(∃v,e=.returned v) /\
   ((∃ys,nR u ys/\J ys W')\/(∃pre,Good u pre/\Jx pre W')):=by
 refine JR func210 rfl trivial ?_ rfl;simp only[ntmps210,FX,BY,AR,Nat.reduceAdd,Nat.reduceSub,FI,FJ,FW,EO,DU,ED];have HY:=LE hY;have HJ:=LE hJ;clear hY hJ;have q0:=PX aO 0 (.int .i64 (u:Int)) rfl
 gi_wp2
 clear q0
 gi_loopw [4] (λi wr=>∃(k:Nat) (pre:List (Pgs SF fm wd N)),pre.length=k/\Good u pre/\u+k<=N/\i=.int .i64 ((u+k:Nat):Int)/\J pre wr/\Below w3.heap.size w3 wr/\wr.heap[g1]?=some (.cells #[.iface 260 (.agg #[v0,v1]),.int .i64 (fm:Int),.int .i64 (N:Int),.int .i64 wd] 214 (0,0))) (λi _=>N-(intOf i).toNat)
 case atStart=>exact⟨0,[],rfl,Good.nil u,hu,rfl,h0,hW,aN⟩
 case round =>
  obtain⟨k,pre,aS,aQ,bJ,rfl,aM,aP,aC⟩:=hrel;obtain⟨q,hq⟩:∃q,q=u+k:=⟨_,rfl⟩;rw[<-hq];have HQ:=LE hq;have aD:=LE aS;have aE:=LE aQ;have aH:=LE aM;have aF:=LE aP;have bQ:q<=N:=by omega
  have aW:=LE aC;have bF:=(AS.1 aC).1;clear aS aQ aM bJ;have c0:=PX aC 0 (.iface 260 (.agg #[v0,v1])) rfl;have c1:=PX aC 1 (.int .i64 (fm:Int)) rfl;have c2:=PX aC 2 (.int .i64 (N:Int)) rfl;have c3:=PX aC 3 (.int .i64 wd) rfl;clear aC hq aN aO hW h0
  by_cases aR:q<N
  ·have bI:(q:Int)<(N:Int):=by omega
   have bT:IntKind.i64.wrap ((q:Int)+1)=(q:Int)+1:=by simp[IntKind.wrap,IntKind.bits,IntKind.signed];omega
   have aB:=aZ.o wr aF.o q aR;clear aP
   cases hR:MX (SF (fm+q)) wd with
   | none =>
    rw[hR]at aB;simp only[TW]at aB;have HR:=LE hR;have HP:=LE aB;clear hR aB
    gi_wp2_with (refine⟨trivial,?_⟩;gi_at_call 211;refine(EL.2 HP.o).i ?_;rintro e w5 ⟨rfl,aA⟩)
    refine⟨λf hf=>(by cases hf),?_⟩
    gi_wp2
    refine AJ (KA rfl _ _ _) rfl ?_;refine⟨⟨_,rfl⟩,.inl ⟨pre,⟨aE.o,.inr ?_⟩,HJ.o _ _ _ aH.o (fd (aA.alloc aA.size _))⟩⟩;rw[aD.o,<-HQ.o];exact HR.o
   | some pg =>
    obtain⟨pk,pl,pm,pp⟩:=pg;rw[hR]at aB;simp only[TW]at aB;obtain⟨xx,aK⟩:∃xx:Pgs SF fm wd N,xx.1=q:=⟨⟨q,aR,by rw[hR];rfl⟩,rfl⟩;have aT:gw xx=#[.int .i64 (q:Int),.agg #[.int .i64 pk,.int .i64 pl,.int .i64 pm,.string pp]]:=by unfold gw mw RF;rw[aK,hR];rfl
    have bC:=LE aT;have aL:=LE aK;have HR:=LE hR;have HP:=LE aB;clear hR aB aT aK
    gi_wp2_with (refine⟨trivial,?_⟩;gi_at_call 211;refine(EL.2 HP.o).i ?_;rintro e w5 ⟨rfl,aA⟩)
    obtain⟨fn,tmps,aI,bE,hy,aJ⟩:=HY.o pre xx (w5.alloc (.cells #[.int .i64 pk,.int .i64 pl,.int .i64 pm,.string pp] 204)) (HJ.o _ _ _ aH.o (fd (aA.alloc aA.size _))) (by rw[aD.o];have:=HQ.o;omega);rw[bC.o]at hy;have bP:=aA.size;have aX:=LE ((aA.alloc aA.size (.cells #[.int .i64 pk,.int .i64 pl,.int .i64 pm,.string pp] 204)).block _ bF);have aU:=LE (aF.o.j ((aA.alloc aA.size (.cells #[.int .i64 pk,.int .i64 pl,.int .i64 pm,.string pp] 204)).i aF.o.size));clear aA;rw[hy,Oper.uponIn_round];refine⟨λ_=>hn,?_⟩;refine aJ.i ?_;rintro e W6 (⟨rfl,hJ6,hk6⟩|⟨rfl,hJx6⟩)
    ·have aY:=LE (hk6.2.1.j (aX.o.j aW.o))
     have aV:=LE (aU.o.j hk6.1);have aG:=LE hJ6;clear hJ6 hk6 aJ hy
     gi_wp2
     go_roundw
     case rel=>exact⟨k+1,pre++[xx],by rw[AF,aD.o];rfl,aE.o.push (by rw[aL.o,aD.o,HQ.o]),by have:=HQ.o;omega,by have:=HQ.o;simp;omega,aG.o,aV.o,aY.o⟩
     case measure=>simp[intOf];omega
    have aG:=LE hJx6
    clear hJx6 aJ hy
    gi_wp2
    refine AJ (KA rfl _ _ _) rfl ?_;exact⟨⟨_,rfl⟩,.inr ⟨pre++[xx],aE.o.push (by rw[aL.o,aD.o,HQ.o]),aG.o⟩⟩
  gi_wp2
  go_end0;exact⟨⟨_,rfl⟩,.inl ⟨pre,⟨aE.o,.inl (by rw[aD.o,<-HQ.o];omega)⟩,aH.o⟩⟩
theorem Hg(n:Nat)(v0 v1:Value)(fm N:Int)(wd:Int)(u:Int)(w:World):CallsIn Fence.wide n prog 166 #[cz v0 v1 fm N wd,.int .i64 u] w λe w'=>e=.returned (.func (.func 210) #[] #[.pointer (some ⟨w.heap.size+1,0,none⟩),.pointer (some ⟨w.heap.size,0,none⟩)])/\w'=(w.alloc (.cells #[.iface 260 (.agg #[v0,v1]),.int .i64 fm,.int .i64 N,.int .i64 wd] 214)).alloc (.cells #[.int .i64 u] 3):=by
 refine JR func166 rfl trivial ?_ rfl;simp only[ntmps166,FX,BY,AR,Nat.reduceAdd,Nat.reduceSub,FI,FJ,FW,EO,DU,ED]
 gi_wp2
 go_ret;exact⟨rfl,rfl⟩
theorem rH(n:Nat)(hn:1<=n)(g1 g2 fm N u:Nat)(SF:Nat->ByteArray)(wd:Int)(v0 v1:Value)(w3 w:World)(hN:N<=200)(hu:u<=N)(h3:Below w3.heap.size w3 w)
  (aC:Hid (∀wx,Below w3.heap.size w3 wx->∀m:Nat,m<N->Calls prog 211 #[cz v0 v1 (fm:Int) (N:Int) wd,.int .i64 (m:Int)] wx λe w'=>e=.returned (TW (MX (SF (fm+m)) wd))/\Below wx.heap.size wx w'))
  (aA:w.heap[g1]?=some (.cells #[.iface 260 (.agg #[v0,v1]),.int .i64 (fm:Int),.int .i64 (N:Int),.int .i64 wd] 214 (0,0)))(aB:w.heap[g2]?=some (.cells #[.int .i64 (u:Int)] 3 (0,0))):SeqStopsK Fence.wide n prog 210 #[.pointer (some ⟨g2,0,none⟩),.pointer (some ⟨g1,0,none⟩)] (λx:Pgs SF fm wd N=>gw x) (KpP w3.heap.size g1 g2) (nR u) (Good u) N w:=λl J Jx W hW hJ aD hY h0 =>
 B6 n hn l g1 g2 fm N u SF wd v0 v1 w3 hN hu aC J Jx hY W (h3.j (hW.i h3.size)) ((hW.block _ (AS.1 aA).1).j aA) ((hW.block _ (AS.1 aB).1).j aB) h0 (λs A B hs hg=>hJ s A B none hs hg (λr e=>(by cases e)))
end
section
open Tryz
open Go.RowKit Go.Shelf
variable {b:Nat}{row:Option Nat}{T e:TypeId}{W W':World}
theorem xK(B b:Nat)(bs:List Value)(s:ByteArray)(w:World)(h:Lib.IsBuilderF 217 5 B b bs w)(aA:bs.length+s.size<=140737488355328)(aB:B<=w.heap.size):Calls prog 168 #[.pointer (some ⟨b,0,none⟩),.string s] w λe w'=>e=.returned (.tuple #[.int .i64 s.size,.nilIface])/\(Lib.BuilderAtF 217 5 B b (.pointer (some ⟨b,0,none⟩)) (bs++Lib.strCells s) w'/\Below B w w'/\Lib.OthersKept 5 (some b) w w'):=Any.Builder_WriteString_k zk gh B b bs s w h aA aB
theorem Iu(B b:Nat)(l:List UInt8)(w:World)(h:Lib.IsBuilderF 217 5 B b (Lib.byteCells l) w)(aA:B<=w.heap.size):Calls prog 170 #[.pointer (some ⟨b,0,none⟩)] w λe w'=>e=.returned (.string ⟨l.toArray⟩)/\(Lib.IsBuilderF 217 5 B b (Lib.byteCells l) w'/\Below B w w'/\Lib.OthersKept 5 (some b) w w'):=Any.Builder_String_any_k pF gh B b l w h aA
theorem du{g:Nat}{c:Value}{cs:List Value}(h:Row W g (c::cs)):∃a t z,W.heap[g]?=some (.cells a t z):=by
 have:=h.cell 0 c rfl;unfold World.cell? at this
 split at this
 ·exact⟨_,_,_,by assumption⟩
 cases this
theorem fe{g:Nat}{c:Value}{cs:List Value}(h:Row W g (c::cs))(hg:W.grownBy W' row)(hr:∀r,row=some r->r≠g\/∃o:Obj,W.heap[r]?=some o/\o.isCells=false):Row W' g (c::cs):=by
 refine h.z hg λe=>?_
 rcases hr g e.symm with h1|⟨o,ho,hc⟩
 ·exact h1 rfl
 obtain⟨a,t,z,hh⟩:=du h
 rw[hh]at ho;cases ho;cases hc
theorem vm{base:Nat}{s:Nat}{v:Value}{n:Nat}{xs:List Value}(h:W.ownsRow base e s v n xs)(hg:W.grownBy W' row)(hr:∀r,row=some r->∃o:Obj,W.heap[r]?=some o/\o.isCells=false):W'.ownsRow base e s v n xs:=by
 refine h.kept hg ?_;rcases h.2 with ⟨rfl,_⟩|⟨g,cap,cur,rfl,_,aA,_⟩
 ·exact .inl rfl
 refine .inr λe'=>?_
 obtain⟨o,ho,hc⟩:=hr g (by simpa[Value.ownBlock] using e'.symm)
 rw[aA]at ho;cases ho;cases hc
theorem vg{B:Nat}{bs:List Value}(h:Lib.IsBuilderF T e B b bs W)(hg:W.grownBy W' row)(hr:∀r,row=some r->r<B\/∃o:Obj,W.heap[r]?=some o/\o.isCells=false):Lib.IsBuilderF T e B b bs W':=by
 have aB:∀p,Lib.BuilderAtF T e B b p bs W->Lib.BuilderAtF T e B b p bs W':=by
  rintro p ⟨hB,v,hb,aA,aD⟩;have aC:b<W.heap.size:=(AS.1 hb).1
  have h1:some b≠row:=λe=>by
   rcases hr b e.symm with h|⟨o,ho,hc⟩
   ·omega
   rw[hb]at ho;cases ho;cases hc
  refine⟨hB,v,(hg.block b aC h1).j hb,aA.kept hg ?_,aD⟩
  cases hv:v.ownBlock with
  | none=>exact .inl rfl
  | some k =>
   refine .inr λe'=>?_
   rcases hr k e'.symm with h|⟨o,ho,hc⟩
   ·have:=(aA.lt k hv).1;omega
   obtain⟨c,fz,hk⟩:=Lib.ownsRowF_kind aA k hv
   rw[hk]at ho;cases ho;cases hc
 rcases h with h|h
 ·exact .inl (aB _ h)
 exact .inr (aB _ h)
theorem oK{B:Nat}{bs:List Value}(h:Lib.IsBuilderF T e B b bs W):∃a,W.heap[b]?=some (.cells a T (0,0)):=by
 rcases h with ⟨_,v,hb,_⟩|⟨_,v,hb,_⟩<;>exact⟨_,hb⟩
theorem oG{a:Array Value}{z:Nat×Nat}(hb:W.heap[b]?=some (.cells a T z))(hk:Lib.OthersKept e (some b) W W')(hs:W.heap.size<=W'.heap.size):KeepsOthers W W' :=⟨hs,λk o aA hc=>hk k o aA (λe=>by cases e;rw[hb]at aA;cases aA;cases hc) (λc fz e=>by rw[e]at hc;cases hc)⟩
theorem qu(h:Below W.heap.size W W'):KeepsOthers W W':=⟨h.size,λk o hk _=>(h.block k (AS.1 hk).1).j hk⟩
structure ScL(w3 W:World)(Rs:List Nat)(M:Nat)(c0 c1 c2 c3:Value)(y:Value)(ents:List ByteArray)(u l wk wl wm:Int)(wp:ByteArray):Prop where
 lb:Row W w3.heap.size [c0,c1,c2,c3]
 fb:Row W (w3.heap.size+1) [y,.int .i64 u,.int .i64 l]
 bb:Row W (w3.heap.size+2) [.int .i64 wk,.int .i64 wl,.int .i64 wm,.string wp]
 own:W.ownsRow w3.heap.size 9 1 y ents.length (ents.map Value.string)
 yo:∀k,y.ownBlock=some k->w3.heap.size+2<k
 be:Below w3.heap.size w3 W
 mr:∀r∈Rs,w3.heap.size<=r/\r<M/\W.heap[r]?=some (.deferred (some []))
 nd:Rs.Nodup
section
variable {w3 W W':World} {Rs:List Nat} {M:Nat} {c0 c1 c2 c3:Value} {y:Value} {ents:List ByteArray} {u l wk wl wm:Int} {wp:ByteArray}
theorem ScL.kept(h:ScL w3 W Rs M c0 c1 c2 c3 y ents u l wk wl wm wp)(hM:w3.heap.size<=M)(hg:W.grownBy W' row)(hr:∀r,row=some r->M<=r/\∃o:Obj,W.heap[r]?=some o/\o.isCells=false):ScL w3 W' Rs M c0 c1 c2 c3 y ents u l wk wl wm wp:=by
 have aA:∀g:Nat,∀r,row=some r->r≠g\/∃o:Obj,W.heap[r]?=some o/\o.isCells=false:=λg r e=>.inr (hr r e).2
 refine⟨fe h.lb hg (aA _),fe h.fb hg (aA _),fe h.bb hg (aA _),vm h.own hg (λr e=>(hr r e).2),h.yo,h.be.z hg h.be.size (λk e=>AL hM (hr k e).1),λr aB=>?_,h.nd⟩;obtain⟨h0,h1,h2⟩:=h.mr r aB;exact⟨h0,h1,(hg.block r (AS.1 h2).1 (λe=>by have:=(hr r e.symm).1;omega)).j h2⟩
theorem ScL.low(h:ScL w3 W Rs M c0 c1 c2 c3 y ents u l wk wl wm wp)(hb:Below M W W')(hM:w3.heap.size+2<M)(aE:∀k,y.ownBlock=some k->k<M):ScL w3 W' Rs M c0 c1 c2 c3 y ents u l wk wl wm wp:=by
 have aB:∀ {g:Nat} {cs:List Value},g<M->Row W g cs->Row W' g cs:=λhg hr=>⟨AD hr.lt hb.size,λi v hv=>(CW (a:=⟨_,i,none⟩) (hb.block _ hg)).j (hr.cell i v hv),λi hi=>(FY (a:=⟨_,i,none⟩) (hb.block _ hg)).j (hr.froz i hi)⟩
 have ow:W'.ownsRow w3.heap.size 9 1 y ents.length (ents.map Value.string):=by
  have h1:=h.own;refine⟨h1.1,?_⟩;rcases h1.2 with h2|⟨g,cap,cur,hv,aC,aD,aA⟩
  ·exact .inl h2
  exact .inr ⟨g,cap,cur,hv,aC,(hb.block g (aE g (by rw[hv];rfl))).j aD,aA⟩
 exact⟨aB (by omega) h.lb,aB (by omega) h.fb,aB (by omega) h.bb,ow,h.yo,h.be.j (hb.i (by omega)),λr hr=>⟨(h.mr r hr).1,(h.mr r hr).2.1,(hb.block r (h.mr r hr).2.1).j (h.mr r hr).2.2⟩,h.nd⟩
theorem ScL.top(h:ScL w3 W Rs M c0 c1 c2 c3 y ents u l wk wl wm wp):ScL w3 W Rs W.heap.size c0 c1 c2 c3 y ents u l wk wl wm wp :=⟨h.lb,h.fb,h.bb,h.own,h.yo,h.be,λr hr=>⟨(h.mr r hr).1,(AS.1 (h.mr r hr).2.2).1,(h.mr r hr).2.2⟩,h.nd⟩
theorem ScL.I(h:ScL w3 W Rs M c0 c1 c2 c3 y ents u l wk wl wm wp)(hb:Below W.heap.size W W'):ScL w3 W' Rs M c0 c1 c2 c3 y ents u l wk wl wm wp :=⟨h.lb.I hb,h.fb.I hb,h.bb.I hb,LY h.own hb,h.yo,h.be.j (hb.i h.be.size),λr hr=>⟨(h.mr r hr).1,(h.mr r hr).2.1,(hb.block r (AS.1 (h.mr r hr).2.2).1).j (h.mr r hr).2.2⟩,h.nd⟩
theorem ScL.own_ne(h:ScL w3 W Rs M c0 c1 c2 c3 y ents u l wk wl wm wp){k:Nat}(hk:k<=w3.heap.size+2):y.ownBlock≠some k:=λe=>by have:=h.yo k e;omega
theorem ScL.mk_ne(h:ScL w3 W Rs M c0 c1 c2 c3 y ents u l wk wl wm wp){r:Nat}(hr:r∈Rs):r≠w3.heap.size+1/\r≠w3.heap.size+2/\y.ownBlock≠some r:=by
 have h2:=(h.mr r hr).2.2;refine⟨λe=>?_,λe=>?_,λe=>?_⟩
 ·obtain⟨a,t,z,hh⟩:=du h.fb
  rw[e,hh]at h2;cases h2
 ·obtain⟨a,t,z,hh⟩:=du h.bb
  rw[e,hh]at h2;cases h2
 rcases h.own.2 with ⟨rfl,_⟩|⟨g,cap,cur,rfl,_,aA,_⟩
 ·cases e
 have:g=r:=by simpa[Value.ownBlock] using e
 rw[this,h2]at aA;cases aA
theorem ScL.setWas(h:ScL w3 W Rs M c0 c1 c2 c3 y ents u l wk wl wm wp)(k' l' m':Int)(p':ByteArray):ScL w3 ((((W.setCell ⟨w3.heap.size+2,0,none⟩ (.int .i64 k')).setCell ⟨w3.heap.size+2,1,none⟩ (.int .i64 l')).setCell ⟨w3.heap.size+2,2,none⟩ (.int .i64 m')).setCell ⟨w3.heap.size+2,3,none⟩ (.string p')) Rs M c0 c1 c2 c3 y ents u l k' l' m' p':=by
 have aA:∀ {g:Nat} {cs:List Value},g≠w3.heap.size+2->Row W g cs->Row ((((W.setCell ⟨w3.heap.size+2,0,none⟩ (.int .i64 k')).setCell ⟨w3.heap.size+2,1,none⟩ (.int .i64 l')).setCell ⟨w3.heap.size+2,2,none⟩ (.int .i64 m')).setCell ⟨w3.heap.size+2,3,none⟩ (.string p')) g cs:=λhg hr =>
  (((hr.other _ (IZ hg) _).other _ (IZ hg) _).other _ (IZ hg) _).other _ (IZ hg) _
 have hy:=h.own_ne (AA _)
 have bs:∀ {x:World},Below w3.heap.size w3 x->∀i v,Below w3.heap.size w3 (x.setCell ⟨w3.heap.size+2,i,none⟩ v):=λhx i v=>hx.setCell (by show w3.heap.size<=w3.heap.size+2;omega) _
 refine⟨aA (by omega) h.lb,aA (by omega) h.fb,(((h.bb.set 0 (by simp) _).set 1 (by simp) _).set 2 (by simp) _).set 3 (by simp) _,BO (BO (BO (BO h.own hy _) hy _) hy _) hy _,h.yo,bs (bs (bs (bs h.be _ _) _ _) _ _) _ _,λr hr=>⟨(h.mr r hr).1,(h.mr r hr).2.1,?_⟩,h.nd⟩;have hn:=(h.mk_ne hr).2.1;rw[BD _ _ _ _ hn,BD _ _ _ _ hn,BD _ _ _ _ hn,BD _ _ _ _ hn];exact(h.mr r hr).2.2
theorem ScL.take(h:ScL w3 W Rs M c0 c1 c2 c3 y ents u l wk wl wm wp){ents':List ByteArray}{u' l':Int}(ht:rc w3.heap.size (w3.heap.size+1) y W ents' u' l' W'):∃y',ScL w3 W' Rs M c0 c1 c2 c3 y' ents' u' l' wk wl wm wp:=by
 obtain⟨y',hr,ho,aC,hb,hk⟩:=ht
 have aB:∀ {g:Nat} {cs:List Value},g<=w3.heap.size+2->g≠w3.heap.size+1->Row W g cs->Row W' g cs:=λhg aD hr=>by
  have e:=hk _ hr.lt aD (λe=>h.own_ne hg e.symm);exact⟨AD hr.lt hb.size,λi v hv=>(CW (a:=⟨_,i,none⟩) e).j (hr.cell i v hv),λi hi=>(FY (a:=⟨_,i,none⟩) e).j (hr.froz i hi)⟩
 have l3:=h.bb.lt;refine⟨y',aB (by omega) (by omega) h.lb,hr,aB (by omega) (by omega) h.bb,ho,λk e=>?_,h.be.j hb,λr aA=>⟨(h.mr r aA).1,(h.mr r aA).2.1,?_⟩,h.nd⟩
 ·rcases aC with e2|⟨H,e2,hH⟩
  ·exact h.yo k (e2.symm.j e)
  rw[e2]at e;cases e;omega
 have hn:=h.mk_ne aA
 exact(hk r (AS.1 (h.mr r aA).2.2).1 hn.1 (λe=>hn.2.2 e.symm)).j (h.mr r aA).2.2
theorem ScL.takeKeeps(h:ScL w3 W Rs M c0 c1 c2 c3 y ents u l wk wl wm wp){ents':List ByteArray}{u' l':Int}(ht:rc w3.heap.size (w3.heap.size+1) y W ents' u' l' W'):KeepsOthers W W':=by
 obtain⟨y',hr,ho,aC,hb,hk⟩:=ht;refine⟨hb.size,λk o aA hc=>(hk k (AS.1 aA).1 (λe=>?_) (λe=>?_)).j aA⟩
 ·obtain⟨a,t,z,hh⟩:=du h.fb
  rw[e,hh]at aA;cases aA;cases hc
 rcases h.own.2 with ⟨rfl,_⟩|⟨g,cap,cur,rfl,_,aB,_⟩
 ·cases e
 have:k=g:=by simpa[Value.ownBlock] using e
 rw[this,aB]at aA;cases aA;cases hc
theorem ScL.push(h:ScL w3 W Rs M c0 c1 c2 c3 y ents u l wk wl wm wp){D:Nat}(hD:W.heap[D]?=some (.deferred (some [])))(hn:M<=D)(h3:w3.heap.size<=D):ScL w3 W (D::Rs) W.heap.size c0 c1 c2 c3 y ents u l wk wl wm wp :=⟨h.lb,h.fb,h.bb,h.own,h.yo,h.be,λr hr=>by
  rcases DK.1 hr with rfl|hr
  ·exact⟨h3,(AS.1 hD).1,hD⟩
  exact⟨(h.mr r hr).1,(AS.1 (h.mr r hr).2.2).1,(h.mr r hr).2.2⟩,List.nodup_cons.2 ⟨λhm=>by have:=(h.mr D hm).2.1;omega,h.nd⟩⟩
end
structure ScN(w3 W:World)(Rs:List Nat)(b:Nat)(c0 c1 c2 c3:Value)(y:Value)(ents:List ByteArray)(u l wk wl wm:Int)(wp op:ByteArray):Prop where
 sl:ScL w3 W Rs b c0 c1 c2 c3 y ents u l wk wl wm wp
 bu:Lib.IsBuilderF 217 5 b b (Lib.byteCells op.data.toList) W
 g1:W.heap[b+1]?=some (.cells #[c0,c1,c2,c3] 214 (0,0))
 g2:W.heap[b+2]?=some (.cells #[.int .i64 u] 3 (0,0))
 yb:∀k,y.ownBlock=some k->k<b
 lo:w3.heap.size+2<b
section
variable {w3 W W':World} {Rs:List Nat} {b:Nat} {c0 c1 c2 c3:Value} {y:Value} {ents:List ByteArray} {u l wk wl wm:Int} {wp op:ByteArray}
theorem ScN.kept(h:ScN w3 W Rs b c0 c1 c2 c3 y ents u l wk wl wm wp op)(hg:W.grownBy W' row)(hr:∀r,row=some r->b<=r/\∃o:Obj,W.heap[r]?=some o/\o.isCells=false):ScN w3 W' Rs b c0 c1 c2 c3 y ents u l wk wl wm wp op:=by
 have hb:∀ {g:Nat} {a:Array Value} {t:TypeId} {z:Nat×Nat},W.heap[g]?=some (.cells a t z)->W'.heap[g]?=some (.cells a t z):=λhh=>(hg.block _ (AS.1 hh).1 (λe=>by
  obtain⟨_,o,ho,hc⟩:=hr _ e.symm
  rw[hh]at ho;cases ho;cases hc)).j hh
 exact⟨h.sl.kept (by have:=h.lo;omega) hg hr,vg h.bu hg (λr e=>.inr (hr r e).2),hb h.g1,hb h.g2,h.yb,h.lo⟩
theorem ScN.alloc(h:ScN w3 W Rs b c0 c1 c2 c3 y ents u l wk wl wm wp op)(o:Obj):ScN w3 (W.alloc o) Rs b c0 c1 c2 c3 y ents u l wk wl wm wp op:=h.kept (World.grownBy_alloc W o none) (λr e=>by cases e)
theorem ScN.setWas(h:ScN w3 W Rs b c0 c1 c2 c3 y ents u l wk wl wm wp op)(k' l' m':Int)(p':ByteArray):ScN w3 ((((W.setCell ⟨w3.heap.size+2,0,none⟩ (.int .i64 k')).setCell ⟨w3.heap.size+2,1,none⟩ (.int .i64 l')).setCell ⟨w3.heap.size+2,2,none⟩ (.int .i64 m')).setCell ⟨w3.heap.size+2,3,none⟩ (.string p')) Rs b c0 c1 c2 c3 y ents u l k' l' m' p' op:=by
 have lo:=h.lo
 have g:∀(X:World) (i:Nat) (v:Value),X.grownBy (X.setCell ⟨w3.heap.size+2,i,none⟩ v) (some (w3.heap.size+2)):=λX i v=>⟨rfl,rfl,rfl,by simp,λk _ hk=>BD _ _ _ _ (λe=>hk (by rw[e]))⟩
 have bs:∀ {X:World},Lib.IsBuilderF 217 5 b b (Lib.byteCells op.data.toList) X->∀i v,Lib.IsBuilderF 217 5 b b (Lib.byteCells op.data.toList) (X.setCell ⟨w3.heap.size+2,i,none⟩ v):=λhx i v=>vg hx (g _ i v) (λr e=>by cases e;exact .inl lo)
 have hs:∀ {X:World} {k:Nat} {o:Obj},k≠w3.heap.size+2->X.heap[k]?=some o->∀i v,(X.setCell ⟨w3.heap.size+2,i,none⟩ v).heap[k]?=some o:=λhk hx i v=>(BD _ _ _ _ hk).j hx
 have n1:b+1≠w3.heap.size+2:=by omega
 have n2:b+2≠w3.heap.size+2:=by omega
 exact⟨h.sl.setWas k' l' m' p',bs (bs (bs (bs h.bu _ _) _ _) _ _) _ _,hs n1 (hs n1 (hs n1 (hs n1 h.g1 _ _) _ _) _ _) _ _,hs n2 (hs n2 (hs n2 (hs n2 h.g2 _ _) _ _) _ _) _ _,h.yb,h.lo⟩
theorem ScN.wrote(h:ScN w3 W Rs b c0 c1 c2 c3 y ents u l wk wl wm wp op){op':ByteArray}(hb:Below b W W')(hk:Lib.OthersKept 5 (some b) W W')(aA:Lib.IsBuilderF 217 5 b b (Lib.byteCells op'.data.toList) W'):ScN w3 W' Rs b c0 c1 c2 c3 y ents u l wk wl wm wp op' :=⟨h.sl.low hb h.lo h.yb,aA,hk _ _ h.g1 (by simp) (by intro c fz e;simp at e),hk _ _ h.g2 (by simp) (by intro c fz e;simp at e),h.yb,h.lo⟩
end
def InS{SF:Nat->ByteArray}{fm:Nat}{wd:Int}{N:Nat}(first:Int)(aA:Scd)(w3:World)(Rs:List Nat)(b:Nat)(c0 c1 c2 c3:Value)(y:Value)(ents:List ByteArray)(u:Nat)(l:Int)(pre:List (Pgs SF fm wd N))(W:World):Prop :=∃wk wl wm wp op,ScN w3 W Rs b c0 c1 c2 c3 y ents (u:Int) l wk wl wm wp op/\op.size<=64*pre.length/\Chn first aA u pre wk wl op (ents,(u:Int),l)
def InX{SF:Nat->ByteArray}{fm:Nat}{wd:Int}{N:Nat}(first:Int)(aA:Scd)(w3:World)(Rs:List Nat)(b:Nat)(c0 c1 c2 c3:Value)(y:Value)(ents:List ByteArray)(u:Nat)(l:Int)(c:Code)(pre:List (Pgs SF fm wd N))(W:World):Prop :=(c=.exit 0/\(∃wk wl wm wp,ScL w3 W Rs b c0 c1 c2 c3 y ents (u:Int) l wk wl wm wp)/\(Good u pre->(ents,(u:Int),l)=aA)) ∨
 (c=.exit 1/\∃(x:Nat) (y':Value) (ents':List ByteArray) (l' wk wl wm:Int) (wp:ByteArray),ScL w3 W Rs b c0 c1 c2 c3 y' ents' ((x+1:Nat):Int) l' wk wl wm wp/\x<N/\(Good u pre->u<=x/\ents'.length<=ents.length+1/\Chn (S:=SF) (frm:=fm) (n:=wd) (size:=N) first aA (x+1) [] wk wl empty (ents',((x+1:Nat):Int),l')))
section
variable {SF:Nat->ByteArray} {fm:Nat} {wd:Int} {N:Nat} {first:Int} {RES:Scd} {w3:World} {Rs:List Nat} {b:Nat} {c0 c1 c2 c3:Value} {y:Value} {ents:List ByteArray} {u:Nat} {l:Int}
theorem InS.own(B:Nat)(hB:b<=B):OwnFrom B (λ(pre:List (Pgs SF fm wd N)) W=>InS first RES w3 Rs b c0 c1 c2 c3 y ents u l pre W):=by
 rintro s X Y row ⟨wk,wl,wm,wp,op,hn,h1,h2⟩ hg hr;exact⟨wk,wl,wm,wp,op,hn.kept hg (λr e=>⟨AL hB (hr r e).1,(hr r e).2⟩),h1,h2⟩
theorem InX.own(B:Nat)(hB:b<=B)(aB:w3.heap.size<=b)(c:Code):OwnFrom B (λ(pre:List (Pgs SF fm wd N)) W=>InX first RES w3 Rs b c0 c1 c2 c3 y ents u l c pre W):=by
 rintro s X Y row h hg hr
 have aC:∀r,row=some r->b<=r/\∃o:Obj,X.heap[r]?=some o/\o.isCells=false:=λr e=>⟨AL hB (hr r e).1,(hr r e).2⟩
 rcases h with ⟨hc,⟨wk,wl,wm,wp,hl⟩,aA⟩|⟨hc,x,y',ents',l',wk,wl,wm,wp,hl,hx,aA⟩
 ·exact .inl ⟨hc,⟨wk,wl,wm,wp,hl.kept aB hg aC⟩,aA⟩
 exact .inr ⟨hc,x,y',ents',l',wk,wl,wm,wp,hl.kept aB hg aC,hx,aA⟩
end
theorem je{F:Fence}{n:Nat}{P:Program}{fn:Func}{tmps:Array Value}{R:Ending->World->Prop}(B:Nat)(Pr:World->Prop)(aB:∀W r,B<=r->W.heap[r]?=some (.deferred (some []))->Pr W->Pr (W.putObj r (.deferred none)))(aA:∀W,Pr W->LeavesIn F n P fn tmps R [] .returning W):∀(Rs:List Nat) (W:World),Rs.Nodup->(∀r∈Rs,B<=r/\W.heap[r]?=some (.deferred (some [])))->Pr W->LeavesInM F n P fn tmps R (Rs.map (λr=>({ target:=.collected r,args:=#[] }:Deferred))) .returning W
 | [],W,_,_,hp=>aA W hp
 | r::Rs,W,hn,hm,hp=>by
  have h0:=hm r (DZ ..);refine⟨by simp,.inl ⟨r,_,rfl,run_takeDeferred h0.2,?_⟩⟩;have hnr:=List.nodup_cons.1 hn;refine je B Pr aB aA Rs _ hnr.2 (λq hq=>?_) (aB W r h0.1 h0.2 hp);have h1:=hm q (BQ _ hq);exact⟨h1.1,(World.putObj_heap_other (λe:q=r=>hnr.1 (by rw[<-e];exact hq))).j h1.2⟩
def ScF1(w w3:World)(RB:Nat)(y:Value)(ents:List ByteArray)(u l:Int)(X:World):Prop:=Row X RB [y,.int .i64 u,.int .i64 l]/\X.ownsRow w3.heap.size 9 1 y ents.length (ents.map Value.string)/\Below w.heap.size w X
theorem ScF1.put{w w3:World}{RB:Nat}{y:Value}{ents:List ByteArray}{u l:Int}(hw:w.heap.size<=w3.heap.size)(X:World)(r:Nat)(hr:w3.heap.size<=r)(hd:X.heap[r]?=some (.deferred (some [])))(h:ScF1 w w3 RB y ents u l X):ScF1 w w3 RB y ents u l (X.putObj r (.deferred none)):=by
 obtain⟨h1,h2,h3⟩:=h
 have aA:∀q,some r=some q->∃o:Obj,X.heap[q]?=some o/\o.isCells=false:=λq e=>by cases e;exact⟨_,hd,rfl⟩
 exact⟨fe h1 (grownBy_putObj' X r _) (λq e=>.inr (aA q e)),vm h2 (grownBy_putObj' X r _) aA,h3.z (grownBy_putObj' X r _) h3.size (λk e=>by cases e;omega)⟩
theorem ScL.fin{w w3:World}{Rs:List Nat}{M:Nat}{c0 c1 c2 c3:Value}{y:Value}{ents:List ByteArray}{u l wk wl wm:Int}{wp:ByteArray}{RB:Nat}{r0 r1 r2:Value}(h:ScL w3 W Rs M c0 c1 c2 c3 y ents u l wk wl wm wp)(hr:Row w3 RB [r0,r1,r2])(hR:w.heap.size<=RB)(hb:Below w.heap.size w w3):ScF1 w w3 RB y ents u l (((W.setCell ⟨RB,0,none⟩ y).setCell ⟨RB,1,none⟩ (.int .i64 u)).setCell ⟨RB,2,none⟩ (.int .i64 l))/\(∀r∈Rs,w3.heap.size<=r/\(((W.setCell ⟨RB,0,none⟩ y).setCell ⟨RB,1,none⟩ (.int .i64 u)).setCell ⟨RB,2,none⟩ (.int .i64 l)).heap[r]?=some (.deferred (some []))):=by
 have hl:=hr.lt;have aB:Row W RB [r0,r1,r2]:=⟨AD hl h.be.size,λi v hv=>(CW (a:=⟨_,i,none⟩) (h.be.block _ hl)).j (hr.cell i v hv),λi hi=>(FY (a:=⟨_,i,none⟩) (h.be.block _ hl)).j (hr.froz i hi)⟩
 have hy:y.ownBlock≠some RB:=λe=>by have:=h.yo RB e;omega
 refine⟨⟨((aB.set 0 (by simp) _).set 1 (by simp) _).set 2 (by simp) _,BO (BO (BO h.own hy _) hy _) hy _,(((hb.j (h.be.i hb.size)).setCell hR _).setCell hR _).setCell hR _⟩,λr aA=>⟨(h.mr r aA).1,?_⟩⟩;have hn:r≠RB:=by have:=(h.mr r aA).1;omega
 rw[BD _ _ _ _ hn,BD _ _ _ _ hn,BD _ _ _ _ hn];exact(h.mr r aA).2.2
end
section
open Tryz
open Go.RowKit
theorem uS(s:ByteArray)(n:Int)(w:World)(ty:TypeId)(v:Value)(hv:w.cell? ⟨1,0,none⟩=some (.iface ty v))(hg:1<w.heap.size):Calls prog 239 #[.string s,.int .i64 n] w λe w'=>(∃E,e=.returned (XV E (MX s n)))/\Below w.heap.size w w':=by
 by_cases hn:1<=n/\n<=8
 ·obtain⟨m,rfl⟩:∃m:Nat,n=(m:Int):=⟨n.toNat,by omega⟩
  by_cases hs:s.size=64
  ·obtain⟨fN,fK,fL,fM,fP⟩:=Br s m hs (by omega) rfl
   have ln:(LF s).length=64:=by rw[ML,hs]
   have rg:=an s
   have aA:∀o k,∀y∈((LF s).drop o).take k,0<=y/\y<=255:=λo k y hy=>rg y (EW (DQ hy))
   have bN:=WV 1 _ (by simp;omega) (aA (m+7) 1);have bK:=WV 1 _ (by simp;omega) (aA m 1);have bL:=WV 2 _ (by simp;omega) (aA (m+1) 2);have bM:=WV 4 _ (by simp;omega) (aA (m+3) 4);rw[<-fN]at bN;rw[<-fK]at bK;rw[<-fL]at bL;rw[<-fM]at bM
   by_cases hN:rpN (s.extract m 64)+m<=56
   ·have h:=Dp s m _ _ _ _ _ w ty v hv hg hs (by omega) (by omega) fN hN fK fL fM fP bK.1 (by have:=bK.2;omega) bL.1 (by have:=bL.2;omega) bM.1 (by have:=bM.2;omega)
    have hR:MX s (m:Int)=if MP (SO (s.extract m 64)) (SP (s.extract m 64)) (SQ (s.extract m 64)) (RX (s.extract m 64)) (m:Int)=s then some (SO (s.extract m 64),SP (s.extract m 64),SQ (s.extract m 64),RX (s.extract m 64)) else none:=by
     unfold MX;rw[DG]
     by_cases hF:MP (SO (s.extract m 64)) (SP (s.extract m 64)) (SQ (s.extract m 64)) (RX (s.extract m 64)) (m:Int)=s
     ·rw[AK hF,AK ⟨by omega,by omega,hs,by omega,hF⟩]
     rw[AE hF,AE (λhh=>hF hh.2.2.2.2)]
    rw[hR];exact h
   rw[YZ (λhh=>hN (by have:=hh.2.2.2.1;rw[DG]at this;omega))]
   exact vV s m _ w ty v hv hg hs (by omega) (by omega) fN (by omega) (by have:=bN.2;omega)
  rw[YZ (λhh=>hs hh.2.2.1)]
  exact Da s m w ty v hv hg hn hs
 rw[YZ (λhh=>hn ⟨hh.1,hh.2.1⟩)]
 exact Dz s n w ty v hv hg hn
theorem tR(e t:Addr)(aA:Value)(w:World)(hg:w.cell? ⟨0,0,none⟩=some (.iface 318 (.agg #[.pointer (some ⟨3,223,none⟩)])))(aC:w.cell? t=some aA)(aB:w.frozen? t=false)(aD:t.block<w.heap.size):Calls prog 240 #[.iface 299 (.pointer (some e)),.iface 301 (.pointer (some t))] w λev w'=>ev=.returned (.bool true)/\Below t.block w w' :=(Gp e t aA w hg aC aB).i λev w' h=>⟨h.1,by
  rw[h.2]
  exact(((((AB t.block w).alloc (by omega) _).alloc (by simp;omega) _).alloc (by simp;omega) _).alloc (by simp;omega) _).setCell (AA _) _⟩
theorem Bx(t:Value)(w:World):Calls prog 240 #[.nilIface,t] w λe w'=>e=.returned (.bool false)/\Below w.heap.size w w' :=(Cc t w).i λe w' h=>⟨h.1,by rw[h.2];exact AB _ _⟩
theorem RB.past{W w w':World}(h:RB W w){B:Nat}(hB:W.heap.size<B)(hb:Below B w w'):RB W w':=by
 have hs:=h.size
 have hc:∀i,w'.cell? ⟨W.heap.size,i,none⟩=w.cell? ⟨W.heap.size,i,none⟩:=λi=>hb.cell (p:=⟨W.heap.size,i,none⟩) (by show W.heap.size<_;omega)
 have hf:∀i,w'.frozen? ⟨W.heap.size,i,none⟩=w.frozen? ⟨W.heap.size,i,none⟩:=λi=>hb.frozen (p:=⟨W.heap.size,i,none⟩) (by show W.heap.size<_;omega)
 exact⟨AL hs hb.size,h.bel.j (hb.i (by omega)),(hc _).j h.c0,(hc _).j h.c1,(hc _).j h.c2,(hc _).j h.c3,(hf _).j h.f0,(hf _).j h.f1,(hf _).j h.f2,(hf _).j h.f3⟩
theorem oN(s:ByteArray)(n:Int)(w:World)(ty:TypeId)(v:Value)(hv:w.cell? ⟨1,0,none⟩=some (.iface ty v))(h0:w.cell? ⟨0,0,none⟩=some (.iface 318 (.agg #[.pointer (some ⟨3,223,none⟩)])))(hg:1<w.heap.size):Calls prog 231 #[.string s,.int .i64 n] w λe w'=>e=.returned (TW (MX s n))/\Below w.heap.size w w':=by
 obtain⟨R,HR⟩:∃R,Hid (R=MX s n):=⟨_,LQ rfl⟩;rw[<-HR.o]
 have aH:∀o,Below w.heap.size w (w.alloc o):=λo=>LG _ _
 have aG:∀o,(w.alloc o).cell? ⟨1,0,none⟩=some (.iface ty v):=λo=>(EK _ _ _ (by exact hg)).j hv
 have HG:Hid (∀w',Below w.heap.size w w'->w'.cell? ⟨0,0,none⟩=some (.iface 318 (.agg #[.pointer (some ⟨3,223,none⟩)]))):=λw' hb=>(hb.cell (p:=⟨0,0,none⟩) (by show 0<_;omega)).j h0
 have aE:=λo=>uS s n (w.alloc o) ty v (aG o) (by simp;omega)
 rw[<-HR.o]at aE
 cases R with
 | none =>
  simp only[XV]at aE;go_enter func231,ntmps231
  go_wp2_with (first|(go_at_call 239;refine(aE _).i ?_;rintro e w2 ⟨⟨E,rfl⟩,aD⟩;have aC:=LQ ((RB.new w _).I aD);clear aD)|(go_at_call 240;refine(tR E ⟨w2.heap.size+1,0,none⟩ (.pointer none) _ (HG.o _ ((aC.o.alloc _).alloc _).bel) (by go_simp) (by go_simp) (by simp)).i ?_;rintro e w4 ⟨rfl,aB⟩;have aA:=((aC.o.alloc _).alloc _).past (B:=w2.heap.size+1) (by have:=aC.o.size;omega) aB;clear aB;have c0:=aA.c0;have c1:=aA.c1;have c2:=aA.c2;have c3:=aA.c3;have f0:=aA.f0;have f1:=aA.f1;have f2:=aA.f2;have f3:=aA.f3;have aF:=LQ aA;clear aA))
  refine AJ (v:=.tuple #[NH 0 0 0 ⟨#[]⟩,.bool false]) (by simp[results,results231,go_sem,c0,c1,c2,c3]) rfl ⟨rfl,?_⟩;exact(((aF.o.bel.setCell (AA _) _).setCell (AA _) _).setCell (AA _) _).setCell (AA _) _
 | some x =>
  obtain⟨k,l,m,p⟩:=x;simp only[XV]at aE;go_enter func231,ntmps231
  go_wp2_with (first|(go_at_call 239;refine(aE _).i ?_;rintro e w2 ⟨⟨E,rfl⟩,aD⟩;have aC:=LQ ((RB.new w _).I aD);clear aD)|(go_at_call 240;refine(Bx _ _).i ?_;rintro e w4 ⟨rfl,aB⟩;have aA:=((aC.o.alloc _).alloc _).I aB;have hp:=((qA w2 w2.heap.size rfl (.int .i64 k) (.int .i64 l) (.int .i64 m) (.string p) _).I (LG _ _) (by simp)).I aB (by simp<;>omega);clear aB;have p0:=hp.c0;have p1:=hp.c1;have p2:=hp.c2;have p3:=hp.c3;clear hp;have c0:=aA.c0;have c1:=aA.c1;have c2:=aA.c2;have c3:=aA.c3;have f0:=aA.f0;have f1:=aA.f1;have f2:=aA.f2;have f3:=aA.f3;have aF:=LQ aA;clear aA))
  refine AJ (v:=.tuple #[NH k l m p,.bool true]) (by simp[results,results231,go_sem,c0,c1,c2,c3]) rfl ⟨rfl,?_⟩;exact(((aF.o.bel.setCell (AA _) _).setCell (AA _) _).setCell (AA _) _).setCell (AA _) _
section
set_option maxHeartbeats 4000000
@[reducible] def WR(x:RtT):Value:=MV x.1 x.2.1 x.2.2.1 x.2.2.2
def SK(s:ByteArray)(n:Int):RtT :=match MX s n with
 | none=>MJ
 | some (_,l,m,p)=>if p.size=5/\ON m (QK p) (PZ p) l n=s then (m,QK p,PZ p,l) else MJ
theorem Fp(s:ByteArray)(n:Int)(w:World)(k l m:Int)(p:ByteArray)(hR:MX s n=some (k,l,m,p))(HS:∀wx,Below w.heap.size w wx->Calls prog 231 #[.string s,.int .i64 n] wx λe w'=>e=.returned (.tuple #[NH k l m p,.bool true])/\Below wx.heap.size wx w')(h5:p.size=5):Calls prog 208 #[.string s,.int .i64 n] w λe w'=>e=.returned (WR (SK s n))/\Below w.heap.size w w':=by
 have bE:∀o,Below w.heap.size w (w.alloc o):=λo=>(AB _ _).alloc (AA _) _
 obtain⟨_,_,cO,cP,cM,cN,cQ⟩:=SR hR;obtain⟨RR,aQ⟩:∃RR,Hid (RR=SK s n):=⟨_,LQ rfl⟩;obtain⟨H,HH⟩:∃H,Hid (H=QK p):=⟨_,LQ rfl⟩;obtain⟨F,HF⟩:∃F,Hid (F=PZ p):=⟨_,LQ rfl⟩;obtain⟨FM,aX⟩:∃FM,Hid (FM=ON m H F l n):=⟨_,LQ rfl⟩
 have aZ:Hid (RR=if FM=s then (m,H,F,l) else MJ):=by
  show _=_;rw[aQ.o,aX.o,HH.o,HF.o];unfold SK;rw[hR];simp[h5]
 rw[<-aQ.o];clear hR aQ;have cA:(p.size:Int)=5:=by omega
 have bW:(LF p).length=5:=by rw[ML,h5]
 have rg:=an p;have b1:=WV 1 ((LF p).take 1) (by simp;omega) (λy hy=>rg y (DQ hy));have b2:=WV 4 (((LF p).drop 1).take 4) (by simp;omega) (λy hy=>rg y (EW (DQ hy)));have cF:0<=H:=by rw[HH.o];exact b1.1
 have cH:H<=255:=by rw[HH.o];have:=b1.2;unfold QK;omega
 have cB:0<=F:=by rw[HF.o];exact b2.1
 have cC:F<=4294967295:=by rw[HF.o];have:=b2.2;unfold PZ;omega
 have cI:IntKind.i64.wrap H=H:=by simp[IntKind.wrap,IntKind.bits,IntKind.signed];omega
 have cE:IntKind.i64.wrap F=F:=by simp[IntKind.wrap,IntKind.bits,IntKind.signed];omega
 obtain⟨xs,HX⟩:∃xs,Hid (xs=LF p):=⟨_,LQ rfl⟩;have aY:Hid (∀y∈xs,0<=y/\y<=255):=by rw[HX.o];exact rg
 have bP:Hid (H=MR ((xs.drop 0).take 1)):=by show _=_;rw[HX.o,DY];exact HH.o
 have bI:Hid (F=MR ((xs.drop 1).take 4)):=by show _=_;rw[HX.o];exact HF.o
 rw[<-HX.o]at bW;clear rg b1 b2
 have aR:=λwx=>oW m H F l n wx
 rw[<-aX.o]at aR;have bV:=LQ (λwx=>E6 wx p);go_enter func208,ntmps208;go_wp2_with (go_at_call 231;refine(HS _ (bE _)).i ?_;rintro e w2 ⟨rfl,aS⟩;have aO:=LQ ((B4.new w (.int .i64 0) (.int .i64 0) (.int .i64 0) (.int .i64 0) _).I aS);have aF:=LQ ((bE _).j (aS.i (by simp)));clear aS;obtain⟨cap,wB,bF,aK,aI,aM,aT⟩:=bV.o (w2.alloc (.cells #[.int .i64 k,.int .i64 l,.int .i64 m,.string p] 204));rw[h5]at bF aT;have aG:=(B4.new w2 (.int .i64 k) (.int .i64 l) (.int .i64 m) (.string p) 204).I aK;have aV:=LQ ((aO.o.alloc _).I aK);have aC:=LQ ((aF.o.alloc aF.o.size _).j (aK.i (aF.o.alloc aF.o.size _).size));have bU:w.heap.size<w2.heap.size:=aO.o.lt;clear aO aF aK;simp only[AU]at aI aM bF;rw[<-HX.o]at aM;have aA:=LQ aM;clear aM;have p1:=aG.c1;have p2:=aG.c2;have p3:=aG.c3;have aP:=LQ aG;clear aG);have b7:w2.heap.size+1<wB.heap.size:=by omega
 have aN:Hid (∀o,Fm (wB.alloc o) (w2.heap.size+1) xs):=λo=>aA.o.I ((AB _ _).alloc (AA _) _) b7
 have cL:(1:Int)<=(cap:Int):=by omega
 have cJ:¬cap=1:=by omega
 have HT:Hid (∀w',Below wB.heap.size wB w'->w'.cell? ⟨w2.heap.size,1,none⟩=some (.int .i64 l)/\w'.cell? ⟨w2.heap.size,2,none⟩=some (.int .i64 m)/\Below wB.heap.size wB w'):=λw' hb=>⟨(aP.o.I hb).c1,(aP.o.I hb).c2,hb⟩
 refine(λHG:Wr ?G=>?main) ⟨?pf⟩
 case main =>
  go_region_held3 (λw'=>w'.cell? ⟨w2.heap.size,1,none⟩=some (.int .i64 l)/\w'.cell? ⟨w2.heap.size,2,none⟩=some (.int .i64 m)/\Below wB.heap.size wB w')
   (first|assumption|exact HT.o _ ((AB _ _).drew)|exact HT.o _ (((AB _ _).drew).alloc (AA _) _)|exact HT.o _ (((AB _ _).alloc (AA _) _).drew)|exact HT.o _ ((AB _ _).alloc (AA _) _))
   (first
    | (have _g:=g1;go_at_call 232;refine(YR (w2.heap.size+1) xs aY 1 4 _ (by omega) (by omega) _ (by first|exact aA.o.drew|exact(aN.o _).drew) F bI.o).i ?_;rintro e w7 ⟨rfl,rfl⟩)
    | (go_at_call 232;refine(YR (w2.heap.size+1) xs aY 0 1 _ (by omega) (by omega) _ (by first|exact aA.o.drew|exact(aN.o _).drew) H bP.o).i ?_;rintro e w7 ⟨rfl,rfl⟩;have g1:=True.intro))
  all_goals exact HG.o
 have hq:=(B4.new wB (.int .i64 m) (.int .i64 H) (.int .i64 F) (.int .i64 l) 45).drew;have aL:Below wB.heap.size wB (wB.alloc (.cells #[.int .i64 m,.int .i64 H,.int .i64 F,.int .i64 l] 45)).drew:=((AB _ _).alloc (AA _) _).drew;obtain⟨wq,bC⟩:∃wq,wq=(wB.alloc (.cells #[.int .i64 m,.int .i64 H,.int .i64 F,.int .i64 l] 45)).drew:=⟨_,rfl⟩;rw[aI]at hq;rw[<-bC]at hq aL⊢;have bT:=LQ (aV.o.I aL);have aU:=LQ (aC.o.j (aL.i (by have:=aC.o.size;omega)));have bQ:=LQ hq;clear bC HT aL aV aC aP aA aN p1 p2 p3;have q0:=hq.c0;have q1:=hq.c1;have q2:=hq.c2;have q3:=hq.c3;clear hq
 by_cases aE:FM=s
 focus
  have aD:Hid (RR=(m,H,F,l)):=by show _=_;rw[aZ.o,AK aE]
  have bJ:=LQ aE;clear aE;rw[bJ.o]at aR
 rotate_left
 focus
  have aD:Hid (RR=MJ):=by show _=_;rw[aZ.o,AE aE]
  have hG:(!FM.toList == s.toList)=true:=by simp only[KH,EP];intro hh;rw[DF,DF]at hh;exact aE (FA (JC hh))
  clear aE
 rotate_left
 all_goals
  go_wp2_with (first|(go_at_call 216;refine(aR _).i ?_;rintro e w7 ⟨rfl,aJ⟩;have aB:=bT.o.I aJ;have aH:=bQ.o.I aJ;have aW:=LQ (aU.o.j (aJ.i aU.o.size));clear aJ;have c0:=aB.c0;have c1:=aB.c1;have c2:=aB.c2;have c3:=aB.c3;have f0:=aB.f0;have f1:=aB.f1;have f2:=aB.f2;have f3:=aB.f3;have r0:=aH.c0;have r1:=aH.c1;have r2:=aH.c2;have r3:=aH.c3;clear aB aH))
 ·refine AJ (v:=MV m H F l) (by simp[results,results208,go_sem,c0,c1,c2,c3]) rfl ⟨by rw[aD.o],?_⟩
  exact(((aW.o.setCell (AA _) _).setCell (AA _) _).setCell (AA _) _).setCell (AA _) _
 refine AJ (v:=MV 0 0 0 0) (by simp[results,results208,go_sem,c0,c1,c2,c3]) rfl ⟨by rw[aD.o];rfl,?_⟩
 exact(((aW.o.setCell (AA _) _).setCell (AA _) _).setCell (AA _) _).setCell (AA _) _
theorem vn(s:ByteArray)(n:Int)(w:World)(k l m:Int)(p:ByteArray)(b:Bool)(HS:∀wx,Below w.heap.size w wx->Calls prog 231 #[.string s,.int .i64 n] wx λe w'=>e=.returned (.tuple #[NH k l m p,.bool b])/\Below wx.heap.size wx w')(aH:p.size<=64)(aE:b=false\/p.size≠5)(aF:Hid (SK s n=MJ)):Calls prog 208 #[.string s,.int .i64 n] w λe w'=>e=.returned (WR (SK s n))/\Below w.heap.size w w':=by
 have aD:∀o,Below w.heap.size w (w.alloc o):=λo=>(AB _ _).alloc (AA _) _
 cases b
 focus
  focus
  rotate_left
 rotate_left
 focus
  focus
   have aG:((p.size:Int) != 5)=true:=by
    have h:=aE.resolve_left (by simp);simp;omega
  rotate_left
 rotate_left
 all_goals
  clear aE;go_enter func208,ntmps208;go_wp2_with (go_at_call 231;refine(HS _ (aD _)).i ?_;rintro e w2 ⟨rfl,aB⟩;have aA:=LQ ((B4.new w (.int .i64 0) (.int .i64 0) (.int .i64 0) (.int .i64 0) _).I aB);have aC:=LQ ((aD _).j (aB.i (by simp)));clear aB;have c0:=λo=>(aA.o.alloc o).c0;have c1:=λo=>(aA.o.alloc o).c1;have c2:=λo=>(aA.o.alloc o).c2;have c3:=λo=>(aA.o.alloc o).c3;have f0:=λo=>(aA.o.alloc o).f0;have f1:=λo=>(aA.o.alloc o).f1;have f2:=λo=>(aA.o.alloc o).f2;have f3:=λo=>(aA.o.alloc o).f3);refine AJ (v:=MV 0 0 0 0) (by simp[results,results208,go_sem,c0,c1,c2,c3]) rfl ⟨by rw[aF.o];rfl,?_⟩;exact((((aC.o.alloc aC.o.size _).setCell (AA _) _).setCell (AA _) _).setCell (AA _) _).setCell (AA _) _
theorem Fd(s:ByteArray)(n:Int)(w:World)(ty:TypeId)(v:Value)(hv:w.cell? ⟨1,0,none⟩=some (.iface ty v))(h0:w.cell? ⟨0,0,none⟩=some (.iface 318 (.agg #[.pointer (some ⟨3,223,none⟩)])))(hg:1<w.heap.size):Calls prog 208 #[.string s,.int .i64 n] w λe w'=>e=.returned (WR (SK s n))/\Below w.heap.size w w':=by
 have HS:=λwx (hb:Below w.heap.size w wx)=>oN s n wx ty v ((hb.cell (p:=⟨1,0,none⟩) hg).j hv) ((hb.cell (p:=⟨0,0,none⟩) (by show 0<_;omega)).j h0) (by have:=hb.size;omega)
 cases hR:MX s n with
 | none =>
  rw[hR]at HS;exact vn s n w 0 0 0 ⟨#[]⟩ false HS (by decide) (.inl rfl) (by show _=_;unfold SK;rw[hR])
 | some x =>
  obtain⟨k,l,m,p⟩:=x;rw[hR]at HS
  by_cases h5:p.size=5
  ·exact Fp s n w k l m p hR HS h5
  exact vn s n w k l m p true HS (SR hR).2.2.2.2.2.2 (.inr h5) (by show _=_;unfold SK;rw[hR];simp[h5])
theorem Ih(x:RtT)(w:World)(h:0<=x.1):Calls prog 209 #[WR x] w λe w'=>e=.returned (.int .i64 (x.1 % 2))/\Below w.heap.size w w':=by
 obtain⟨t,a,b,c⟩:=x;go_enter func209,ntmps209;go_wp2;go_ret;refine⟨?_,(AB _ _).alloc (AA _) _⟩;have:t.tmod 2=t % 2:=GC h
 first|rfl|simp[this]
theorem Hf(s:ByteArray)(a n:Int)(ha:a=0\/a=1):(if (SK s n).1 % 2=a then SK s n else MJ)=(NC s a n).getD MJ:=by
 unfold SK NC
 cases MX s n with
 | none=>exact ite_self _
 | some x =>
  obtain⟨k,l,m,p⟩:=x
  by_cases h1:p.size=5/\ON m (QK p) (PZ p) l n=s
  ·by_cases h2:m % 2=a
   ·simp[h1.1,h1.2,h2]
   simp[h1.1,h1.2,h2]
  simp only[AE h1]
  have h3:¬(p.size=5/\ON m (QK p) (PZ p) l n=s/\m % 2=a):=λh=>h1 ⟨h.1,h.2.1⟩
  rw[AE h3];exact ite_self _
theorem rU(s:ByteArray)(n:Int):0<=(SK s n).1:=by
 unfold SK
 cases h:MX s n with
 | none=>simp[MJ]
 | some x =>
  obtain⟨k,l,m,p⟩:=x;have:=(SR h).2.2.1;show 0<=(if p.size=5/\ON m (QK p) (PZ p) l n=s then (m,QK p,PZ p,l) else MJ).1
  split
  ·show 0<=m;omega
  simp[MJ]
theorem Bu(v0 v1:Value)(x:List Int)(a n:Int)(w:World)(ha:a=0\/a=1)(aH:x.length=64)
  (aS:∀wx,Below w.heap.size w wx->Calls prog 270 #[.agg #[v0,v1],.int .i64 a] wx λe w'=>e=.returned (.tuple #[.agg (x.map (Value.int .u8)).toArray,.bool true])/\Below wx.heap.size wx w')
  (ty:TypeId)(v:Value)(hv:w.cell? ⟨1,0,none⟩=some (.iface ty v))(h0:w.cell? ⟨0,0,none⟩=some (.iface 318 (.agg #[.pointer (some ⟨3,223,none⟩)])))(hg:1<w.heap.size):Calls prog 164 #[.iface 260 (.agg #[v0,v1]),.int .i64 a,.int .i64 n] w λe w'=>e=.returned (WR ((NC (strOfNums x) a n).getD MJ))/\Below w.heap.size w w':=by
 have aV:∀o,Below w.heap.size w (w.alloc o):=λo=>(AB _ _).alloc (AA _) _
 rw[<-Hf _ a n ha]
 have aF:=λwx (hb:Below w.heap.size w wx)=>Fd (strOfNums x) n wx ty v ((hb.cell (p:=⟨1,0,none⟩) hg).j hv) ((hb.cell (p:=⟨0,0,none⟩) (by show 0<_;omega)).j h0) (by have:=hb.size;omega)
 have aB:=rU (strOfNums x) n;obtain⟨RR,aU⟩:∃RR,SK (strOfNums x) n=RR:=⟨_,rfl⟩;rw[aU]at aF aB⊢;clear aU hv h0;obtain⟨t,h,f,l⟩:=RR;have bJ:(x.map (Value.int .u8)).toArray.size=64:=by simp[aH]
 have aJ:Hid ((prog.info? 168).map (·.size)=some (x.map (Value.int .u8)).length):=by show _=_;rw[BJ,aH];kernel_rfl
 have bF:=λk wx=>vk k v0 v1 wx
 obtain⟨sx,aT⟩:∃sx,Hid (sx=strOfNums x):=⟨_,LE rfl⟩;rw[<-aT.o]at aF;have bC:=LE (λwx=>Ih (t,h,f,l) wx aB);have aL:=LE aF;have aK:=LE aS;clear aF aS
 by_cases he:t % 2=a
 focus
  have aP:(if ((t,h,f,l):RtT).1 % 2=a then ((t,h,f,l):RtT) else MJ)=(t,h,f,l):=AK he
 rotate_left
 focus
  have aP:(if ((t,h,f,l):RtT).1 % 2=a then ((t,h,f,l):RtT) else MJ)=MJ:=AE he
 rotate_left
 all_goals
  rw[aP];clear aP;go_enter func164,ntmps164;go_wp2_with fail;refine(aK.o _ (aV _)).i ?_;rintro e w2 ⟨rfl,aM⟩;have aW:=LE ((B4.new w (.int .i64 0) (.int .i64 0) (.int .i64 0) (.int .i64 0) 45).I aM);have aQ:=LE ((aV (.cells #[.int .i64 0,.int .i64 0,.int .i64 0,.int .i64 0] 45)).j (aM.i (by simp)));clear aM bF
  go_wp2_with (first
   | (with_reducible refine UX 168 _ _ rfl ?_;refine ZA rfl 168 _ _ rfl (x.map (Value.int .u8)) (UA x) rfl rfl _ _ (by rw[BJ,aH];kernel_rfl) aJ.o ?_;intro wx aD aO bI;have bE:=aD.text (P:=prog) x 0 64 64 aH (λi hi=>by simp[List.getD,show i<x.length by omega]) 172 5 9 underlying172 underlying5 underlying9;rw[<-aT.o]at bE;have aZ:=LE (aW.o.I aO);have aI:=LE (aQ.o.j (aO.i aQ.o.size));clear aO bI aD)
   | (go_at_call 208;refine(aL.o _ aI.o).i ?_;rintro e w3 ⟨rfl,aN⟩;have aX:=LE (aZ.o.I aN);have aE:=LE (aI.o.j (aN.i aI.o.size));clear aN)
   | (go_at_call 209;refine(bC.o _).i ?_;rintro e w4 ⟨rfl,aG⟩;have aY:=LE ((aX.o.alloc _).I aG);have aC:=(B4.new w3 (.int .i64 t) (.int .i64 h) (.int .i64 f) (.int .i64 l) 45).I aG;have aR:=LE ((aE.o.alloc aE.o.size _).j (aG.i (aE.o.alloc aE.o.size _).size));clear aG;have r0:=aC.c0;have r1:=aC.c1;have r2:=aC.c2;have r3:=aC.c3;clear aC;have aA:=aY.o;have c0:=aA.c0;have c1:=aA.c1;have c2:=aA.c2;have c3:=aA.c3;have f0:=aA.f0;have f1:=aA.f1;have f2:=aA.f2;have f3:=aA.f3;clear aA))
 ·refine AJ (v:=MV t h f l) (by simp[results,results164,go_sem,c0,c1,c2,c3]) rfl ⟨rfl,?_⟩
  exact(((aR.o.setCell (AA _) _).setCell (AA _) _).setCell (AA _) _).setCell (AA _) _
 refine AJ (v:=MV 0 0 0 0) (by simp[results,results164,go_sem,c0,c1,c2,c3]) rfl ⟨rfl,?_⟩
 exact(((aR.o.setCell (AA _) _).setCell (AA _) _).setCell (AA _) _).setCell (AA _) _
theorem Gi(a:Option Addr)(ss:List ByteArray)(c:Nat)(a':Option Addr)(ws:List (Int×ByteArray))(c':Nat)(n:Int)(w:World)(h:Strs w a ss)(h':Wrs w a' ws)(hl:ss.length<=1048576)(aE:ws.length<=1048576)(hs:∀s∈ss,s.size<=1048576)(aF:∀x∈ws,x.2.size<=1048576)(aC:¬(LS ss ws=true/\1<=n/\n<=8)):Calls prog 120 #[LN a ss.length c a' ws.length c',.int .i64 n] w λe w'=>e=.returned (MV 0 0 0 0)/\Below w.heap.size w w':=by
 have aB:∀o1 o2,Below w.heap.size w ((w.alloc o1).alloc o2):=λo1 o2=>((AB _ _).alloc (AA _) _).alloc (by simp) _
 cases hok:LS ss ws
 focus
  clear aC;go_enter func120,ntmps120;go_wp2_with fail;refine(UI a ss c a' ws c' _ (h.I (aB _ _)) (h'.I (aB _ _)) hl aE hs aF).i ?_;rw[hok];rintro e w1 ⟨rfl,aA⟩;have hr:=((B4.new (w.alloc (.cells #[.slice a ss.length c,.slice a' ws.length c'] 44)) (.int .i64 0) (.int .i64 0) (.int .i64 0) (.int .i64 0) 45).I aA);rw[AU]at hr;have aD:=LE ((aB (.cells #[.slice a ss.length c,.slice a' ws.length c'] 44) (.cells #[.int .i64 0,.int .i64 0,.int .i64 0,.int .i64 0] 45)).j (aA.i (by simp<;>omega)));clear aA;have c0:=hr.c0;have c1:=hr.c1;have c2:=hr.c2;have c3:=hr.c3;have f0:=hr.f0;have f1:=hr.f1;have f2:=hr.f2;have f3:=hr.f3;clear hr;go_wp2
 rotate_left
 focus
  have hd:decide (1<=n/\n<=8)=false:=AI (λx=>aC ⟨hok,x⟩);clear aC;go_enter func120,ntmps120;go_wp2_with fail;refine(UI a ss c a' ws c' _ (h.I (aB _ _)) (h'.I (aB _ _)) hl aE hs aF).i ?_;rw[hok];rintro e w1 ⟨rfl,aA⟩;have hr:=((B4.new (w.alloc (.cells #[.slice a ss.length c,.slice a' ws.length c'] 44)) (.int .i64 0) (.int .i64 0) (.int .i64 0) (.int .i64 0) 45).I aA);rw[AU]at hr;have aD:=LE ((aB (.cells #[.slice a ss.length c,.slice a' ws.length c'] 44) (.cells #[.int .i64 0,.int .i64 0,.int .i64 0,.int .i64 0] 45)).j (aA.i (by simp<;>omega)));clear aA;have c0:=hr.c0;have c1:=hr.c1;have c2:=hr.c2;have c3:=hr.c3;have f0:=hr.f0;have f1:=hr.f1;have f2:=hr.f2;have f3:=hr.f3;clear hr
  go_wp2_with (first|(go_at_call 72;refine(QZ _ _).i ?_;rw[hd];rintro e wz ⟨rfl,aG⟩;rw[aG];clear aG wz))
 rotate_left
 all_goals
  refine AJ (v:=MV 0 0 0 0) (by simp[results,results120,go_sem,c0,c1,c2,c3]) rfl ⟨rfl,?_⟩;exact(((aD.o.setCell (by show _<=w.heap.size+1;omega) _).setCell (by show _<=w.heap.size+1;omega) _).setCell (by show _<=w.heap.size+1;omega) _).setCell (by show _<=w.heap.size+1;omega) _
theorem s7(a:Option Addr)(ss:List ByteArray)(c:Nat)(a':Option Addr)(ws:List (Int×ByteArray))(c':Nat)(n:Int)(w:World)(h:Strs w a ss)(h':Wrs w a' ws)(hl:ss.length<=1048576)(dH:ws.length<=1048576)(hs:∀s∈ss,s.size<=1048576)(dN:∀x∈ws,x.2.size<=1048576)(ty:TypeId)(v:Value)(hv:w.cell? ⟨1,0,none⟩=some (.iface ty v))(h0:w.cell? ⟨0,0,none⟩=some (.iface 318 (.agg #[.pointer (some ⟨3,223,none⟩)])))(hg:1<w.heap.size)(bE:LS ss ws=true)(hn:1<=n/\n<=8):Calls prog 120 #[LN a ss.length c a' ws.length c',.int .i64 n] w λe w'=>e=.returned (WR (MS ss ws n))/\Below w.heap.size w w':=by
 have aY:∀o1 o2,Below w.heap.size w ((w.alloc o1).alloc o2):=λo1 o2=>((AB _ _).alloc (AA _) _).alloc (by simp) _
 have hd:decide (1<=n/\n<=8)=true:=AO hn;obtain⟨RES,aH⟩:∃RES,Hid (RES=MS ss ws n):=⟨_,LE rfl⟩;rw[<-aH.o];obtain⟨⟨dZ,cI,cJ⟩,cY,hw⟩:=OZ bE;go_enter func120,ntmps120;go_wp2_with fail;refine(UI a ss c a' ws c' _ (h.I (aY _ _)) (h'.I (aY _ _)) hl dH hs dN).i ?_;rw[bE];rintro e w1 ⟨rfl,aO⟩;have HX:=LE ((((Cx.new w (.slice a ss.length c) (.slice a' ws.length c') 44)).I (MB _ (.cells #[.int .i64 0,.int .i64 0,.int .i64 0,.int .i64 0] 45))).I aO);have bF:=((B4.new (w.alloc (.cells #[.slice a ss.length c,.slice a' ws.length c'] 44)) (.int .i64 0) (.int .i64 0) (.int .i64 0) (.int .i64 0) 45).I aO);rw[AU]at bF;have bW:=LE bF;have aM:=LE ((aY (.cells #[.slice a ss.length c,.slice a' ws.length c'] 44) (.cells #[.int .i64 0,.int .i64 0,.int .i64 0,.int .i64 0] 45)).j (aO.i (by simp<;>omega)));clear aO bF;have q0:=HX.o.c0;have q1:=HX.o.c1
 go_wp2_with (first|(go_at_call 72;refine(QZ _ _).i ?_;rw[hd];rintro e wz ⟨rfl,cN⟩;rw[cN];clear cN wz))
 refine(aw a ss c a' ws c' _ (h.I aM.o) (h'.I aM.o) cI cJ (λs hs=>by have:=cY s hs;omega) (λx hx=>by have:=AZ (hw x hx);omega)).i ?_;rintro e w2 ⟨g,vv,rfl,cM,aL,dV,aZ⟩;clear q0 q1
 obtain⟨a2,c2,dQ,cL⟩:∃a2 c2,vv=.slice a2 (LP ws).length c2/\OwnS w2 a2 (NB (LP ws)):=by
  rw[PL];rcases MM aL with ⟨e,h0⟩|⟨g2,cap,e,h1,h2,hr⟩
  ·have:ws=[]:=AC h0
   subst this;exact⟨none,0,e,.inl rfl⟩
  exact⟨_,cap,e,.inr ⟨g2,rfl,hr⟩⟩
 subst dQ;have bP:=LE (Below.then aM.o (AA _) aZ);have b7:=LE (bW.o.I aZ);clear aZ aL;go_wp2_with fail;refine(nV _ _ _ _ _ _ _).i ?_;rintro e w3 ⟨rfl,aI⟩;have aN:=LE (Below.then bP.o (AA _) aI);have aT:=LE (b7.o.I aI);have aS:=LE (cM.I aI);have HO:=LE (cL.I aI);clear cM cL aI
 have aD:∀p∈LP ws,p.2.length=64:=λp hp=>by
  obtain⟨x,hx,rfl⟩:=CE.1 hp;have:=AZ (hw x hx);show(LF x.2).length=64;rw[ML];omega
 have aK:Hld w3 a2 (LP ws):=by
  rcases HO.o with h0|⟨g2,rfl,h2⟩
  ·refine .inl (AC ?_)
   have:=BT List.length h0;rw[lk _ aD,AR]at this;omega
  exact h2.hld aD
 obtain⟨X,cX⟩:∃X:Nat->List Int,Hid (X=λm=>(QE (LP ws) (ss.map LF)).getD m []):=⟨_,LE rfl⟩
 have aW:Hid (∀m:Nat,X m=(QE (LP ws) (ss.map LF)).getD m []):=λm=>by rw[cX.o]
 have cW:Hid (∀m:Nat,m<2->(X m).length=64):=λm hm=>by
  rw[aW.o];exact YL (jr _ _ aD aS.o.len) (by rw[ZZ];simp;omega)
 have cC:Hid (∀m:Nat,m<2->∀wx,Below w3.heap.size w3 wx->Calls prog 270 #[.agg #[.slice a2 (LP ws).length c2,.iface 133 (.slice (some ⟨g,0,none⟩) ss.length ss.length)],.int .i64 (m:Int)] wx λe w'=>e=.returned (.tuple #[.agg ((X m).map (Value.int .u8)).toArray,.bool true])/\Below wx.heap.size wx w'):=λm hm wx hb=>by
  rw[aW.o];exact nI a2 (LP ws) c2 g ss.length ss.length m (ss.map LF) wx (aK.I hb) aD (λp hp=>by obtain⟨y,hy,rfl⟩:=CE.1 hp;exact(AZ (hw y hy)).1) (by rw[PL];exact cJ) (aS.o.I hb) (by simp) cI (by omega)
 have HF:Hid (RES=if PM (PM MJ ((NC (strOfNums (X 0)) 0 n).getD MJ)) ((NC (strOfNums (X 1)) 1 n).getD MJ)=MJ then ((0,0,1,0):RtT) else PM (PM MJ ((NC (strOfNums (X 0)) 0 n).getD MJ)) ((NC (strOfNums (X 1)) 1 n).getD MJ)):=by
  show _=_
  have hX:∀m:Nat,m<2->strOfNums (X m)=(NY ws ss).getD m empty:=λm hm=>by
   have dM:m<(QE (LP ws) (ss.map LF)).length:=by rw[ZZ];simp;omega
   rw[aW.o,<-kk];simp[NK,List.getD,dM]
  rw[hX 0 (by omega),hX 1 (by omega),yL,aH.o];unfold MS;rw[AK ⟨bE,hn⟩]
 obtain⟨cv,cS⟩:∃cv,Hid (cv=Value.iface 133 (.slice (some ⟨g,0,none⟩) ss.length ss.length)):=⟨_,LE rfl⟩;rw[<-cS.o]at cC⊢;clear HO aS aK bW b7 aM bP HX;have dR:w.heap.size<=w3.heap.size:=aN.o.size;have aX:=aT.o.lt;obtain⟨A0,bI⟩:∃A0,Hid (A0=(NC (strOfNums (X 0)) 0 n).getD MJ):=⟨_,LE rfl⟩;obtain⟨A1,bJ⟩:∃A1,Hid (A1=(NC (strOfNums (X 1)) 1 n).getD MJ):=⟨_,LE rfl⟩;rw[<-bI.o,<-bJ.o]at HF;have cU:=LE (λwx (hb:Below w.heap.size w wx)=>((hb.cell (p:=⟨1,0,none⟩) hg).j hv));have cT:=LE (λwx (hb:Below w.heap.size w wx)=>((hb.cell (p:=⟨0,0,none⟩) (by show 0<_;omega)).j h0));clear hv h0;go_wp2_with fail;have bC:=B4.new w3 (.int .i64 0) (.int .i64 0) (.int .i64 0) (.int .i64 0) 45;have aJ:Below w3.heap.size w3 (w3.alloc (.cells #[.int .i64 0,.int .i64 0,.int .i64 0,.int .i64 0] 45)):=(AB _ _).alloc (AA _) _;have dP:(w3.alloc (.cells #[.int .i64 0,.int .i64 0,.int .i64 0,.int .i64 0] 45)).heap.size=w3.heap.size+1:=by simp
 obtain⟨wb,cB⟩:∃wb,wb=w3.alloc (.cells #[.int .i64 0,.int .i64 0,.int .i64 0,.int .i64 0] 45):=⟨_,rfl⟩;rw[<-cB]at bC aJ dP⊢;have cQ:=LE bC;have cP:=LE aJ;have cV:=LE (aT.o.I aJ);have bT:=LE (aN.o.j (aJ.i aN.o.size));clear cB bC aJ aT aN;go_loopw [21] (λi wr=>∃(k:Nat) (b:RtT),k<=2/\i=.int .i64 (k:Int)/\Hid ((k=0->b=MJ)/\(k=1->b=PM MJ A0)/\(k=2->b=PM (PM MJ A0) A1))/\Below w3.heap.size wb wr/\B4 wr w3.heap.size (.int .i64 b.1) (.int .i64 b.2.1) (.int .i64 b.2.2.1) (.int .i64 b.2.2.2)) (λi _=>2-(intOf i).toNat)
 case atStart=>exact⟨0,MJ,by omega,rfl,⟨λ_=>rfl,λh=>absurd h (by decide),λh=>absurd h (by decide)⟩,AB _ _,cQ.o⟩
 case round =>
  obtain⟨k,⟨b0,b1,b2,b3⟩,hk,rfl,aQ,aB,aA⟩:=hrel;have aF:=LE aB;have aG:=LE aA;have dU:=aB.size
  by_cases cH:k<2
  ·have dL:(k:Int)<2:=by omega
   have aE:=LE (bT.o.j (aB.i (by omega)));have cA:=LE (cP.o.j (aB.i (AA _)));clear aB aA;obtain⟨r,aV⟩:∃r:RtT,Hid (r=(NC (strOfNums (X k)) (k:Int) n).getD MJ):=⟨_,LE rfl⟩
   have bV:Hid (∀b':RtT,b'=PM (b0,b1,b2,b3) r->(k+1=0->b'=MJ)/\(k+1=1->b'=PM MJ A0)/\(k+1=2->b'=PM (PM MJ A0) A1)):=λb' cE=>by
    refine⟨λh=>absurd h (by omega),λh=>?_,λh=>?_⟩
    ·have cZ:k=0:=by omega
     subst cZ;rw[cE,aQ.o.1 rfl,aV.o,bI.o];rfl
    have dB:k=1:=by omega
    subst dB;rw[cE,aQ.o.2.1 rfl,aV.o,bJ.o];rfl
   have aU:=LE (Bu (.slice a2 (LP ws).length c2) cv (X k) (k:Int) n wr (by omega) (cW.o k cH) (λwx hb=>cC.o k cH wx (cA.o.j (hb.i (by have:=cA.o.size;omega)))) ty v (cU.o _ aE.o) (cT.o _ aE.o) (by have:=aE.o.size;omega));rw[<-aV.o]at aU;obtain⟨t,h9,f,l⟩:=r;go_wp2_with fail;refine aU.o.i ?_;rintro e w5 ⟨rfl,aP⟩;have cO:=LE (aF.o.j (aP.i (by omega)));have aC:=LE (aG.o.I aP);have eB:=aP.size;clear aP aF aG aU
   have c0:=λo=>(aC.o.alloc o).c0
   have c1:=λo=>(aC.o.alloc o).c1
   have c2:=λo=>(aC.o.alloc o).c2
   have c3:=λo=>(aC.o.alloc o).c3
   have f0:=λo=>(aC.o.alloc o).f0
   have f1:=λo=>(aC.o.alloc o).f1
   have f2:=λo=>(aC.o.alloc o).f2
   have f3:=λo=>(aC.o.alloc o).f3
   have bQ:=LE (λo=>cO.o.alloc (by omega) o)
   by_cases cF:b0<t
   ·have hm:=bV.o (t,h9,f,l) (by simp[PM,cF])
    have HM:=LE hm;clear hm;go_wp2;go_roundw
    case rel=>exact⟨k+1,(t,h9,f,l),by omega,by go_num,HM.o,((((bQ.o _).setCell (AA _) _).setCell (AA _) _).setCell (AA _) _).setCell (AA _) _,(aC.o.alloc _).set4 _ _ _ _⟩
    case measure=>simp[intOf];omega
   have hm:=bV.o (b0,b1,b2,b3) (by simp[PM,cF])
   have HM:=LE hm;clear hm;go_wp2;go_roundw
   case rel=>exact⟨k+1,(b0,b1,b2,b3),by omega,by go_num,HM.o,bQ.o _,aC.o.alloc _⟩
   case measure=>simp[intOf];omega
  have dF:k=2:=by omega
  subst dF
  have HE:Hid (RES=if ((b0,b1,b2,b3):RtT)=MJ then (0,0,1,0) else (b0,b1,b2,b3)):=by
   show _=_;rw[HF.o,<-aQ.o.2.2 rfl]
  have hr:=cV.o.past (N:=w3.heap.size) aX aB;have c0:=hr.c0;have c1:=hr.c1;have c2:=hr.c2;have c3:=hr.c3;have f0:=hr.f0;have f1:=hr.f1;have f2:=hr.f2;have f3:=hr.f3;have d0:=aA.c0;have d1:=aA.c1;have d2:=aA.c2;have d3:=aA.c3;have bU:=LE (bT.o.j (aB.i (by omega)));clear hr aB aA
  by_cases hz:((b0,b1,b2,b3):RtT)=MJ
  ·have aR:Hid (RES=(0,0,1,0)):=by show _=_;rw[HE.o,AK hz]
   have z0:b0=0:=BT (λx:RtT=>x.1) hz;have z1:b1=0:=BT (λx:RtT=>x.2.1) hz;have z2:b2=0:=BT (λx:RtT=>x.2.2.1) hz;have z3:b3=0:=BT (λx:RtT=>x.2.2.2) hz;clear hz HE;subst z0 z1 z2 z3;go_wp2;refine AJ (v:=MV 0 0 1 0) (by simp[results,results120,go_sem,c0,c1,c2,c3]) rfl ⟨by rw[aR.o],?_⟩;exact(((bU.o.setCell (by show _<=w.heap.size+1;omega) _).setCell (by show _<=w.heap.size+1;omega) _).setCell (by show _<=w.heap.size+1;omega) _).setCell (by show _<=w.heap.size+1;omega) _
  have aR:Hid (RES=(b0,b1,b2,b3)):=by show _=_;rw[HE.o,AE hz]
  have eC:¬(b0=0/\b1=0/\b2=0/\b3=0):=λh=>hz (by rw[h.1,h.2.1,h.2.2.1,h.2.2.2];rfl)
  clear hz HE;go_wp2
  all_goals first
   | (exfalso;omega)
   | (refine AJ (v:=MV b0 b1 b2 b3) (by simp[results,results120,go_sem,c0,c1,c2,c3]<;>omega) rfl ⟨by rw[aR.o],?_⟩;exact(((bU.o.setCell (by show _<=w.heap.size+1;omega) _).setCell (by show _<=w.heap.size+1;omega) _).setCell (by show _<=w.heap.size+1;omega) _).setCell (by show _<=w.heap.size+1;omega) _)
theorem Fz(a:Option Addr)(ss:List ByteArray)(c:Nat)(a':Option Addr)(ws:List (Int×ByteArray))(c':Nat)(n:Int)(w:World)(h:Strs w a ss)(h':Wrs w a' ws)(hl:ss.length<=1048576)(aA:ws.length<=1048576)(hs:∀s∈ss,s.size<=1048576)(aB:∀x∈ws,x.2.size<=1048576)(ty:TypeId)(v:Value)(hv:w.cell? ⟨1,0,none⟩=some (.iface ty v))(h0:w.cell? ⟨0,0,none⟩=some (.iface 318 (.agg #[.pointer (some ⟨3,223,none⟩)])))(hg:1<w.heap.size):Calls prog 120 #[LN a ss.length c a' ws.length c',.int .i64 n] w λe w'=>e=.returned (WR (MS ss ws n))/\Below w.heap.size w w':=by
 by_cases hy:LS ss ws=true/\1<=n/\n<=8
 ·exact s7 a ss c a' ws c' n w h h' hl aA hs aB ty v hv h0 hg hy.1 hy.2
 have e:MS ss ws n=MJ:=by unfold MS;rw[AE hy]
 rw[e];exact Gi a ss c a' ws c' n w h h' hl aA hs aB hy
end
