import Derived.Test.YthcfgbpailnahaaGreatDoorPrG33
import Derived.Test.YthcfgbpailnahaaGreatDoorPrG24
import Derived.Test.YthcfgbpailnahaaGreatDoorPrG37
set_option maxHeartbeats 16000000
set_option maxRecDepth 8000
set_option linter.all false
namespace Go.Proofs.YthcfgbpailnahaaGreatDoor
open _root_.ByteArray(empty)
open Tryz
open Go.RowKit
def tG(t h f l:Int)(w:World):Calls prog 69 #[.agg #[.int .i64 t,.int .i64 h,.int .i64 f,.int .i64 l]] w λe w'=>e=.returned (.agg #[.int .i64 t,.int .i64 h,.int .i64 f,.int .i64 l])/\Below w.heap.size w w':=by
 go_enter func69,ntmps69;go_wp2;exact AJ (v:=.agg #[.int .i64 t,.int .i64 h,.int .i64 f,.int .i64 l]) (by simp[results,results69,go_sem]) rfl ⟨rfl,((LG _ _).alloc (by simp) _).alloc (by simp;omega) _⟩
def Ct(W S L T H F R U O:Int)(a:Option Addr)(rs:List Pr)(c:Nat)(w:World)(h:Prs w a rs)(aA:Int)(h0:0<=aA)(h1:aA<=1048576)(hl:rs.length<=maxLen)(hs:∀s∈rs,s.1.size<=maxLen/\s.2.size<=maxLen):Calls prog 16 #[LV W S L T H F R U O a rs.length c,.int .i64 aA] w λe w'=>e=.returned (.int .i64 (LO (rs.length::rs.flatMap OV) aA))/\Below w.heap.size w w':=by
 unfold LV
 have aB:∀o,Below w.heap.size w (w.alloc o):=λo=>LG _ _
 have aC:=RV (rs.length::rs.flatMap OV) aA (by omega);obtain⟨x,HX⟩:∃x,Hid (x=LO (rs.length::rs.flatMap OV) aA):=⟨_,LE rfl⟩;rw[<-HX.o]at aC⊢
 by_cases hx:x<0
 focus
  have aE:x=-1:=by omega
  have aF:=LE aE;clear aC aE
 rotate_left
 focus
  clear aC
 rotate_left
 all_goals
  go_enter func16,ntmps16;go_wp2_with fail;refine(zr a rs c _ (h.I (aB _)) aA (by omega) (by omega) hl hs).i ?_;rw[<-HX.o];rintro e w1 ⟨rfl,aD⟩;go_wp2;go_ret
 ·exact⟨MU aF.o.symm,(aB _).j (aD.i (by simp))⟩
 exact⟨rfl,(aB _).j (aD.i (by simp))⟩
def Bd(W S L T H F R U O:Int)(a:Option Addr)(rs:List Pr)(c:Nat)(w:World)(h:Prs w a rs)(hl:rs.length<=1048576):Calls prog 25 #[LV W S L T H F R U O a rs.length c] w λe w'=>∃g,e=.returned (LV W S L T H F R U O (some ⟨g,0,none⟩) rs.length rs.length)/\w.heap.size<=g/\Row w' g (LI rs)/\Below w.heap.size w w':=by
 unfold LV
 have cY:∀o1 o2 o3,Below w.heap.size w (((w.alloc o1).alloc o2).alloc o3):=λo1 o2 o3=>((LG _ _).alloc (by simp) _).alloc (by simp;omega) _
 go_enter func25,ntmps25
 go_wp2_with (first|(go_at_call 69;refine(tG T H F R _).i ?_;rintro e w1 ⟨rfl,aA⟩;have cV:=LE ((cY _ _ _).j (aA.i (by simp<;>omega)));have aN:w.heap.size+1+1<w1.heap.size:=AD (by simp) aA.size;have dU:w1.cell? ⟨w.heap.size,7,none⟩=some (.int .i64 U):=LH aA (by go_simp);have dV:w1.cell? ⟨w.heap.size,8,none⟩=some (.int .i64 O):=LH aA (by go_simp);have dZ:w1.cell? ⟨w.heap.size,9,none⟩=some (.slice a rs.length c):=LH aA (by go_simp);have cZ:w1.cell? ⟨w.heap.size+1+1,0,none⟩=some (.int .i64 W):=LH aA (by go_simp);have aP:w1.frozen? ⟨w.heap.size+1+1,0,none⟩=false:=LM aA (by go_simp);have dB:w1.cell? ⟨w.heap.size+1+1,1,none⟩=some (.int .i64 S):=LH aA (by go_simp);have aQ:w1.frozen? ⟨w.heap.size+1+1,1,none⟩=false:=LM aA (by go_simp);have dF:w1.cell? ⟨w.heap.size+1+1,2,none⟩=some (.int .i64 L):=LH aA (by go_simp);have aR:w1.frozen? ⟨w.heap.size+1+1,2,none⟩=false:=LM aA (by go_simp);have dH:w1.cell? ⟨w.heap.size+1+1,3,none⟩=some (.int .i64 0):=LH aA (by go_simp);have aS:w1.frozen? ⟨w.heap.size+1+1,3,none⟩=false:=LM aA (by go_simp);have dL:w1.cell? ⟨w.heap.size+1+1,4,none⟩=some (.int .i64 0):=LH aA (by go_simp);have aT:w1.frozen? ⟨w.heap.size+1+1,4,none⟩=false:=LM aA (by go_simp);have dM:w1.cell? ⟨w.heap.size+1+1,5,none⟩=some (.int .i64 0):=LH aA (by go_simp);have aU:w1.frozen? ⟨w.heap.size+1+1,5,none⟩=false:=LM aA (by go_simp);have dN:w1.cell? ⟨w.heap.size+1+1,6,none⟩=some (.int .i64 0):=LH aA (by go_simp);have aV:w1.frozen? ⟨w.heap.size+1+1,6,none⟩=false:=LM aA (by go_simp);have dP:w1.cell? ⟨w.heap.size+1+1,7,none⟩=some (.int .i64 0):=LH aA (by go_simp);have aW:w1.frozen? ⟨w.heap.size+1+1,7,none⟩=false:=LM aA (by go_simp);have dQ:w1.cell? ⟨w.heap.size+1+1,8,none⟩=some (.int .i64 0):=LH aA (by go_simp);have aX:w1.frozen? ⟨w.heap.size+1+1,8,none⟩=false:=LM aA (by go_simp);have dR:w1.cell? ⟨w.heap.size+1+1,9,none⟩=some (.slice none 0 0):=LH aA (by go_simp);have aY:w1.frozen? ⟨w.heap.size+1+1,9,none⟩=false:=LM aA (by go_simp);have eB:w1.cell? ⟨w.heap.size+1,0,none⟩=some (.int .i64 0):=LH aA (by go_simp);have aZ:w1.frozen? ⟨w.heap.size+1,0,none⟩=false:=LM aA (by go_simp);have eC:w1.cell? ⟨w.heap.size+1,1,none⟩=some (.int .i64 0):=LH aA (by go_simp);have bC:w1.frozen? ⟨w.heap.size+1,1,none⟩=false:=LM aA (by go_simp);have eE:w1.cell? ⟨w.heap.size+1,2,none⟩=some (.int .i64 0):=LH aA (by go_simp);have bE:w1.frozen? ⟨w.heap.size+1,2,none⟩=false:=LM aA (by go_simp);have eF:w1.cell? ⟨w.heap.size+1,3,none⟩=some (.int .i64 0):=LH aA (by go_simp);have bF:w1.frozen? ⟨w.heap.size+1,3,none⟩=false:=LM aA (by go_simp);have eG:w1.cell? ⟨w.heap.size+1,4,none⟩=some (.int .i64 0):=LH aA (by go_simp);have bI:w1.frozen? ⟨w.heap.size+1,4,none⟩=false:=LM aA (by go_simp);have eH:w1.cell? ⟨w.heap.size+1,5,none⟩=some (.int .i64 0):=LH aA (by go_simp);have bJ:w1.frozen? ⟨w.heap.size+1,5,none⟩=false:=LM aA (by go_simp);have eI:w1.cell? ⟨w.heap.size+1,6,none⟩=some (.int .i64 0):=LH aA (by go_simp);have bP:w1.frozen? ⟨w.heap.size+1,6,none⟩=false:=LM aA (by go_simp);have eJ:w1.cell? ⟨w.heap.size+1,7,none⟩=some (.int .i64 0):=LH aA (by go_simp);have bQ:w1.frozen? ⟨w.heap.size+1,7,none⟩=false:=LM aA (by go_simp);have eK:w1.cell? ⟨w.heap.size+1,8,none⟩=some (.int .i64 0):=LH aA (by go_simp);have bT:w1.frozen? ⟨w.heap.size+1,8,none⟩=false:=LM aA (by go_simp);have eL:w1.cell? ⟨w.heap.size+1,9,none⟩=some (.slice none 0 0):=LH aA (by go_simp);have bU:w1.frozen? ⟨w.heap.size+1,9,none⟩=false:=LM aA (by go_simp);clear aA)|(go_at_call 70;have aC:=((((((cV.o.setCell (p:=⟨w.heap.size+1+1,3,none⟩) (by show w.heap.size<=w.heap.size+1+1;omega) (.int .i64 T)).setCell (p:=⟨w.heap.size+1+1,4,none⟩) (by show w.heap.size<=w.heap.size+1+1;omega) (.int .i64 H)).setCell (p:=⟨w.heap.size+1+1,5,none⟩) (by show w.heap.size<=w.heap.size+1+1;omega) (.int .i64 F)).setCell (p:=⟨w.heap.size+1+1,6,none⟩) (by show w.heap.size<=w.heap.size+1+1;omega) (.int .i64 R)).setCell (p:=⟨w.heap.size+1+1,7,none⟩) (by show w.heap.size<=w.heap.size+1+1;omega) (.int .i64 U)).setCell (p:=⟨w.heap.size+1+1,8,none⟩) (by show w.heap.size<=w.heap.size+1+1;omega) (.int .i64 O));refine(tp a rs c _ (h.I aC) hl).i ?_;rintro e w2 ⟨g,rfl,hg,aO,aB⟩;have cW:=LE (aC.j (aB.i aC.size));have cX:=LE aO;have eX:w.heap.size+1+1<w2.heap.size:=AD (by simpa using aN) aB.size;have eW:w.heap.size+1+1<g:=AD (by simpa using aN) hg;have eM:w2.cell? ⟨w.heap.size+1+1,0,none⟩=some (.int .i64 W):=LH aB (by go_simp);have bV:w2.frozen? ⟨w.heap.size+1+1,0,none⟩=false:=LM aB (by go_simp);have eN:w2.cell? ⟨w.heap.size+1+1,1,none⟩=some (.int .i64 S):=LH aB (by go_simp);have bW:w2.frozen? ⟨w.heap.size+1+1,1,none⟩=false:=LM aB (by go_simp);have eO:w2.cell? ⟨w.heap.size+1+1,2,none⟩=some (.int .i64 L):=LH aB (by go_simp);have b7:w2.frozen? ⟨w.heap.size+1+1,2,none⟩=false:=LM aB (by go_simp);have eP:w2.cell? ⟨w.heap.size+1+1,3,none⟩=some (.int .i64 T):=LH aB (by go_simp);have cA:w2.frozen? ⟨w.heap.size+1+1,3,none⟩=false:=LM aB (by go_simp);have eQ:w2.cell? ⟨w.heap.size+1+1,4,none⟩=some (.int .i64 H):=LH aB (by go_simp);have cB:w2.frozen? ⟨w.heap.size+1+1,4,none⟩=false:=LM aB (by go_simp);have eR:w2.cell? ⟨w.heap.size+1+1,5,none⟩=some (.int .i64 F):=LH aB (by go_simp);have cC:w2.frozen? ⟨w.heap.size+1+1,5,none⟩=false:=LM aB (by go_simp);have eS:w2.cell? ⟨w.heap.size+1+1,6,none⟩=some (.int .i64 R):=LH aB (by go_simp);have cE:w2.frozen? ⟨w.heap.size+1+1,6,none⟩=false:=LM aB (by go_simp);have eT:w2.cell? ⟨w.heap.size+1+1,7,none⟩=some (.int .i64 U):=LH aB (by go_simp);have cF:w2.frozen? ⟨w.heap.size+1+1,7,none⟩=false:=LM aB (by go_simp);have eU:w2.cell? ⟨w.heap.size+1+1,8,none⟩=some (.int .i64 O):=LH aB (by go_simp);have cH:w2.frozen? ⟨w.heap.size+1+1,8,none⟩=false:=LM aB (by go_simp);have eV:w2.cell? ⟨w.heap.size+1+1,9,none⟩=some (.slice none 0 0):=LH aB (by go_simp);have cI:w2.frozen? ⟨w.heap.size+1+1,9,none⟩=false:=LM aB (by go_simp);have aD:w2.cell? ⟨w.heap.size+1,0,none⟩=some (.int .i64 0):=LH aB (by go_simp);have cJ:w2.frozen? ⟨w.heap.size+1,0,none⟩=false:=LM aB (by go_simp);have aE:w2.cell? ⟨w.heap.size+1,1,none⟩=some (.int .i64 0):=LH aB (by go_simp);have cL:w2.frozen? ⟨w.heap.size+1,1,none⟩=false:=LM aB (by go_simp);have aF:w2.cell? ⟨w.heap.size+1,2,none⟩=some (.int .i64 0):=LH aB (by go_simp);have cM:w2.frozen? ⟨w.heap.size+1,2,none⟩=false:=LM aB (by go_simp);have aG:w2.cell? ⟨w.heap.size+1,3,none⟩=some (.int .i64 0):=LH aB (by go_simp);have cN:w2.frozen? ⟨w.heap.size+1,3,none⟩=false:=LM aB (by go_simp);have aH:w2.cell? ⟨w.heap.size+1,4,none⟩=some (.int .i64 0):=LH aB (by go_simp);have cO:w2.frozen? ⟨w.heap.size+1,4,none⟩=false:=LM aB (by go_simp);have aI:w2.cell? ⟨w.heap.size+1,5,none⟩=some (.int .i64 0):=LH aB (by go_simp);have cP:w2.frozen? ⟨w.heap.size+1,5,none⟩=false:=LM aB (by go_simp);have aJ:w2.cell? ⟨w.heap.size+1,6,none⟩=some (.int .i64 0):=LH aB (by go_simp);have cQ:w2.frozen? ⟨w.heap.size+1,6,none⟩=false:=LM aB (by go_simp);have aK:w2.cell? ⟨w.heap.size+1,7,none⟩=some (.int .i64 0):=LH aB (by go_simp);have cS:w2.frozen? ⟨w.heap.size+1,7,none⟩=false:=LM aB (by go_simp);have aL:w2.cell? ⟨w.heap.size+1,8,none⟩=some (.int .i64 0):=LH aB (by go_simp);have cT:w2.frozen? ⟨w.heap.size+1,8,none⟩=false:=LM aB (by go_simp);have aM:w2.cell? ⟨w.heap.size+1,9,none⟩=some (.slice none 0 0):=LH aB (by go_simp);have cU:w2.frozen? ⟨w.heap.size+1,9,none⟩=false:=LM aB (by go_simp);clear aB aO aC hg))
 refine AJ (v:=.agg (sK W S L T H F R U O (.slice (some ⟨g,0,none⟩) rs.length rs.length))) (by simp[results,results25,go_sem,aD,aE,aF,aG,aH,aI,aJ,aK,aL,aM]) rfl ⟨g,rfl,by omega,?_,?_⟩
 ·iterate 11(refine Row.other ?_ _ (by first|(show w.heap.size+1+1≠g;omega)|(show w.heap.size+1≠g;omega)) _)
  exact cX.o
 iterate 11(refine IB ?_ (by first|(show w.heap.size<=w.heap.size+1+1;omega)|(show w.heap.size<=w.heap.size+1;omega)) _)
 exact cW.o
def MG(base:Int)(l:List ByteArray):List NM:=l.mapIdx λi p=>(false,base+(i:Int),p)
def Hb(base:Int):MG base []=[]:=rfl
def qq(base:Int)(l:List ByteArray)(p:ByteArray):MG base (l++[p])=MG base l++[(false,base+(l.length:Int),p)]:=by simp[MG,List.mapIdx_append]
def QC(base:Int)(l:List ByteArray):(MG base l).length=l.length:=by simp[MG]
def qw(L F:Int)(n m:Nat)(aA:List ByteArray)(b:List Ch):List ByteArray:=aA++NQ (LX b) L (F+(aA.length:Int)) n m
def OD(L F:Int)(n m:Nat)(aA:List (List Ch)):List ByteArray:=aA.foldl (qw L F n m) [MP 3 L F empty (n:Int)]
def gi(L F:Int)(n m:Nat):OD L F n m []=[MP 3 L F empty (n:Int)]:=rfl
def re(L F:Int)(n m:Nat)(aA:List (List Ch))(b:List Ch):OD L F n m (aA++[b])=OD L F n m aA++NQ (LX b) L (F+((OD L F n m aA).length:Int)) n m:=by
 unfold OD;rw[II];rfl
def qD(s:ByteArray)(l f:Int)(n m:Nat)(hm:n+m=56)(h1:1<=n)(h2:n<=8):((NQ s l f n m).length:Int)<=OB s.size (n:Int):=by
 have e:(56-(n:Int)).toNat=m:=by omega
 unfold OB;rw[AK (by omega),e];unfold NQ
 split
 ·rw[ip];omega
 simp
def ew(L F:Int)(n m:Nat)(hm:n+m=56)(h1:1<=n)(h2:n<=8)(aA:List (List Ch)):((OD L F n m aA).length:Int)<=1+MH aA (n:Int):=by
 obtain⟨k,hk⟩:∃k,k=aA.length:=⟨_,rfl⟩
 induction k generalizing aA with
 | zero=>rw[AC hk.symm,gi,wR];simp
 | succ k ih =>
  obtain⟨b,bs,rfl⟩:∃b bs,aA=bs++[b]:=by
   rcases GF aA with h|⟨l,a,h⟩
   ·subst h;simp at hk
   exact⟨a,l,by simpa using h⟩
  have:=ih bs (by simp at hk;omega);rw[re,ky,AF];have:=qD (LX b) L (F+((OD L F n m bs).length:Int)) n m hm h1 h2;omega
def xt(aA:List (List Ch))(k:Nat)(n:Int):MH (aA.take k) n<=MH aA n:=by
 have e:MH aA n=MH (aA.take k) n+MH (aA.drop k) n:=by
  unfold MH;rw[<-GI,<-BK,ES]
 have:=(YQ (aA.drop k) n).1;omega
def VX(W S L T H F:Int)(rs:List Pr):Prop:=(1<=W/\W<=8)/\(8<=S/\S<=200)/\(1<=L/\L<=60000)/\(0<=T/\T<=1000000000)/\(0<=H/\H<=1)/\(1<=F/\F<=999999000)/\MH (MN rs) W<=hv S-1
def XR(S T F:Int):Bool:=decide (T+1<=1000000000/\F+hv S<=999999000)
def WO(W S L T H F:Int)(rs:List Pr):Dd:=⟨0,W,S,L,T+1,1-H,F+hv S,L,((OD L (F+hv S) W.toNat (56-W.toNat) (MN rs)).length:Int),0,rs,MG (2+(1-H)*hv S) (OD L (F+hv S) W.toNat (56-W.toNat) (MN rs))++[(true,0,empty),(false,(T+1) % 2,ON (T+1) (1-H) (F+hv S) L W),(true,0,empty)]⟩
def OY(W S L T H F:Int)(rs:List Pr):Dd:=if XR S T F=true then WO W S L T H F rs else LT 4
def QX(W S L T H F R U O:Int)(rs:List Pr):Dd:=if OF W S L T H F R U O rs=true then OY W S L T H F rs else LT 1
def om{W S L T H F R U O:Int}{rs:List Pr}(h:OF W S L T H F R U O rs=true):VX W S L T H F rs:=by
 unfold OF SD at h;simp only[CU,DO]at h;obtain⟨⟨⟨⟨⟨⟨⟨h1,h2⟩,h3⟩,⟨⟨h4,_⟩,h5⟩,h6⟩,_⟩,_⟩,_⟩,h7⟩:=h;exact⟨h1,h2,h3,h4,h5,h6,h7⟩
def Gm(W S L T H F R U O:Int)(rs:List Pr)(hl:rs.length<=1048576):(QX W S L T H F R U O rs).rs.length<=1048576/\(QX W S L T H F R U O rs).ops.length<=1000:=by
 unfold QX OY
 cases h:OF W S L T H F R U O rs with
 | false=>simp[LT]
 | true =>
  cases h2:XR S T F with
  | false=>simp[LT]
  | true =>
   obtain⟨⟨h1,aA⟩,h3,h4,h5,h6,h7,h8⟩:=om h;have hq:=PH h3;have hm:=ew L (F+hv S) W.toNat (56-W.toNat) (by omega) (by omega) (by omega) (MN rs);rw[show((W.toNat:Nat):Int)=W by omega]at hm;simp only[IK,WO,AF,QC];refine⟨hl,?_⟩;simp;omega
def RU(W S L T H F R U O:Int)(rs:List Pr)(b:List Ch):Dd :=if (OF W S L T H F R U O rs && OA b)=true then
  if OQ rs b=0 then
   if MH (MN (OR rs b)) W<=hv S-1 then
    if OB (LX b).size W<=hv S-U then
     ⟨0,W,S,L,T,H,F,R,U+OB (LX b).size W,O+OB (LX b).size W,OR rs b,MG (2+H*hv S+U) (NQ (LX b) L (F+U) W.toNat (56-W.toNat))⟩
    else LT 4
   else LT 3
  else LT 2
 else LT 1
def pM(s:ByteArray)(l f:Int)(n m:Nat)(hm:n+m=56)(h1:1<=n)(h2:n<=8)(hl:1<=l/\l<=60000)(hf:1<=f)(hN:f+OB s.size (n:Int)<=1000000001):((NQ s l f n m).length:Int)=OB s.size (n:Int):=by
 have e:(56-(n:Int)).toNat=m:=by omega
 unfold OB at hN⊢;rw[AK (by omega),e]at hN⊢;rw[qg rfl (by omega),ip]
def qU(l:Nat)(n:Int)(h1:1<=n)(h2:n<=8):0<=OB l n/\OB l n<=(l:Int) / 48+1:=by
 unfold OB;rw[AK ⟨h1,h2⟩];unfold PB
 split
 ·rename_i h;subst h;simp
 have hm:48<=(56-n).toNat:=by omega
 have:(l-1) / (56-n).toNat<=l / 48:=AL (Nat.div_le_div_right (by omega)) (Nat.div_le_div_left hm (by omega));obtain⟨z,hz⟩:∃z,z=(l-1) / (56-n).toNat:=⟨_,rfl⟩;rw[<-hz]at this⊢;omega
def ca{W S L T H F R U O:Int}{rs:List Pr}(h:OF W S L T H F R U O rs=true):(1<=W/\W<=8)/\(8<=S/\S<=200)/\(1<=L/\L<=60000)/\(0<=T/\T<=1000000000)/\(0<=H/\H<=1)/\(1<=F/\F<=999999000)/\(0<=U/\U<=hv S)/\(0<=O/\O<=U)/\MA rs=true:=by
 unfold OF SD at h;simp only[CU,DO]at h;obtain⟨⟨⟨⟨⟨⟨⟨h1,h2⟩,h3⟩,⟨⟨h4,_⟩,h5⟩,h6⟩,h7⟩,h8⟩,h9⟩,_⟩:=h;exact⟨h1,h2,h3,h4,h5,h6,h7,h8,h9⟩
def jn(rs:List Pr)(b:List Ch):(OR rs b).length<=100:=by
 unfold OR
 by_cases hc:OQ rs b=0
 ·rw[AK hc]
  unfold OQ at hc
  by_cases h1:(MA rs && OA b)=true
  ·rw[AK h1]at hc
   by_cases h2:(MO rs b).length<=100
   ·exact h2
   rw[AE h2]at hc;omega
  rw[AE h1]at hc;omega
 rw[AE hc];simp
def qy(c:Ch):∀(rs:List Pr) (k:Nat),k=rs.length->∀x∈(chW c rs).2,x∈rs\/x=(c.1,c.2.1)
 | rs,0,hk=>by rw[AC hk.symm];simp[chW]
 | rs,k+1,hk=>by
  obtain⟨p,bs,rfl⟩:∃b bs,rs=bs++[b]:=by
   rcases GF rs with h|⟨l,a,h⟩
   ·subst h;simp at hk
   exact⟨a,l,by simpa using h⟩
  have ih:=qy c bs k (by simp at hk;omega);rw[jl];generalize chW c bs=st at ih⊢;intro x hx;unfold ST at hx
  have aA:x∈st.2\/x=(c.1,c.2.1)\/x=p:=by
   split at hx
   ·split at hx
    ·rcases BP.1 hx with h|h
     ·exact .inl h
     exact .inr (.inl (EH.1 h))
    exact .inl hx
   split at hx
   ·rcases BP.1 hx with h|h
    ·rcases BP.1 h with h|h
     ·exact .inl h
     exact .inr (.inl (EH.1 h))
    exact .inr (.inr (EH.1 h))
   rcases BP.1 hx with h|h
   ·exact .inl h
   exact .inr (.inr (EH.1 h))
  rcases aA with h|h|h
  ·rcases ih x h with h|h
   ·exact .inl (by simp[h])
   exact .inr h
  ·exact .inr h
  exact .inl (by simp[h])
def yT(rs:List Pr)(P:Pr->Prop)(h:∀x∈rs,P x):∀(b:List Ch),(∀c∈b,P (c.1,c.2.1))->∀x∈MO rs b,P x:=by
 intro b;obtain⟨k,hk⟩:∃k,k=b.length:=⟨_,rfl⟩
 induction k generalizing b with
 | zero=>intro _;rw[AC hk.symm];exact h
 | succ k ih =>
  intro hb
  obtain⟨c,bs,rfl⟩:∃c bs,b=bs++[c]:=by
   rcases GF b with h|⟨l,a,h⟩
   ·subst h;simp at hk
   exact⟨a,l,by simpa using h⟩
  have i:=ih bs (by simp at hk;omega) (λc hc=>hb c (by simp[hc]));rw[ZY];intro x hx;unfold NX at hx
  split at hx
  ·rcases qy c _ _ rfl x hx with h1|h1
   ·exact i x h1
   rw[h1];exact hb c (by simp)
  rw[BP]at hx
  rcases hx with hx|hx
  ·rcases qy c _ _ rfl x hx with h1|h1
   ·exact i x h1
   rw[h1];exact hb c (by simp)
  simp at hx;rw[hx];exact hb c (by simp)
def ua(rs:List Pr)(b:List Ch)(P:Pr->Prop)(h:∀x∈rs,P x)(hb:∀c∈b,P (c.1,c.2.1)):∀x∈OR rs b,P x:=by
 unfold OR
 split
 ·exact yT rs P h b hb
 simp
def wU(W S L T H F R U O:Int)(rs:List Pr)(b:List Ch):(RU W S L T H F R U O rs b).rs.length<=1048576/\(RU W S L T H F R U O rs b).ops.length<=1000:=by
 unfold RU
 split
 ·rename_i h0
  rw[CU]at h0;obtain⟨h1,h2,h3,h4,h5,h6,h7,h8,h9⟩:=ca h0.1;have hq:=PH h2
  split
  ·split
   ·split
    ·rename_i hp
     refine⟨by have:=jn rs b;simp;omega,?_⟩;simp only[QC];have:=qD (LX b) L (F+U) W.toNat (56-W.toNat) (by omega) (by omega) (by omega);rw[show((W.toNat:Nat):Int)=W by omega]at this;omega
    simp[LT]
   simp[LT]
  simp[LT]
 simp[LT]
def SN(W S L T H F R U O:Int)(rs:List Pr):Dd:=if OF W S L T H F R U O rs=true then ⟨0,W,S,L,T,H,F,R,U,0,rs,[(true,0,empty)]⟩ else LT 1
def Df(W S L T H F R U O:Int)(a:Option Addr)(rs:List Pr)(c:Nat)(w:World)(h:Prs w a rs)(hl:rs.length<=1048576)(hs:∀x∈rs,x.1.size<=1048576/\x.2.size<=1048576):Calls prog 109 #[LV W S L T H F R U O a rs.length c] w λx w'=>RO w w' x (SN W S L T H F R U O rs):=by
 have aG:=LE (λw' h'=>fg W S L T H F R U O a rs c w' h' hl hs);have HH:=LE h;clear h hs;obtain⟨DD,aF⟩:∃D,Hid (D=SN W S L T H F R U O rs):=⟨_,LE rfl⟩;rw[<-aF.o];unfold LV at aG⊢;go_enter func109,ntmps109;go_upto_region 1 with fail;generalize aA:w.alloc _=v1;obtain⟨aJ,aD,b1⟩:=LJ aA;clear aA;generalize aB:v1.alloc _=v2;obtain⟨aK,aL,b2⟩:=LJ aB;clear aB;rw[aD]at b2;have B0:StB w v2 (sJ W S L T H F R U O (.slice a rs.length c)) (λ_=>True):=⟨aJ.j (aK.i aJ.size),(b1.I aK).l,b2.l,SX (λ_=>trivial)⟩;have l2:w.heap.size+1<v2.heap.size:=b2.l.lt;clear aJ aK b1 b2 aD aL;refine BA ?_;refine AN rfl 50 _ rfl w.heap.size 0 rfl _ _ B0.r1.range underlying50 rfl OH ?_;simp only[PS];go_wp2_with fail;refine(aG.o _ (HH.o.I B0.e)).i ?_;rintro x v3 ⟨rfl,hb⟩;replace B0:=B0.I hb;clear hb l2 aG
 cases hok:OF W S L T H F R U O rs with
 | false =>
  obtain rfl:DD=LT 1:=by rw[aF.o];unfold SN;rw[AE (by rw[hok];simp)]
  go_upto_region 2 with fail;refine B0.noR 1 _ _ rfl (by go_simp) rfl rfl rfl rfl (λy R8 aE=>?_)
  try simp only[PS]
  clear B0
  try go_wp2
  refine RN 2 results109 _ ?_ R8 ?_ aE.o<;>rfl
 | true =>
  obtain rfl:DD=⟨0,W,S,L,T,H,F,R,U,0,rs,[(true,0,empty)]⟩:=by rw[aF.o];unfold SN;rw[AK hok]
  clear hok;go_upto_region 3 with fail;refine BA ?_;refine AN rfl 50 _ rfl w.heap.size 0 rfl _ _ B0.r1.range underlying50 rfl OH ?_;simp only[PS];go_upto_region 4 with fail;generalize aC:v3.alloc _=v4;obtain⟨hb,aM,b3⟩:=LJ aC;clear aC;obtain⟨B,aH⟩:∃k,k=v3.heap.size:=⟨_,rfl⟩;rw[<-aH]at b3⊢;have r3:=b3.l;have lB:w.heap.size+1<B:=by rw[aH];exact B0.r2.lt
  replace B0:=B0.I hb;clear hb b3 aM aH;generalize Value.agg _=A0;have c9:=B0.r1.x 9;have cl:=B0.r1.lt;go_wp2_with fail;clear c9 cl;have CS:=bi a rs c v4 (HH.o.I B0.e) hl;unfold LR at CS;refine CS.i ?_;rintro x v5 ⟨a5,c5,rfl,aR,oP,aO,hb⟩;unfold LR;have d5:=PG (lo:=v4.heap.size) oP QG aO;have l4:=r3.lt;replace B0:=B0.I hb;replace r3:=r3.I hb;clear hb CS oP;have c9:=r3.x 9;have c8:=r3.x 8;have f9:=r3.q 9;have f8:=r3.q 8;have cl:=r3.lt;go_upto_region 6 with fail;clear c9 f9 c8 f8 cl;have G:=MC (MC (BH v5 (some B)) 9 (.slice a5 rs.length c5)) 8 (.int .i64 0);replace r3:=(r3.set 9 (by simp) (.slice a5 rs.length c5)).set 8 (by simp) (.int .i64 0);replace B0:=B0.aside G (by omega);replace d5:=d5.z G (λg e=>by cases e;omega);generalize aI:World.setCell (World.setCell _ _ _) _ _=v6 at B0 r3 d5 G⊢;clear aI;have l6:=G.size;refine BA ?_
  refine AN rfl 50 _ rfl B 0 rfl _ _ r3.range underlying50 rfl OH ?_;simp only[PS];have hN:=kn v6 (.cells #[.bool true,.int .i64 0,.string empty] 122);have rN:=ME v6 #[.bool true,.int .i64 0,.string empty] 122;have aN:=LE (B0.I hN);refine TD rfl (.agg #[.bool true,.int .i64 0,.string empty]) (by go_simp;rfl) ?_;simp only[PS];refine xy rfl (.slice (some ⟨v6.heap.size,0,none⟩) 1 1) (v6.alloc (.cells #[.bool true,.int .i64 0,.string empty] 122)) (by go_simp) ?_;simp only[PS];refine TD rfl (.agg (dK 0 W S L T H F R U 0 (.slice a5 rs.length c5) (.slice (some ⟨v6.heap.size,0,none⟩) 1 1))) (by go_simp) ?_;simp only[PS];refine BI rfl 118 _ _ rfl (w.heap.size+1) 0 (dK 0 W S L T H F R U 0 (.slice a5 rs.length c5) (.slice (some ⟨v6.heap.size,0,none⟩) 1 1)) rfl rfl (aN.o.r2.there rfl) RK (by kernel_rfl) ?_
  try simp only[PS]
  have l5:=r3.lt
  have aQ:XM a5 rs.length (some ⟨v6.heap.size,0,none⟩) 1:=XI (λg k=>XJ d5.l k) (λg k=>by rw[MI _ _ _ (by simp)]at k;cases k;exact AA _)
  obtain⟨R8,HP⟩:=aN.o.fin ⟨0,W,S,L,T,H,F,R,U,0,rs,[(true,0,empty)]⟩ a5 c5 (some ⟨v6.heap.size,0,none⟩) 1 aR ⟨(d5.I hN).l,.inr ⟨_,rfl,rN⟩,aQ⟩ (λg k=>by have:=aO g k;omega) (λg k=>by rw[MI _ _ _ (by simp)]at k;cases k;omega)
  have aE:=LE HP;clear HP;generalize aP:World.setCells _ _ _ _=y at R8 aE⊢;clear aP
  try go_wp2
  refine RN 2 results109 _ ?_ R8 ?_ aE.o<;>rfl
def og:(prog.info? 122).map (λi=>(i.zero,i.size,i.bytes))=some (some (.agg #[.bool false,.int .i64 0,.string empty]),3,32):=by kernel_rfl
structure Wrt(w:World)(base g:Nat)(v:Value)(os:List NM)(at_ nm lf wd:Int):Prop where
 row:Row w g [v,.int .i64 at_,.int .i64 nm,.int .i64 lf,.int .i64 wd]
 own:w.ownsRow base 122 3 v os.length (MW os)
 ge:base<=g
 ne:v.ownBlock≠some g
def Wrt.I{w w':World}{base g:Nat}{v:Value}{os:List NM}{aA nm lf wd:Int}(h:Wrt w base g v os aA nm lf wd)(hb:Below w.heap.size w w'):Wrt w' base g v os aA nm lf wd:=⟨h.row.I hb,LY h.own hb,h.ge,h.ne⟩
def WD(b:Bool)(n:Int)(s:ByteArray):∀u∈[Value.bool b,.int .i64 n,.string s],u.oneCell'=true:=by
 intro u hu;simp only[DK,EN,IY]at hu;rcases hu with rfl|rfl|rfl<;>rfl
def qT(n h:Int)(h0:0<=h)(h1:h<=1)(w:World):Calls prog 122 #[.int .i64 n,.int .i64 h] w λe w'=>e=.returned (.int .i64 (2+h*hv n))/\w'=w:=by
 have hQ:0<=hv n/\hv n<=99:=by by_cases h:8<=n/\n<=200;have:=PH h;omega;rw[WE h];omega
 obtain⟨Q,HQ⟩:∃Q,Hid (Q=hv n):=⟨_,LE rfl⟩;rw[<-HQ.o]at hQ⊢;obtain⟨q,hq⟩:∃q,q=h*Q:=⟨_,rfl⟩
 have aA:0<=q/\q<=99:=by
  rcases(show h=0\/h=1 by omega) with e|e
  ·subst e;omega
  subst e;omega
 have aB:IntKind.i64.wrap (h*Q)=q:=by rw[<-hq];simp[IntKind.wrap,IntKind.bits,IntKind.signed];omega
 have aC:IntKind.i64.wrap (2+q)=2+q:=by simp[IntKind.wrap,IntKind.bits,IntKind.signed];omega
 rw[<-hq];clear hq;go_enter func122,ntmps122;go_wp2_with (go_at_call 123;refine(ZI _ _).i ?_;rw[<-HQ.o];refine MT ?_);go_ret;exact⟨rfl,rfl⟩
def im(W S L T H F R U O:Int)(a:Option Addr)(n c:Nat)(w:World)(h0:0<=H)(h1:H<=1)(f0:1<=F)(f1:F<=999999000)(u0:0<=U)(u1:U<=99):Calls prog 133 #[LV W S L T H F R U O a n c] w λe w'=>∃g,e=.returned (.pointer (some ⟨g,0,none⟩))/\Wrt w' w.heap.size g (.slice none 0 0) [] (2+H*hv S+U) (F+U) L W/\Below w.heap.size w w':=by
 have hQ:0<=hv S/\hv S<=99:=by by_cases h:8<=S/\S<=200;have:=PH h;omega;rw[WE h];omega
 obtain⟨q,hq⟩:∃q,q=H*hv S:=⟨_,rfl⟩
 have aD:0<=q/\q<=99:=by
  rcases(show H=0\/H=1 by omega) with e|e
  ·subst e;omega
  subst e;omega
 have HH:=LE (λw'=>qT S H h0 h1 w');rw[<-hq]at HH⊢;clear hq;have aE:IntKind.i64.wrap (2+q+U)=2+q+U:=by simp[IntKind.wrap,IntKind.bits,IntKind.signed];omega
 have aF:IntKind.i64.wrap (F+U)=F+U:=by simp[IntKind.wrap,IntKind.bits,IntKind.signed];omega
 unfold LV;obtain⟨wb,aB⟩:∃wb,wb=w.alloc (.cells (sK W S L T H F R U O (.slice a n c)) 50):=⟨_,rfl⟩
 have HT:Hid (∀w',Below wb.heap.size wb w'->w'.cell? ⟨w.heap.size,0,none⟩=some (.int .i64 W)/\w'.cell? ⟨w.heap.size,1,none⟩=some (.int .i64 S)/\w'.cell? ⟨w.heap.size,2,none⟩=some (.int .i64 L)/\w'.cell? ⟨w.heap.size,4,none⟩=some (.int .i64 H)/\w'.cell? ⟨w.heap.size,5,none⟩=some (.int .i64 F)/\w'.cell? ⟨w.heap.size,7,none⟩=some (.int .i64 U)):=λw' hb=>by
  have aA:w.heap.size<wb.heap.size:=by rw[aB];simp
  refine⟨(hb.cell (p:=⟨w.heap.size,0,none⟩) aA).j ?_,(hb.cell (p:=⟨w.heap.size,1,none⟩) aA).j ?_,(hb.cell (p:=⟨w.heap.size,2,none⟩) aA).j ?_,(hb.cell (p:=⟨w.heap.size,4,none⟩) aA).j ?_,(hb.cell (p:=⟨w.heap.size,5,none⟩) aA).j ?_,(hb.cell (p:=⟨w.heap.size,7,none⟩) aA).j ?_⟩<;>(rw[aB];go_simp)
 have aC:Hid (Below w.heap.size w wb):=by show Below _ _ _;rw[aB];exact LG _ _
 go_enter func133,ntmps133;go_wp2_with fail;rw[<-aB];clear aB
 go_region_held3 (λw'=>w'.cell? ⟨w.heap.size,0,none⟩=some (.int .i64 W)/\w'.cell? ⟨w.heap.size,1,none⟩=some (.int .i64 S)/\w'.cell? ⟨w.heap.size,2,none⟩=some (.int .i64 L)/\w'.cell? ⟨w.heap.size,4,none⟩=some (.int .i64 H)/\w'.cell? ⟨w.heap.size,5,none⟩=some (.int .i64 F)/\w'.cell? ⟨w.heap.size,7,none⟩=some (.int .i64 U))
  (first|assumption|exact HT.o _ ((AB _ _).drew)|exact HT.o _ ((AB _ _).drew.alloc (AA _) _))
  (first|(go_at_call 122;refine(HH.o _).i ?_;rintro e wz ⟨rfl,rfl⟩))
 all_goals
  go_wp2;go_ret;refine⟨wb.heap.size,rfl,⟨ZF (w:=wb.drew) rfl,BZ _ _ _ _,aC.o.size,by simp[Value.ownBlock]⟩,aC.o.j (((AB _ _).drew.alloc (AA _) _).i aC.o.size)⟩
def ia(base g:Nat)(v:Value)(os:List NM)(aJ nm lf wd:Int)(w:World)(h:Wrt w base g v os aJ nm lf wd)(hb:base<=w.heap.size)(hl:os.length<=1000):Calls prog 139 #[.pointer (some ⟨g,0,none⟩)] w λe w'=>(∃x,e=.returned x)/\(∃v',Wrt w' base g v' (os++[(true,0,empty)]) aJ nm lf wd)/\Below base w w':=by
 obtain⟨i0,aK,aL,aM,aN⟩:=UP og;have HI:=LE (AG aK (AG aL (AG aM aN)));clear aK aL aM aN
 obtain⟨va,vc,rfl⟩:∃va vc,v=Value.slice va os.length vc:=by
  rcases MM h.own with ⟨e1,e2⟩|⟨g,cap,e1,_⟩
  ·exact⟨none,0,by rw[e1,e2]⟩
  exact⟨_,cap,e1⟩
 have q0:=h.row.x 0;have r0:=h.row.q 0;have lg:=h.row.lt;have aI:=LE (h.own.alloc (.cells #[.bool true,.int .i64 0,.string ⟨#[]⟩] 122));go_enter func139,ntmps139;go_wp2_with (at_builtin;refine PU _ rfl _ _ 116 rfl base underlying116 HI.o rfl (by omega) _ os.length _ rfl aI.o ⟨w.heap.size,0,none⟩ 1 1 [.bool true,.int .i64 0,.string ⟨#[]⟩] rfl rfl (World.news_of_block (AY w _)) (WD _ _ _) (by simp;omega) (w.heap.size+1) (by simp) ?_;intro g9 aC w9 aB aA aD aR;have aF:=LE ((h.row.alloc _).z aA (λe=>h.ne e.symm));have q9:=aF.o.x 0;have r9:=aF.o.q 0;have aP:=LE aB;have aO:=LE (RL ((AB base w).alloc hb _) aI.o aA (by simp;omega));have aE:g9≠g:=(by rcases aD with e|e;exactλe2=>h.ne (by rw[<-e2];exact e);omega);have aH:=LE aE;clear aB aA aD aE);go_end0;have aG:=aF.o.set 0 (by simp) (.slice (some ⟨g9,0,none⟩) (os.length+1) aC)
 refine⟨⟨_,rfl⟩,⟨.slice (some ⟨g9,0,none⟩) (os.length+1) aC,aG,?_,h.ge,by simp[Value.ownBlock];exact aH.o⟩,aO.o.setCell (p:=⟨g,0,none⟩) h.ge _⟩;have aQ:w9.grownBy (w9.setCell ⟨g,0,none⟩ (.slice (some ⟨g9,0,none⟩) (os.length+1) aC)) (some g):=⟨rfl,rfl,rfl,by simp[World.setCell],λk _ hk=>BD _ _ _ k (λe=>hk (by rw[e]))⟩;have:=aP.o.kept aQ (.inr (by simp[Value.ownBlock];exact aH.o));rw[AF,cu];exact this
def Wrt.set{w:World}{base g:Nat}{v:Value}{os:List NM}{aA nm lf wd:Int}(h:Wrt w base g v os aA nm lf wd)(b o:Nat)(hb:b<base)(u:Value):Wrt (w.setCell ⟨b,o,none⟩ u) base g v os aA nm lf wd:=by
 have aB:w.grownBy (w.setCell ⟨b,o,none⟩ u) (some b):=⟨rfl,rfl,rfl,by simp[World.setCell],λk _ hk=>BD _ _ _ k (λe=>hk (by rw[e]))⟩;refine⟨h.row.other _ (by show b≠g;have:=h.ge;omega) _,h.own.kept aB ?_,h.ge,h.ne⟩
 cases hk:v.ownBlock with
 | none=>exact .inl rfl
 | some k =>
  refine .inr λe=>?_
  cases e
  have:=(h.own.lt b hk).1;omega
