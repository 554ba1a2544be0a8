import Derived.Test.YthcfgbpailnahaaGreatDoorPrG26
import Derived.Deep.AppendSrc
set_option maxHeartbeats 16000000
set_option maxRecDepth 8000
set_option linter.all false
namespace Go.Proofs.YthcfgbpailnahaaGreatDoor
open _root_.ByteArray(empty)
open Tryz
open Go.RowKit
variable {ws:List (Int×ByteArray)}{ss:List ByteArray}{B:Nat}{P:Program}{v0 v1:Value}{w:World}
def hv(n:Int):Int:=if 8<=n/\n<=200 then (n-2) / 2 else 0
def gp(n:Int)(w:World):Calls prog 114 #[.int .i64 n] w λe w'=>e=.returned (.bool (decide (8<=n/\n<=200)))/\w'=w:=by
 go_enter func114,ntmps114
 by_cases h1:8<=n<;>by_cases h2:n<=200<;>(go_wp2;go_ret;simp[h1,h2])
def ZI(n:Int)(w:World):Calls prog 123 #[.int .i64 n] w λe w'=>e=.returned (.int .i64 (hv n))/\w'=w:=by
 by_cases h:8<=n/\n<=200
 ·have hd:decide (8<=n/\n<=200)=true:=by simp[h]
  have hh:hv n=(n-2) / 2:=by unfold hv;rw[AK h]
  obtain⟨h1,h2⟩:=h;go_enter func123,ntmps123;go_wp2_with (go_at_call 114;refine(gp _ _).i ?_;rw[hd];rintro e w2 ⟨rfl,rfl⟩);go_ret;refine⟨?_,rfl⟩;rw[hh];rfl
 have hd:decide (8<=n/\n<=200)=false:=by simpa using h
 have hh:hv n=0:=by unfold hv;rw[AE h]
 rw[hh];go_enter func123,ntmps123;go_wp2_with (go_at_call 114;refine(gp _ _).i ?_;rw[hd];rintro e w2 ⟨rfl,rfl⟩);go_ret;exact⟨rfl,rfl⟩
def VA(n:Int)(w:World):Calls prog 103 #[.int .i64 n] w λe w'=>e=.returned (.int .i64 (hv n))/\w'=w:=by
 by_cases h1:8<=n
 ·by_cases h2:n<=200
  ·have hh:hv n=(n-2) / 2:=by unfold hv;rw[AK ⟨h1,h2⟩]
   go_enter func103,ntmps103;go_wp2;go_ret;refine⟨?_,rfl⟩;rw[hh];rfl
  have hh:hv n=0:=by unfold hv;rw[AE (λx=>h2 x.2)]
  rw[hh];go_enter func103,ntmps103;go_wp2;go_ret;exact⟨rfl,rfl⟩
 have hh:hv n=0:=by unfold hv;rw[AE (λx=>h1 x.1)]
 rw[hh];go_enter func103,ntmps103;go_wp2;go_ret;exact⟨rfl,rfl⟩
def LV(W S L T H F R U O:Int)(a:Option Addr)(n c:Nat):Value:=.agg #[.int .i64 W,.int .i64 S,.int .i64 L,.int .i64 T,.int .i64 H,.int .i64 F,.int .i64 R,.int .i64 U,.int .i64 O,.slice a n c]
def Aq(t h f l:Int)(w:World):Calls prog 90 #[.agg #[.int .i64 t,.int .i64 h,.int .i64 f,.int .i64 l],.agg #[.int .i64 t,.int .i64 h,.int .i64 f,.int .i64 l]] w λe w'=>e=.returned (.bool true)/\Below w.heap.size w w':=by
 go_enter func90,ntmps90;go_wp2
 all_goals go_ret
 all_goals exact⟨rfl,(LG _ _).alloc (by simp) _⟩
def A6(W S L T H F R U O:Int)(a b:Option Addr)(rs:List (ByteArray×ByteArray))(c d:Nat)(w:World)(h1:Prs w a rs)(h2:Prs w b rs)(hl:rs.length<=1048576):Calls prog 39 #[LV W S L T H F R U O a rs.length c,LV W S L T H F R U O b rs.length d] w λe w'=>e=.returned (.bool true)/\Below w.heap.size w w':=by
 unfold LV
 have aC:∀o1 o2,Below w.heap.size w ((w.alloc o1).alloc o2):=λo1 o2=>(LG _ _).alloc (by simp) _
 go_enter func39,ntmps39
 go_wp2_with (first|(go_at_call 90;refine(Aq T H F R _).i ?_;rintro e w1 ⟨rfl,aA⟩;have aB:=LE ((aC _ _).j (aA.i (by simp<;>omega)));have aE:w1.cell? ⟨w.heap.size,7,none⟩=some (.int .i64 U):=LH aA (by go_simp);have aF:w1.cell? ⟨w.heap.size,8,none⟩=some (.int .i64 O):=LH aA (by go_simp);have aG:w1.cell? ⟨w.heap.size,9,none⟩=some (.slice a rs.length c):=LH aA (by go_simp);have aH:w1.cell? ⟨w.heap.size+1,7,none⟩=some (.int .i64 U):=LH aA (by go_simp);have aI:w1.cell? ⟨w.heap.size+1,8,none⟩=some (.int .i64 O):=LH aA (by go_simp);have aJ:w1.cell? ⟨w.heap.size+1,9,none⟩=some (.slice b rs.length d):=LH aA (by go_simp);clear aA)|(go_at_call 91;refine(ui a b rs c d _ (h1.I aB.o) (h2.I aB.o) hl).i ?_;rintro e w2 ⟨rfl,aD⟩))
 go_ret;exact⟨rfl,aB.o.j (aD.i aB.o.size)⟩
def ri(a:Option Addr)(ss:List ByteArray)(c:Nat)(aA:Int)(w:World)(h:Strs w a ss)(h0:0<=aA)(h1:aA<=1048576)(hl:ss.length<=maxLen)(hs:∀s∈ss,s.size<=maxLen):Calls prog 18 #[.slice a ss.length c,.int .i64 aA] w λe w'=>e=.returned (.int .i64 (LO (ss.length::ss.map ByteArray.size) aA))/\w'=w:=by
 unfold maxLen at hl
 by_cases hn:aA-(ss.length:Int)<0
 ·have HR:=LE (UF (ss.map ByteArray.size) hn)
  go_enter func18,ntmps18;go_wp2;go_ret;exact⟨MU HR.o.symm,rfl⟩
 have HR:=LE (TI (ss.map ByteArray.size) hn)
 obtain⟨R,HE⟩:∃R,Hid (R=LO (ss.length::ss.map ByteArray.size) aA):=⟨_,LE rfl⟩;rw[<-HE.o];go_enter func18,ntmps18;go_wp2;go_loop [1,5] (λx i=>∃(k:Nat) (y:Int),k<=ss.length/\i=.int .i64 k/\x=.int .i64 y/\0<=y/\y<=1048576/\Hid (LO ((ss.map ByteArray.size).drop k) y=R)) (λ_ i=>ss.length-(intOf i).toNat)
 case atStart=>exact⟨0,_,AH _,rfl,rfl,by omega,by omega,by show _=_;rw[HE.o,HR.o,DY]⟩
 case round =>
  obtain⟨k,y,hk,rfl,rfl,aD,aE,HZ⟩:=hrel
  by_cases aB:k<ss.length
  ·obtain⟨b,o,s,rfl,hc,HS⟩:=h.at aB
   have aC:s.size<=9223372036854775807:=by
    have:=hs s (by rw[HS.o];simp[List.getD,aB]);unfold maxLen at this;exact this
   have HD:=LE (RT (ss.map ByteArray.size) k 0 (by simpa using aB));have HG:Hid ((ss.map ByteArray.size).getD k 0=s.size):=by show _=_;rw[HS.o];simp[List.getD,aB]
   by_cases hy:y-(s.size:Int)<0
   ·go_wp2
    go_ret;refine⟨MU ?_,rfl⟩;rw[<-HZ.o,HD.o,HG.o,UF _ hy]
   go_wp2
   go_round
   case rel=>exact⟨k+1,_,by omega,by go_num,rfl,by omega,by omega,by show _=_;rw[<-HZ.o,HD.o,HG.o,TI _ hy]⟩
   case measure=>simp[intOf];omega
  go_wp2
  go_ret;refine⟨MU ?_,rfl⟩;rw[<-HZ.o,CX (by simp;omega)];rfl
def tb(n:Int)(s:ByteArray)(y:Int)(w:World)(h0:0<=y)(h1:y<=1048576)(hs:s.size<=9223372036854775807):Calls prog 100 #[.agg #[.int .i64 n,.string s],.int .i64 y] w λe w'=>e=.returned (.int .i64 (if y-(s.size:Int)<0 then -1 else y-(s.size:Int)))/\Below w.heap.size w w':=by
 by_cases hy:y-(s.size:Int)<0
 ·go_enter func100,ntmps100
  go_wp2;go_ret;exact⟨rfl,LG _ _⟩
 go_enter func100,ntmps100
 go_wp2;go_ret;exact⟨rfl,LG _ _⟩
def Ab(a:Option Addr)(ws:List (Int×ByteArray))(c:Nat)(aB:Int)(w:World)(h:Wrs w a ws)(h0:0<=aB)(h1:aB<=1048576)(hl:ws.length<=maxLen)(hs:∀s∈ws,s.2.size<=maxLen):Calls prog 54 #[.slice a ws.length c,.int .i64 aB] w λe w'=>e=.returned (.int .i64 (LO (ws.length::ws.map λx=>x.2.size) aB))/\Below w.heap.size w w':=by
 unfold maxLen at hl
 by_cases hn:aB-(ws.length:Int)<0
 ·have HR:=LE (UF (ws.map λx=>x.2.size) hn)
  go_enter func54,ntmps54;go_wp2;go_ret;exact⟨MU HR.o.symm,AB _ _⟩
 have HR:=LE (TI (ws.map λx=>x.2.size) hn)
 obtain⟨R,HE⟩:∃R,Hid (R=LO (ws.length::ws.map λx=>x.2.size) aB):=⟨_,LE rfl⟩;rw[<-HE.o];go_enter func54,ntmps54;go_wp2;go_loopw [1,5] (λx i wr=>∃(k:Nat) (y:Int),k<=ws.length/\i=.int .i64 k/\x=.int .i64 y/\0<=y/\y<=1048576/\Hid (LO ((ws.map λx=>x.2.size).drop k) y=R)/\Below w.heap.size w wr) (λ_ i _=>ws.length-(intOf i).toNat)
 case atStart=>exact⟨0,_,AH _,rfl,rfl,by omega,by omega,by show _=_;rw[HE.o,HR.o,DY],AB _ _⟩
 case round =>
  obtain⟨k,y,hk,rfl,rfl,aF,aG,HZ,aA⟩:=hrel
  by_cases aC:k<ws.length
  ·obtain⟨b,o,n,s,rfl,hc,aI,HS⟩:=(h.I aA).at aC
   have aE:s.size<=9223372036854775807:=by
    have:=hs (n,s) (by rw[HS.o];simp[List.getD,aC]);unfold maxLen at this;exact this
   have HD:=LE (RT (ws.map λx=>x.2.size) k 0 (by simpa using aC))
   have HG:Hid ((ws.map λx=>x.2.size).getD k 0=s.size):=by
    show _=_;have e:=HS.o;simp only[List.getD,KJ];simp only[List.getD]at e;rw[AM aC]at e⊢;simp only[GA]at e;simp[<-e]
   by_cases hy:y-(s.size:Int)<0
   ·have aH:(-1:Int)<0:=by omega
    go_wp2_with (go_at_call 100;refine(tb n s y _ aF aG aE).i ?_;rw[AK hy];rintro e w2 ⟨rfl,aD⟩);go_ret;refine⟨MU ?_,aA.j (aD.i aA.size)⟩;rw[<-HZ.o,HD.o,HG.o,UF _ hy]
   have aJ:0<=y-(s.size:Int):=by omega
   go_wp2_with (go_at_call 100;refine(tb n s y _ aF aG aE).i ?_;rw[AE hy];rintro e w2 ⟨rfl,aD⟩);go_roundw
   case rel=>exact⟨k+1,_,by omega,by go_num,rfl,by omega,by omega,by show _=_;rw[<-HZ.o,HD.o,HG.o,TI _ (by omega)],aA.j (aD.i aA.size)⟩
   case measure=>simp[intOf];omega
  go_wp2
  go_ret;refine⟨MU ?_,aA⟩;rw[<-HZ.o,CX (by simp;omega)];rfl
@[reducible] def LN(a:Option Addr)(n c:Nat)(a':Option Addr)(n' c':Nat):Value:=.agg #[.slice a n c,.slice a' n' c']
def VF(ss:List ByteArray)(ws:List (Int×ByteArray)):List Nat:=(ss.length::ss.map ByteArray.size)++(ws.length::ws.map λx=>x.2.size)
def Fu(a:Option Addr)(ss:List ByteArray)(c:Nat)(a':Option Addr)(ws:List (Int×ByteArray))(c':Nat)(w:World)(h:Strs w a ss)(h':Wrs w a' ws)
  (hl:ss.length<=maxLen)(hs:∀s∈ss,s.size<=maxLen)(aM:ws.length<=maxLen)(aN:∀s∈ws,s.2.size<=maxLen):Calls prog 15 #[LN a ss.length c a' ws.length c',.int .i64 1048576] w λe w'=>e=.returned (.int .i64 (LO (VF ss ws) 1048576))/\Below w.heap.size w w':=by
 have aC:∀o,Below w.heap.size w (w.alloc o):=λo=>LG _ _
 have aG:=RV (ss.length::ss.map ByteArray.size) 1048576 (by omega);have aE:=VY (ss.length::ss.map ByteArray.size) (ws.length::ws.map λx=>x.2.size) 1048576 (by omega);have aA:=UD (ss.length::ss.map ByteArray.size) (ws.length::ws.map λx=>x.2.size) 1048576 (by omega);obtain⟨x,HX⟩:∃x,Hid (x=LO (ss.length::ss.map ByteArray.size) 1048576):=⟨_,LE rfl⟩;obtain⟨R,HR⟩:∃R,Hid (R=LO (VF ss ws) 1048576):=⟨_,LE rfl⟩;rw[<-HR.o];unfold VF at HR;rw[<-HX.o]at aG aE aA
 by_cases hx:x<0
 ·have aH:R=-1:=by rw[HR.o,aE hx]
  have aF:x=-1:=by omega
  clear aE aA aG;have aD:=LE aH;have aO:=LE aF;clear aH aF;go_enter func15,ntmps15;go_wp2_with fail;refine(ri a ss c 1048576 _ (h.I (aC _)) (by omega) (by omega) hl hs).i ?_;rw[<-HX.o];rintro e w1 ⟨rfl,rfl⟩;go_wp2;go_ret;exact⟨MU aD.o.symm,aC _⟩
 have aD:=LE (HR.o.j (aA (by omega)))
 have aK:0<=x:=by omega
 have aF:x<=1048576:=by omega
 clear aE aA aG hx;have aB:=RV (ws.length::ws.map λx=>x.2.size) x aK;rw[<-aD.o]at aB;go_enter func15,ntmps15;go_wp2_with fail;refine(ri a ss c 1048576 _ (h.I (aC _)) (by omega) (by omega) hl hs).i ?_;rw[<-HX.o];rintro e w1 ⟨rfl,rfl⟩;go_wp2_with fail;refine(Ab a' ws c' x _ (h'.I (aC _)) aK aF aM aN).i ?_;rw[<-aD.o];rintro e w1 ⟨rfl,aI⟩;have aJ:=(aC _).j (aI.i (by simp));clear aI
 by_cases hR:R<0
 ·have aL:Hid (R=-1):=by show R=-1;omega
  clear aB;go_wp2;go_ret;exact⟨MU aL.o.symm,aJ⟩
 clear aB
 go_wp2;go_ret;exact⟨rfl,aJ⟩
def mp:(prog.info? 9).map (λi=>(i.zero,i.size,i.bytes))=some (some (.string empty),1,16):=by kernel_rfl
def ir:(prog.info? 158).map (λi=>(i.zero,i.size,i.bytes))=some (some (.agg #[.int .i64 0,.string empty]),2,24):=by kernel_rfl
def vx(a:Option Addr)(ss:List ByteArray)(c:Nat)(w:World)(h:Strs w a ss)(hl:ss.length<=1048576):Calls prog 27 #[.slice a ss.length c] w λe w'=>∃g,e=.returned (.slice (some ⟨g,0,none⟩) ss.length ss.length)/\w.heap.size<=g/\Row w' g (ss.map Value.string)/\Below w.heap.size w w':=by
 go_enter func27,ntmps27;go_wp2_with (at_make;refine YO rfl _ _ 22 rfl 9 _ 1 16 underlying22 mp ss.length rfl rfl (by omega) (by omega) ?_;intro wx aA aD aG;rw[Fj]at aA);have aF:Row wx w.heap.size (TQ ss 0):=by simpa[TQ] using aA
 clear aA;go_loopw [4] (λi wr=>∃k:Nat,k<=ss.length/\i=.int .i64 k/\Row wr w.heap.size (TQ ss k)/\Below w.heap.size w wr) (λi _=>ss.length-(intOf i).toNat)
 case atStart=>exact⟨0,AH _,rfl,aF,aD⟩
 case round =>
  obtain⟨k,hk,rfl,aA,aB⟩:=hrel
  by_cases aC:k<ss.length
  ·obtain⟨b,o,s,rfl,hc,HS⟩:=(h.I aB).at aC
   have aE:=tB ss k hk;obtain⟨u,hu⟩:∃u,wr.cell? ⟨w.heap.size,k,none⟩=some u:=⟨_,aA.cell k _ (AM (by omega))⟩;have hf:=aA.froz k (by omega);have HR:=LE (aA.set k (by omega) (.string s));have HU:Hid ((TQ ss k).set k (.string s)=TQ ss (k+1)):=by show _=_;rw[HS.o];exact Hd ss k aC
   clear aA aE;go_wp2;go_roundw
   case rel=>exact⟨k+1,by omega,by go_num,by rw[<-HU.o];exact HR.o,aB.setCell (AA _) _⟩
   case measure=>simp[intOf];omega
  go_wp2
  go_ret;exact⟨w.heap.size,rfl,AA _,by rw[<-Gk ss k (by omega)];exact aA,aB⟩
def ZS{W w1:World}(hb:Below W.heap.size W w1):(∀b o,b<W.heap.size->w1.cell? ⟨b,o,none⟩=W.cell? ⟨b,o,none⟩)/\(∀b o,b<W.heap.size->w1.frozen? ⟨b,o,none⟩=W.frozen? ⟨b,o,none⟩) :=⟨λb o h=>hb.cell (p:=⟨b,o,none⟩) h,λb o h=>hb.frozen (p:=⟨b,o,none⟩) h⟩
def zZ(n:Int)(s:ByteArray)(w:World):Calls prog 112 #[.agg #[.int .i64 n,.string s]] w λe w'=>e=.returned (.agg #[.int .i64 n,.string s])/\Below w.heap.size w w':=by
 go_enter func112,ntmps112;go_wp2;exact AJ (v:=.agg #[.int .i64 n,.string s]) (by simp[results,results112,go_sem]) rfl ⟨rfl,((LG _ _).alloc (by simp) _).alloc (by simp;omega) _⟩
def Bc(a:Option Addr)(ws:List (Int×ByteArray))(c:Nat)(w:World)(h:Wrs w a ws)(hl:ws.length<=1048576):Calls prog 68 #[.slice a ws.length c] w λe w'=>∃g,e=.returned (.slice (some ⟨g,0,none⟩) ws.length ws.length)/\w.heap.size<=g/\Row w' g (LU ws)/\Below w.heap.size w w':=by
 go_enter func68,ntmps68;go_wp2_with (at_make;refine YO rfl _ _ 42 rfl 158 _ 2 24 underlying42 ir ws.length rfl rfl (by omega) (by omega) ?_;intro wx aA aJ aO;rw[tu]at aA);have aK:Row wx w.heap.size (TS ws 0):=by simpa[TS,C9] using aA
 clear aA;go_loopw [4] (λi wr=>∃k:Nat,k<=ws.length/\i=.int .i64 k/\Row wr w.heap.size (TS ws k)/\Below w.heap.size w wr) (λi _=>ws.length-(intOf i).toNat)
 case atStart=>exact⟨0,AH _,rfl,aK,aJ⟩
 case round =>
  obtain⟨k,hk,rfl,aA,aB⟩:=hrel
  by_cases aG:k<ws.length
  ·obtain⟨b,o,n,s,rfl,hc,aM,HS⟩:=(h.I aB).at aG
   have HB:=LE aB;have HR:=LE aA;clear aA aB;go_wp2_with (go_at_call 112;refine(zZ n s _).i ?_;rintro e w2 ⟨rfl,aE⟩;have aC:=HR.o.I aE;have aF:=sN ws k hk;obtain⟨u,hu⟩:∃u,w2.cell? ⟨w.heap.size,k*2,none⟩=some u:=⟨_,aC.cell (k*2) _ (AM (by omega))⟩;obtain⟨u',aP⟩:∃u',w2.cell? ⟨w.heap.size,k*2+1,none⟩=some u':=⟨_,aC.cell (k*2+1) _ (AM (by omega))⟩;have hf:=aC.froz (k*2) (by omega);have aN:=aC.froz (k*2+1) (by omega);have aI:=LE aC;have aD:=LE aF;clear aC aF);have aH:=(aI.o.set (k*2) (by rw[aD.o];omega) (.int .i64 n)).set (k*2+1) (by rw[DP,aD.o];omega) (.string s)
   have aL:((TS ws k).set (k*2) (.int .i64 n)).set (k*2+1) (.string s)=TS ws (k+1):=by
    have e:=HS.o;rw[show n=(ws.getD k (0,empty)).1 by rw[<-e],show s=(ws.getD k (0,empty)).2 by rw[<-e]];exact vR ws k aG
   rw[aL]at aH;go_roundw
   case rel=>exact⟨k+1,by omega,by go_num,aH,((HB.o.j (aE.i HB.o.size)).setCell (AA _) _).setCell (AA _) _⟩
   case measure=>simp[intOf];omega
  go_wp2
  go_ret;exact⟨w.heap.size,rfl,AA _,by rw[<-Hx ws k (by omega)];exact aA,aB⟩
def uX(a:Option Addr)(ss:List ByteArray)(c:Nat)(a':Option Addr)(ws:List (Int×ByteArray))(c':Nat)(w:World)(h:Strs w a ss)(h':Wrs w a' ws)(hl:ss.length<=1048576)(aS:ws.length<=1048576):Calls prog 24 #[LN a ss.length c a' ws.length c'] w λe w'=>∃g g',e=.returned (LN (some ⟨g,0,none⟩) ss.length ss.length (some ⟨g',0,none⟩) ws.length ws.length)/\w.heap.size<=g/\w.heap.size<=g'/\g≠g'/\Row w' g (ss.map Value.string)/\Row w' g' (LU ws)/\Below w.heap.size w w':=by
 have aI:∀o1 o2 o3,Below w.heap.size w (((w.alloc o1).alloc o2).alloc o3):=λo1 o2 o3=>((LG _ _).alloc (by simp) _).alloc (by simp;omega) _
 go_enter func24,ntmps24;go_wp2_with fail;refine(vx a ss c _ (h.I (aI _ _ _)) hl).i ?_;rintro e w1 ⟨g,rfl,hg,aJ,aC⟩;have aH:=(aI _ _ _).j (aC.i (by simp;omega));have aT:=aC.size;obtain⟨q1,q2⟩:=ZS aC;simp only[AU]at hg aT;have aL:=LE aC;have aE:=LE aJ;have aF:=LE aH;clear aC aJ aH;go_wp2_with fail;have aD:=aF.o.setCell (p:=⟨w.heap.size+1+1,0,none⟩) (by show w.heap.size<=w.heap.size+1+1;omega) (Value.slice (some ⟨g,0,none⟩) ss.length ss.length);have aG:=LE (aE.o.other ⟨w.heap.size+1+1,0,none⟩ (by show w.heap.size+1+1≠g;omega) (Value.slice (some ⟨g,0,none⟩) ss.length ss.length));refine(Bc a' ws c' _ (h'.I aD) aS).i ?_;rintro e w2 ⟨g',rfl,aQ,aK,aA⟩;have aM:=LE (aD.j (aA.i aD.size));have aO:=LE (aG.o.I aA);have aN:=LE aK;simp only[AV]at aQ;have aZ:g<w1.heap.size:=aE.o.lt;have aB:w.heap.size+1+1<(w1.setCell ⟨w.heap.size+1+1,0,none⟩ (Value.slice (some ⟨g,0,none⟩) ss.length ss.length)).heap.size:=by simp only[AV];omega
 have aU:w2.cell? ⟨w.heap.size+1+1,0,none⟩=some (.slice (some ⟨g,0,none⟩) ss.length ss.length):=(aA.cell (p:=⟨w.heap.size+1+1,0,none⟩) aB).j (by go_simp);have aV:w2.cell? ⟨w.heap.size+1+1,1,none⟩=some (.slice none 0 0):=(aA.cell (p:=⟨w.heap.size+1+1,1,none⟩) aB).j (by go_simp);have aY:w2.frozen? ⟨w.heap.size+1+1,1,none⟩=false:=(aA.frozen (p:=⟨w.heap.size+1+1,1,none⟩) aB).j (by go_simp);have c10:w2.cell? ⟨w.heap.size+1,0,none⟩=some (.slice none 0 0):=(aA.cell (p:=⟨w.heap.size+1,0,none⟩) (by show w.heap.size+1<_;omega)).j (by go_simp);have aP:w2.cell? ⟨w.heap.size+1,1,none⟩=some (.slice none 0 0):=(aA.cell (p:=⟨w.heap.size+1,1,none⟩) (by show w.heap.size+1<_;omega)).j (by go_simp);have aW:w2.frozen? ⟨w.heap.size+1,0,none⟩=false:=(aA.frozen (p:=⟨w.heap.size+1,0,none⟩) (by show w.heap.size+1<_;omega)).j (by go_simp);have aX:w2.frozen? ⟨w.heap.size+1,1,none⟩=false:=(aA.frozen (p:=⟨w.heap.size+1,1,none⟩) (by show w.heap.size+1<_;omega)).j (by go_simp)
 clear aA aK aL aE aF aG aD q1 q2 aB;go_wp2;have bC:w.heap.size+1+1<g:=by omega
 have aR:w.heap.size+1+1<g':=by omega
 refine AJ (v:=LN (some ⟨g,0,none⟩) ss.length ss.length (some ⟨g',0,none⟩) ws.length ws.length) (by simp[results,results24,go_sem,c10,aP]) rfl ⟨g,g',rfl,by omega,by omega,by omega,?_,?_,?_⟩
 ·exact((aO.o.other _ (by show w.heap.size+1+1≠g;omega) _).other _ (by show w.heap.size+1≠g;omega) _).other _ (by show w.heap.size+1≠g;omega) _
 ·exact((aN.o.other _ (by show w.heap.size+1+1≠g';omega) _).other _ (by show w.heap.size+1≠g';omega) _).other _ (by show w.heap.size+1≠g';omega) _
 exact((aM.o.setCell (by show w.heap.size<=w.heap.size+1+1;omega) _).setCell (by show w.heap.size<=w.heap.size+1;omega) _).setCell (by show w.heap.size<=w.heap.size+1;omega) _
def oR(a b:Option Addr)(ss:List ByteArray)(c c':Nat)(w:World)(h:Strs w a ss)(h':Strs w b ss)(hl:ss.length<=1048576):Calls prog 41 #[.slice a ss.length c,.slice b ss.length c'] w λe w'=>e=.returned (.bool true)/\Below w.heap.size w w':=by
 go_enter func41,ntmps41;go_wp2;go_loopw [5] (λi wr=>∃k:Nat,k<=ss.length/\i=.int .i64 k/\Below w.heap.size w wr) (λi _=>ss.length-(intOf i).toNat)
 case atStart=>exact⟨0,AH _,rfl,AB _ _⟩
 case round =>
  obtain⟨k,hk,rfl,aA⟩:=hrel
  by_cases aC:k<ss.length
  ·obtain⟨b1,o1,s,rfl,hc,HS⟩:=(h.I aA).at aC
   obtain⟨b2,o2,s',rfl,aD,aB⟩:=(h'.I aA).at aC;obtain rfl:s=s':=HS.o.j aB.o.symm;have aF:(k:Int)<(ss.length:Int):=by omega
   have aE:(0:Int)<=(k:Int):=by omega
   clear HS aB;go_wp2_with fail;go_quiet (fail);go_wp2;go_roundw
   case rel=>exact⟨k+1,by omega,by go_num,below_drewN aA _⟩
   case measure=>simp[intOf];omega
  go_wp2
  go_ret;exact⟨rfl,aA⟩
def Im(n:Int)(s:ByteArray)(w:World):Calls prog 143 #[.agg #[.int .i64 n,.string s],.agg #[.int .i64 n,.string s]] w λe w'=>e=.returned (.bool true)/\Below w.heap.size w w':=by
 go_enter func143,ntmps143;go_wp2;go_ret;exact⟨rfl,(LG _ _).alloc (by simp) _⟩
def zU(a b:Option Addr)(ws:List (Int×ByteArray))(c c':Nat)(w:World)(h:Wrs w a ws)(h':Wrs w b ws)(hl:ws.length<=1048576):Calls prog 89 #[.slice a ws.length c,.slice b ws.length c'] w λe w'=>e=.returned (.bool true)/\Below w.heap.size w w':=by
 go_enter func89,ntmps89;go_wp2;go_loopw [5] (λi wr=>∃k:Nat,k<=ws.length/\i=.int .i64 k/\Below w.heap.size w wr) (λi _=>ws.length-(intOf i).toNat)
 case atStart=>exact⟨0,AH _,rfl,AB _ _⟩
 case round =>
  obtain⟨k,hk,rfl,aA⟩:=hrel
  by_cases aF:k<ws.length
  ·obtain⟨b1,o1,n,s,rfl,hc,hd,HS⟩:=(h.I aA).at aF
   obtain⟨b2,o2,n',s',rfl,aC,aE,aD⟩:=(h'.I aA).at aF;obtain⟨rfl,rfl⟩:n=n'/\s=s':=by have:=HS.o.j aD.o.symm;simpa using this
   have aJ:(k:Int)<(ws.length:Int):=by omega
   have aI:(0:Int)<=(k:Int):=by omega
   have aG:b1<wr.heap.size:=by have:=BE wr _ hc;simpa using this
   have aH:b2<wr.heap.size:=by have:=BE wr _ aC;simpa using this
   have HQ:=LE (AG hc (AG hd (AG aC aE)));clear HS aD hc hd aC aE;go_wp2_with fail
   go_region_held3 (λw'=>w'.cell? ⟨b1,o1+k*2,none⟩=some (.int .i64 n)/\w'.cell? ⟨b1,o1+k*2+1,none⟩=some (.string s)/\w'.cell? ⟨b2,o2+k*2,none⟩=some (.int .i64 n)/\w'.cell? ⟨b2,o2+k*2+1,none⟩=some (.string s))
    (first|assumption|exact HQ.o|exact⟨(aB.cell (p:=⟨b1,_,none⟩) aG).j HQ.o.1,(aB.cell (p:=⟨b1,_,none⟩) aG).j HQ.o.2.1,(aB.cell (p:=⟨b2,_,none⟩) aH).j HQ.o.2.2.1,(aB.cell (p:=⟨b2,_,none⟩) aH).j HQ.o.2.2.2⟩)
    (first|(go_at_call 143;refine(Im n s _).i ?_;rintro e w2 ⟨rfl,aB⟩))
   go_wp2;go_roundw
   case rel=>exact⟨k+1,by omega,by go_num,aA.drew.j (aB.i aA.size)⟩
   case measure=>simp[intOf];omega
  go_wp2
  go_ret;exact⟨rfl,aA⟩
def Bj(a b:Option Addr)(ss:List ByteArray)(c d:Nat)(a' b':Option Addr)(ws:List (Int×ByteArray))(c' d':Nat)(w:World)(h1:Strs w a ss)(h2:Strs w b ss)(h3:Wrs w a' ws)(h4:Wrs w b' ws)(hl:ss.length<=1048576)(aE:ws.length<=1048576):Calls prog 38 #[LN a ss.length c a' ws.length c',LN b ss.length d b' ws.length d'] w λe w'=>e=.returned (.bool true)/\Below w.heap.size w w':=by
 have aB:∀o1 o2,Below w.heap.size w ((w.alloc o1).alloc o2):=λo1 o2=>(LG _ _).alloc (by simp) _
 go_enter func38,ntmps38;go_wp2_with fail;refine(oR a b ss c d _ (h1.I (aB _ _)) (h2.I (aB _ _)) hl).i ?_;rintro e w1 ⟨rfl,aC⟩;have aA:=(aB _ _).j (aC.i (by simp;omega));obtain⟨q1,q2⟩:=ZS aC;clear aC;go_wp2_with fail;refine(zU a' b' ws c' d' _ (h3.I aA) (h4.I aA) aE).i ?_;rintro e w2 ⟨rfl,aD⟩;clear q1 q2;go_wp2;go_ret;exact⟨rfl,aA.j (aD.i aA.size)⟩
def QL{a b:Bool}(h:a=b):Ending.returned (.bool a)=.returned (.bool b):=by rw[h]
def OI(n:Nat)(x:Int×ByteArray):Bool:=decide (0<=x.1/\x.1<(n:Int)/\(x.2.size:Int)=64)
def LS(ss:List ByteArray)(ws:List (Int×ByteArray)):Bool:=decide (8<=ss.length/\ss.length<=200/\ws.length<=300) && ss.all (λs=>decide ((s.size:Int)=64)) && ws.all (OI ss.length)
def ic(h:¬(8<=ss.length/\ss.length<=200/\ws.length<=300)):LS ss ws=false:=by simp[LS,h]
def uw{s:ByteArray}(hm:s∈ss)(h:¬(s.size:Int)=64):LS ss ws=false:=by
 have:ss.all (λs=>decide ((s.size:Int)=64))=false:=FN.2 ⟨s,hm,by simpa using h⟩;simp[LS,this]
def nN{x:Int×ByteArray}(hm:x∈ws)(h:OI ss.length x=false):LS ss ws=false:=by
 have:ws.all (OI ss.length)=false:=FN.2 ⟨x,hm,by simp[h]⟩;simp[LS,this]
def lj(h:8<=ss.length/\ss.length<=200/\ws.length<=300)(h1:∀s∈ss,(s.size:Int)=64)(h2:∀x∈ws,OI ss.length x=true):LS ss ws=true:=by
 simp only[LS,CU,DO,DX];exact⟨⟨h,h1⟩,h2⟩
def OZ(h:LS ss ws=true):(8<=ss.length/\ss.length<=200/\ws.length<=300)/\(∀s∈ss,(s.size:Int)=64)/\∀x∈ws,OI ss.length x=true:=by
 simp only[LS,CU,DO,DX]at h;exact⟨h.1.1,h.1.2,h.2⟩
def ul{n:Nat}{x:Int}{s:ByteArray}(h0:0<=x)(h1:x<(n:Int)):((s.size:Int) == 64)=OI n (x,s):=by
 rw[IA];simp[OI,h0,h1]
def gj(n:Nat)(x:Int)(s:ByteArray)(w:World)(hs:s.size<=1048576)(hn:n<=1048576):Calls prog 115 #[.int .i64 (n:Int),.int .i64 x,.string s] w λe w'=>e=.returned (.bool (OI n (x,s)))/\w'=w:=by
 by_cases h0:0<=x
 ·by_cases h1:x<(n:Int)
  ·go_enter func115,ntmps115
   go_wp2;go_ret;exact⟨QL (ul h0 h1),rfl⟩
  go_enter func115,ntmps115
  go_wp2;go_ret;exact⟨QL (by simp[OI];omega),rfl⟩
 go_enter func115,ntmps115
 go_wp2;go_ret;exact⟨QL (by simp[OI];omega),rfl⟩
def p9(a:Option Addr)(n c:Nat)(a':Option Addr)(n' c':Nat)(x:Int)(s:ByteArray)(w:World)(hs:s.size<=1048576)(hn:n<=1048576):Calls prog 102 #[LN a n c a' n' c',.int .i64 x,.string s] w λe w'=>e=.returned (.bool (OI n (x,s)))/\Below w.heap.size w w':=by
 by_cases h0:0<=x
 ·by_cases h1:x<(n:Int)
  ·go_enter func102,ntmps102
   go_wp2;go_ret;exact⟨QL (ul h0 h1),LG _ _⟩
  go_enter func102,ntmps102
  go_wp2;go_ret;exact⟨QL (by simp[OI];omega),LG _ _⟩
 go_enter func102,ntmps102
 go_wp2;go_ret;exact⟨QL (by simp[OI];omega),LG _ _⟩
def p7(n:Int)(w:World):Calls prog 114 #[.int .i64 n] w λe w'=>e=.returned (.bool (decide (8<=n/\n<=200)))/\w'=w:=by
 by_cases h1:8<=n
 ·by_cases h2:n<=200
  ·go_enter func114,ntmps114
   go_wp2;go_ret;exact⟨QL (by simp[h1,h2]),rfl⟩
  go_enter func114,ntmps114
  go_wp2;go_ret;exact⟨QL (by simp[h2]),rfl⟩
 go_enter func114,ntmps114
 go_wp2;go_ret;exact⟨QL (by simp;omega),rfl⟩
def UI(a:Option Addr)(ss:List ByteArray)(c:Nat)(a':Option Addr)(ws:List (Int×ByteArray))(c':Nat)(w:World)(h:Strs w a ss)(h':Wrs w a' ws)(hl:ss.length<=1048576)(aS:ws.length<=1048576)(hs:∀s∈ss,s.size<=1048576)(aO:∀x∈ws,x.2.size<=1048576):Calls prog 73 #[LN a ss.length c a' ws.length c'] w λe w'=>e=.returned (.bool (LS ss ws))/\Below w.heap.size w w':=by
 have aE:∀o1,Below w.heap.size w (w.alloc o1):=λo1=>LG _ _
 obtain⟨R,HR⟩:∃R,Hid (R=LS ss ws):=⟨_,LE rfl⟩;rw[<-HR.o]
 by_cases hn:8<=(ss.length:Int)/\(ss.length:Int)<=200
 focus
  have hd:decide (8<=(ss.length:Int)/\(ss.length:Int)<=200)=true:=AO hn;obtain⟨aT,aU⟩:=hn
  by_cases hp:(ws.length:Int)<=300
  ·go_enter func73,ntmps73
   go_wp2_with (go_at_call 114;refine(p7 _ _).i ?_;rw[hd];rintro e w' ⟨rfl,rfl⟩);go_loop [4,21] (λ_ i=>∃k:Nat,k<=ss.length/\i=.int .i64 k/\Hid (∀s∈ss.take k,(s.size:Int)=64)) (λ_ i=>ss.length-(intOf i).toNat)
   case atStart =>
    exact⟨0,AH _,rfl,by show ∀s∈ss.take 0,_;simp⟩
   case round =>
    obtain⟨k,hk,rfl,HA⟩:=hrel
    by_cases aG:k<ss.length
    ·obtain⟨b,o,s,rfl,hc,HS⟩:=(h.I (aE (.cells #[.slice a ss.length c,.slice a' ws.length c'] 44))).at aG
     have hm:Hid (s∈ss):=by show _∈_;rw[HS.o];simp[List.getD,aG]
     by_cases aD:((s.size:Int) != 64)=true
     ·go_wp2
      go_ret;exact⟨QL (by rw[HR.o];exact(uw hm.o (by simpa using aD)).symm),aE _⟩
     have aN:((s.size:Int) != 64)=false:=by simpa using aD
     have aJ:Hid ((s.size:Int)=64):=by show _=_;simpa using aD
     clear aD;go_wp2;go_round
     case rel =>
      exact⟨k+1,by omega,by go_num,λx hx=>by
            rw[AQ aG]at hx;rcases BP.1 hx with hx|hx
            ·exact HA.o x hx
            simp at hx;have e:=HS.o;simp[List.getD,aG]at e;rw[hx,<-e];exact aJ.o⟩
     case measure =>
      simp[intOf];omega
    go_wp2
    have aC:∀s∈ss,(s.size:Int)=64:=by have:=HA.o;rwa [AT (by omega)]at this
    have aH:=LE aC;clear aC HA;go_loopw [6,32] (λ_ i wr=>∃k:Nat,k<=ws.length/\i=.int .i64 k/\Hid (∀x∈ws.take k,OI ss.length x=true)/\Below (w.heap.size+1) (w.alloc (.cells #[.slice a ss.length c,.slice a' ws.length c'] 44)) wr) (λ_ i _=>ws.length-(intOf i).toNat)
    case atStart =>
     exact⟨0,AH _,rfl,by show ∀s∈ws.take 0,_;simp,AB _ _⟩
    case round =>
     obtain⟨k2,aR,rfl,aK,aA⟩:=hrel;have q0:wr.cell? ⟨w.heap.size,0,none⟩=some (.slice a ss.length c):=(aA.cell (p:=⟨w.heap.size,0,none⟩) (by show w.heap.size<_;omega)).j (by go_simp);have q1:wr.cell? ⟨w.heap.size,1,none⟩=some (.slice a' ws.length c'):=(aA.cell (p:=⟨w.heap.size,1,none⟩) (by show w.heap.size<_;omega)).j (by go_simp);have aF:Below w.heap.size w wr:=(aE _).j (aA.i (by omega));have aM:=LE aA;have aI:=LE aF
     by_cases aB:k2<ws.length
     ·obtain⟨b,o,n,s,rfl,hc,aQ,HS⟩:=(h'.I aF).at aB
      have hm:Hid ((n,s)∈ws):=by show _∈_;rw[HS.o];simp[List.getD,aB]
      have aL:s.size<=1048576:=aO (n,s) hm.o;have aV:w.heap.size+1<=wr.heap.size:=by have:=aA.size;simpa using this
      have aP:w.heap.size<wr.heap.size:=by omega
      clear aA aF
      cases hok:OI ss.length (n,s) with
      | false =>
       go_wp2_with (go_at_call 115;refine(gj ss.length n s _ aL (by omega)).i ?_;rw[hok];rintro e w' ⟨rfl,rfl⟩);go_ret;exact⟨QL (by rw[HR.o];exact(nN hm.o hok).symm),aI.o.alloc aI.o.size _⟩
      | true =>
       go_wp2_with (go_at_call 115;refine(gj ss.length n s _ aL (by omega)).i ?_;rw[hok];rintro e w' ⟨rfl,rfl⟩);go_roundw
       case rel =>
        exact⟨k2+1,by omega,by go_num,λx hx=>by
              rw[AQ aB]at hx;rcases BP.1 hx with hx|hx
              ·exact aK.o x hx
              simp at hx;have e:=HS.o;simp[List.getD,aB]at e;rw[hx,<-e];exact hok,aM.o.alloc (by omega) _⟩
       case measure =>
        simp[intOf];omega
     clear aA aF
     go_wp2;go_ret;refine⟨QL ?_,aI.o⟩;rw[HR.o];have h2:=aK.o;rw[AT (by omega)]at h2;exact(lj (by omega) aH.o h2).symm
  focus
  rotate_left
 rotate_left
 focus
  have hd:decide (8<=(ss.length:Int)/\(ss.length:Int)<=200)=false:=AI hn
 rotate_left
 all_goals
  go_enter func73,ntmps73;go_wp2_with (go_at_call 114;refine(p7 _ _).i ?_;rw[hd];rintro e w' ⟨rfl,rfl⟩);go_ret;exact⟨QL (by rw[HR.o];exact(ic (by omega)).symm),aE _⟩
def UT(a:Option Addr)(ss:List ByteArray)(c:Nat)(a':Option Addr)(ws:List (Int×ByteArray))(c':Nat)(w:World)(h:Strs w a ss)(h':Wrs w a' ws)(hl:ss.length<=1048576)(aX:ws.length<=1048576)(hs:∀s∈ss,s.size<=1048576)(aR:∀x∈ws,x.2.size<=1048576):Calls prog 58 #[LN a ss.length c a' ws.length c'] w λe w'=>e=.returned (.bool (LS ss ws))/\Below w.heap.size w w':=by
 have aC:∀o1,Below w.heap.size w (w.alloc o1):=λo1=>LG _ _
 obtain⟨R,HR⟩:∃R,Hid (R=LS ss ws):=⟨_,LE rfl⟩;rw[<-HR.o]
 by_cases aY:8<=(ss.length:Int)
 ·by_cases aZ:(ss.length:Int)<=200
  ·by_cases hp:(ws.length:Int)<=300
   ·go_enter func58,ntmps58
    go_wp2;go_loop [3] (λi=>∃k:Nat,k<=ss.length/\i=.int .i64 k/\Hid (∀s∈ss.take k,(s.size:Int)=64)) (λi=>ss.length-(intOf i).toNat)
    case atStart=>exact⟨0,AH _,rfl,by show ∀s∈ss.take 0,_;simp⟩
    case round =>
     obtain⟨k,hk,rfl,HA⟩:=hrel
     by_cases aI:k<ss.length
     ·obtain⟨b,o,s,rfl,hc,HS⟩:=(h.I (aC (.cells #[.slice a ss.length c,.slice a' ws.length c'] 44))).at aI
      have hm:Hid (s∈ss):=by show _∈_;rw[HS.o];simp[List.getD,aI]
      by_cases aG:((s.size:Int) != 64)=true
      ·go_wp2
       go_ret;exact⟨QL (by rw[HR.o];exact(uw hm.o (by simpa using aG)).symm),aC _⟩
      have aQ:((s.size:Int) != 64)=false:=by simpa using aG
      have aL:Hid ((s.size:Int)=64):=by show _=_;simpa using aG
      clear aG;go_wp2;go_round
      case rel=>exact⟨k+1,by omega,by go_num,λx hx=>by
             rw[AQ aI]at hx;rcases BP.1 hx with hx|hx
             ·exact HA.o x hx
             simp at hx;have e:=HS.o;simp[List.getD,aI]at e;rw[hx,<-e];exact aL.o⟩
      case measure=>simp[intOf];omega
     go_wp2
     have aE:∀s∈ss,(s.size:Int)=64:=by have:=HA.o;rwa [AT (by omega)]at this
     have aJ:=LE aE;clear aE HA;go_loopw [4] (λi wr=>∃k:Nat,k<=ws.length/\i=.int .i64 k/\Hid (∀x∈ws.take k,OI ss.length x=true)/\Below (w.heap.size+1) (w.alloc (.cells #[.slice a ss.length c,.slice a' ws.length c'] 44)) wr) (λi _=>ws.length-(intOf i).toNat)
     case atStart=>exact⟨0,AH _,rfl,by show ∀s∈ws.take 0,_;simp,AB _ _⟩
     case round =>
      obtain⟨k2,aW,rfl,aM,aA⟩:=hrel;have q0:wr.cell? ⟨w.heap.size,0,none⟩=some (.slice a ss.length c):=(aA.cell (p:=⟨w.heap.size,0,none⟩) (by show w.heap.size<_;omega)).j (by go_simp);have q1:wr.cell? ⟨w.heap.size,1,none⟩=some (.slice a' ws.length c'):=(aA.cell (p:=⟨w.heap.size,1,none⟩) (by show w.heap.size<_;omega)).j (by go_simp);have aH:Below w.heap.size w wr:=(aC _).j (aA.i (by omega));have aP:=LE aA;have aK:=LE aH
      by_cases aB:k2<ws.length
      ·obtain⟨b,o,n,s,rfl,hc,aN,HS⟩:=(h'.I aH).at aB
       have hm:Hid ((n,s)∈ws):=by show _∈_;rw[HS.o];simp[List.getD,aB]
       have aS:s.size<=1048576:=aR (n,s) hm.o;have aT:w.heap.size+1<=wr.heap.size:=by have:=aA.size;simpa using this
       have aF:w.heap.size<wr.heap.size:=by omega
       have aO:b<wr.heap.size:=by have:=BE wr _ hc;simpa using this
       have aV:(k2:Int)<(ws.length:Int):=by omega
       have aU:(0:Int)<=(k2:Int):=by omega
       have HQ:=LE (AG q0 (AG q1 (AG hc aN)));go_wp2_with fail;clear aA aH q0 q1 hc aN
       go_region_held3 (λw'=>w'.cell? ⟨w.heap.size,0,none⟩=some (.slice a ss.length c)/\w'.cell? ⟨w.heap.size,1,none⟩=some (.slice (some ⟨b,o,none⟩) ws.length c')/\w'.cell? ⟨b,o+k2*2,none⟩=some (.int .i64 n)/\w'.cell? ⟨b,o+k2*2+1,none⟩=some (.string s))
        (first|assumption|exact HQ.o|exact⟨(aD.cell (p:=⟨_,_,none⟩) aF).j HQ.o.1,(aD.cell (p:=⟨_,_,none⟩) aF).j HQ.o.2.1,(aD.cell (p:=⟨b,_,none⟩) aO).j HQ.o.2.2.1,(aD.cell (p:=⟨b,_,none⟩) aO).j HQ.o.2.2.2⟩)
        (first|(go_at_call 102;refine(p9 a ss.length c (some ⟨b,o,none⟩) ws.length c' n s _ aS (by omega)).i ?_;rintro e w2 ⟨rfl,aD⟩))
       cases hok:OI ss.length (n,s) with
       | false =>
        go_wp2;go_ret;exact⟨QL (by rw[HR.o];exact(nN hm.o hok).symm),aK.o.drew.j (aD.i aK.o.size)⟩
       | true =>
        go_wp2;go_roundw
        case rel=>exact⟨k2+1,by omega,by go_num,λx hx=>by
               rw[AQ aB]at hx;rcases BP.1 hx with hx|hx
               ·exact aM.o x hx
               simp at hx;have e:=HS.o;simp[List.getD,aB]at e;rw[hx,<-e];exact hok,aP.o.drew.j (aD.i aT)⟩
        case measure=>simp[intOf];omega
      clear aA aH
      go_wp2;go_ret;refine⟨QL ?_,aK.o⟩;rw[HR.o];have h2:=aM.o;rw[AT (by omega)]at h2;exact(lj (by omega) aJ.o h2).symm
   go_enter func58,ntmps58
   go_wp2;go_ret;exact⟨QL (by rw[HR.o];exact(ic (by omega)).symm),aC _⟩
  go_enter func58,ntmps58
  go_wp2;go_ret;exact⟨QL (by rw[HR.o];exact(ic (by omega)).symm),aC _⟩
 go_enter func58,ntmps58
 go_wp2;go_ret;exact⟨QL (by rw[HR.o];exact(ic (by omega)).symm),aC _⟩
structure Cx(w:World)(B:Nat)(v0 v1:Value):Prop where
 lt:B<w.heap.size
 c0:w.cell? ⟨B,0,none⟩=some v0
 c1:w.cell? ⟨B,1,none⟩=some v1
def Cx.I{w':World}(h:Cx w B v0 v1)(hb:Below w.heap.size w w'):Cx w' B v0 v1 :=⟨AD h.lt hb.size,(hb.cell (p:=⟨_,0,none⟩) h.lt).j h.c0,(hb.cell (p:=⟨_,1,none⟩) h.lt).j h.c1⟩
def Cx.z{w':World}{r:Option Nat}(h:Cx w B v0 v1)(hg:w.grownBy w' r)(hn:some B≠r):Cx w' B v0 v1 :=⟨AD h.lt hg.size,(CW (a:=⟨B,0,none⟩) (hg.block B h.lt hn)).j h.c0,(CW (a:=⟨B,1,none⟩) (hg.block B h.lt hn)).j h.c1⟩
def Cx.drew(h:Cx w B v0 v1):Cx w.drew B v0 v1:=⟨h.lt,h.c0,h.c1⟩
def Cx.new(w:World)(v0 v1:Value)(t:TypeId):Cx (w.alloc (.cells #[v0,v1] t)) w.heap.size v0 v1 :=⟨by simp,by rw[DT _ _ _ _ rfl];rfl,by rw[DT _ _ _ _ rfl];rfl⟩
def MB(w:World)(o:Obj):Below w.heap.size w (w.alloc o):=LG _ _
def Below.then{a b c:World}(h:Below B a b)(hB:B<=a.heap.size)(k:Below b.heap.size b c):Below B a c:=h.j (k.i (AL hB h.size))
def TO(k:Nat):List Int:=if h:k=0 then [] else TO (k / 10)++[48+((k % 10:Nat):Int)]
def mi:TO 0=[]:=by unfold TO;simp
def ro(k:Nat)(h:k≠0):TO k=TO (k / 10)++[48+((k % 10:Nat):Int)]:=by
 conv=>lhs;unfold TO
 simp[h]
def oY:∀(n k:Nat),k<=n->(TO k).length<=k
 | 0,k,h=>by rw[show k=0 by omega,mi];simp
 | n+1,k,h=>by
  by_cases hk:k=0
  ·rw[hk,mi];simp
  rw[ro k hk,AF]
  have:=oY n (k / 10) (by omega);simp;omega
def NJ(k:Nat):ByteArray:=⟨#[109]⟩++strOfNums (TO k)
def YU(k:Nat)(w:World)(h0:0<k)(h1:k<=100000000):Calls prog 96 #[.int .i64 (k:Int)] w λe w'=>e=.returned (.string (NJ k))/\Below w.heap.size w w':=by
 have aG:=eh;have aF:(0:Int)<(k:Int):=by omega
 have aB:=LE (oY k k (AA _));go_enter func96,ntmps96;go_wp2;go_loopw [0,3] (λx o wr=>∃(j:Nat) (r:List Int),j<=100000000/\r.length<=100000000/\x=.int .i64 (j:Int)/\o=.string (strOfNums r)/\Hid (TO k=TO j++r)/\Below w.heap.size w wr) (λx _ _=>(intOf x).toNat)
 case atStart=>exact⟨k,[],h1,by simp,rfl,rfl,LE (by simp),AB _ _⟩
 case round =>
  obtain⟨j,r,hj,hr,rfl,rfl,HJ,aA⟩:=hrel
  by_cases hp:0<j
  ·have aI:(0:Int)<(j:Int):=by omega
   have aJ:(strOfNums [48+(j:Int) % 10]).size<=1:=by rw[BS];simp
   have aE:(strOfNums r).size<=100000000:=by rw[BS];exact hr
   have HN:Hid (TO k=TO (j / 10)++((48+(j:Int) % 10)::r)):=by
    show _=_;rw[HJ.o,ro j (by omega)];simp
   have aC:Hid (((48+(j:Int) % 10)::r).length<=100000000):=by
    have h1:=BT List.length HN.o;have h2:=aB.o;rw[AF]at h1;show _<=_;omega
   go_wp2;go_roundw
   case rel=>exact⟨j / 10,_,by omega,aC.o,by go_num,by rw[<-RG];rfl,HN,aA.alloc aA.size _⟩
   case measure=>simp[intOf];omega
  have aE:(strOfNums r).size<=100000000:=by rw[BS];exact hr
  have aD:Hid (j=0):=by show _=_;omega
  have aH:¬((0:Int)<(j:Int)):=by omega
  go_wp2;go_ret;refine⟨dz ?_,aA⟩;unfold NJ;rw[HJ.o,aD.o,mi];rfl
def bm(ki:Int)(k:Nat)(aA:ki=(k:Int))(w:World)(h0:0<k)(h1:k<=100000000):Calls prog 96 #[.int .i64 ki] w λe w'=>e=.returned (.string (NJ k))/\Below w.heap.size w w':=by
 subst aA;exact YU k w h0 h1
def qI{g:Nat}{cs:List Value}(h:Row w g cs)(i:Nat)(hi:i<cs.length):(∃u,w.cell? ⟨g,i,none⟩=some u)/\w.frozen? ⟨g,i,none⟩=false:=⟨⟨_,h.cell i _ (AM hi)⟩,h.froz i hi⟩
def gx(m:Nat):ByteArray×ByteArray:=(NJ m,NJ (m+1))
def QA(k n:Nat):List (ByteArray×ByteArray):=(List.range n).map λi=>gx (k+2*i)
def XX(k n:Nat):(QA k n).length=n:=by simp[QA]
def Ce(k n:Nat):QA k (n+1)=QA k n++[gx (k+2*n)]:=by simp[QA,DR]
def UE(k i:Nat)(rs:List (ByteArray×ByteArray)):List Value:=LI (QA k i++rs.drop i)
def vA(k i:Nat)(rs:List (ByteArray×ByteArray))(h:i<=rs.length):(UE k i rs).length=rs.length*2:=by simp[UE,RC,XX];omega
def Fg(k i:Nat)(rs:List (ByteArray×ByteArray))(h:i<rs.length):((UE k i rs).set (i*2) (.string (NJ (k+2*i)))).set (i*2+1) (.string (NJ (k+2*i+1)))=UE k (i+1) rs:=by
 have el:(LI (QA k i)).length=i*2:=by rw[RC,XX]
 unfold UE;rw[Ce,RT rs i (empty,empty) h,QT,QT,QT,BV _ _ (by omega),BV _ _ (by omega),el];simp[LI,gx]
def tm(a:Option Addr)(rs:List (ByteArray×ByteArray))(c k:Nat)(w:World)(h:OwnS w a (LI rs))(hk:0<k)(hl:k+2*rs.length<=100000000):Calls prog 95 #[.slice a rs.length c,.int .i64 (k:Int)] w λe w'=>e=.returned (.int .i64 ((k+2*rs.length:Nat):Int))/\w.grownBy w' (blk a rs.length)/\OwnS w' a (LI (QA k rs.length)):=by
 by_cases aB:rs=[]
 ·skip
  subst aB;go_enter func95,ntmps95;go_wp2;refine GE 1 ?_;rw[IR];go_wp2;go_ret;exact⟨rfl,VT _ _,.inl rfl⟩
 obtain⟨g,rfl,aA⟩:=h.resolve_left (λe=>aB (by have:=BT List.length e;rw[RC,AR]at this;exact AC (by omega)))
 rw[MI g 0 rs.length (λe=>aB (AC e))];have aJ:Row w g (UE k 0 rs):=by simpa[UE,QA] using aA
 clear aA aB;go_enter func95,ntmps95;go_wp2;go_loopw [1,5] (λx i wr=>∃j m:Nat,j<=rs.length/\i=.int .i64 (j:Int)/\x=.int .i64 (m:Int)/\Hid (m=k+2*j)/\Row wr g (UE k j rs)/\w.grownBy wr (some g)) (λ_ i _=>rs.length-(intOf i).toNat)
 case atStart=>exact⟨0,k,AH _,rfl,rfl,LE rfl,aJ,VT _ _⟩
 case round =>
  clear aJ;obtain⟨j,m,hj,rfl,rfl,HM,aA,aH⟩:=hrel;have HR:=LE aA;have HG:=LE aH;clear aH aA
  by_cases aO:j<rs.length
  ·have HL:=LE (vA k j rs hj)
   have aS:(m:Int)<=99999998:=by have:=HM.o;omega
   have aP:(0:Int)<(m:Int):=by have:=HM.o;omega
   go_wp2_with (first|(have _g:=aC;go_at_call 96;refine(bm ((m:Int)+1) (m+1) (by omega) _ (by omega) (by omega)).i ?_;rintro e w3 ⟨rfl,aE⟩;have aG:=LE ((aC.o.set (j*2) (by rw[HL.o];omega) (.string (NJ m))).I aE);have aL:=qI aG.o (j*2+1) (by rw[DP,HL.o];omega);obtain⟨⟨u3,aL⟩,aR⟩:=aL;have aN:=LE (PY (MC aM.o _ _) (TN _ aE));clear aE)|(go_at_call 96;refine(YU m _ (by omega) (by omega)).i ?_;rintro e w2 ⟨rfl,aD⟩;have aC:=LE (HR.o.I aD);have aK:=qI aC.o (j*2) (by rw[HL.o];omega);obtain⟨⟨u2,aK⟩,aQ⟩:=aK;have aM:=LE (PY HG.o (TN _ aD));clear aD))
   have aF:((UE k j rs).set (j*2) (.string (NJ m))).set (j*2+1) (.string (NJ (m+1)))=UE k (j+1) rs:=by
    rw[HM.o];exact Fg k j rs aO
   refine⟨⟨j+1,m+2,by omega,by go_num,by go_num,by show _=_;have:=HM.o;omega,?_,MC aN.o _ _⟩,by simp[intOf];omega⟩;rw[<-aF];exact aG.o.set (j*2+1) (by rw[DP,HL.o];omega) _
  have aI:Hid (j=rs.length):=by show _=_;omega
  go_wp2;go_ret;refine⟨MU (by rw[HM.o,aI.o]),HG.o,.inr ⟨g,rfl,?_⟩⟩;have:=HR.o;rw[aI.o]at this;simpa[UE] using this
def Ha(a:Option Addr)(rs:List (ByteArray×ByteArray))(c k:Nat)(w:World)(h:OwnS w a (LI rs))(hk:0<k)(hl:k+2*rs.length<=100000000):Calls prog 94 #[LR a rs.length c,.int .i64 (k:Int)] w λe w'=>e=.returned (.int .i64 ((k+2*rs.length:Nat):Int))/\w.grownBy w' (blk a rs.length)/\OwnS w' a (LI (QA k rs.length)):=by
 have aA:∀o,Below w.heap.size w (w.alloc o):=λo=>LG _ _
 go_enter func94,ntmps94;go_wp2_with fail;refine(tm a rs c k _ (h.I (aA _)) hk hl).i ?_;rintro e w1 ⟨rfl,aB,aC⟩;have HG:=LE (PY (TN (blk a rs.length) (aA _)) aB);have HO:=LE aC;clear aB aC;go_wp2;go_ret;exact⟨rfl,HG.o,HO.o⟩
def ZK:(prog.info? 162).map (λi=>(i.zero,i.size,i.bytes))=some (some (.agg #[.string empty,.string empty]),2,32):=by kernel_rfl
def UP{e:TypeId}{z:Value}{size aA:Nat}(h:(P.info? e).map (λi=>(i.zero,i.size,i.bytes))=some (some z,size,aA)):∃i,P.info? e=some i/\i.zero=some z/\i.size=size/\i.bytes=aA:=by
 obtain⟨i,hi,hh⟩:=EF.1 h;simp only[EA]at hh;exact⟨i,hi,hh⟩
def sr(n:Nat)(h:0<n):Builtin.nextslicecap n 0=n:=by
 unfold Builtin.nextslicecap;simp;omega
def F7(t ty e:TypeId)(i:TypeInfo)(z:Value)(size aB:Nat)(ht:P.underlying t=some (.slice e))(hi:P.info? e=some i)(hz:i.zero=some z)(aE:i.size=size)(aI:i.bytes=aB)
  (base:Option Addr)(aC:base=none\/∃b,base=some ⟨b,0,none⟩)(v:Value)(n:Nat)(news:List Value)(aA:Src P size t v n news w)(hn:n<=1048576)(aH:n*aB<=281474976710656):∃a' cap wx,(Builtin.append_ #[t,t] ty #[.slice base 0 0,v]).run P w=.ok (.slice a' n cap) wx/\n<=cap/\(n=0\/(a'=some ⟨w.heap.size,0,none⟩/\Row wx w.heap.size news))/\Below w.heap.size w wx:=by
 subst aE aI
 by_cases h0:n=0
 ·subst h0
  have aF:news=[]:=AC (by have:=aA.newsLen;omega);subst aF;rcases aC with rfl|⟨b,rfl⟩
  ·refine⟨none,0,w,?_,AA _,.inl rfl,AB _ _⟩
   rcases aA.kind with ⟨e',hk⟩|hk<;>simp[Builtin.append_,FO ht,FO hk,sizeOf,typeInfo,hi,aA.len,aA.cells]
  have aD:=run_append_room_src (P:=P) w t t ty e i ht hi b 0 0 0 v 0 [] aA (by omega) (by simp) (by simp)
  exact⟨_,_,_,aD,AA _,.inl rfl,AB _ _⟩
 have aG:(Builtin.firstCells i.size 0 (.slice base 0 0)).run P w.drew=.ok ([]:List Value).toArray w.drew:=by
  rcases aC with rfl|⟨b,rfl⟩
  ·simp[Builtin.firstCells,JK]
  exact FR w.drew i.size 0 _ 0 0 [] (by simp) (by simp)
 have aD:=run_append_grow_src (P:=P) w t t ty e i z ht hi hz base 0 0 [] aG v n news aA (by omega) (by omega) (by rw[BF,sr n (by omega)];exact aH);refine⟨_,_,_,by rw[aD,BF],?_,.inr ⟨rfl,?_⟩,(AB _ _).drew.alloc (AA _) _⟩
 ·have:=JI w (0+n) 0 e
  rw[BF]at this;exact this
 have hr:=ME w.drew ((([]:List Value)++news).toArray++Builtin.zeroCells z.cells (grownCap w (0+n) 0 e-(0+n))) e;refine⟨by simp,λj u hu=>?_,λj hj=>?_⟩
 ·have:=hr.cell j u (by
   obtain⟨hj,_⟩:=CA.1 hu
   simp[AX hj,hu])
  simpa using this
 have:=hr.froz j (by simp;omega)
 simpa using this
def pw{aG:Array Oper}{aD:List Oper}{o:Oper}{a:Act}{Q:Exit->Act->World->Prop}(aJ:o.guard=none)(s x:Operand)(t:TypeId)
  (ho:o.op=.call { callee:=.builtin .append,args:=#[s,x],argTypes:=#[t,t] })(e:TypeId)(i:TypeInfo)(z:Value)(size aA:Nat)(ht:P.underlying t=some (.slice e))(hi:P.info? e=some i)(hz:i.zero=some z)(aC:i.size=size)(aI:i.bytes=aA)
  (base:Option Addr)(hs:a.eval s=.slice base 0 0)(aB:base=none\/∃b,base=some ⟨b,0,none⟩)(v:Value)(hx:a.eval x=v)(n:Nat)(news:List Value)(aF:Src P size t v n news w)(hn:n<=1048576)(aH:n*aA<=281474976710656)
  (h:∀a' cap wx,n<=cap->(n=0\/(a'=some ⟨w.heap.size,0,none⟩/\Row wx w.heap.size news))->Below w.heap.size w wx->wpList P aG Q aD (a.put o.dst (.slice a' n cap)) wx):wpList P aG Q (o::aD) a w:=by
 refine IV aJ λK hK=>?_
 obtain⟨a',cap,wx,aE,h1,h2,h3⟩:=F7 (P:=P) (w:=w) t o.type e i z size aA ht hi hz aC aI base aB v n news aF hn aH;unfold Oper.wp;simp[execOp,ho,resolve,invoke,builtin,hs,hx,aE,Result.andThen];exact hK _ _ (h a' cap wx h1 h2 h3)
def nY{a:Option Addr}{rs:List (ByteArray×ByteArray)}(h:Prs w a rs)(t e:TypeId)(ht:P.underlying t=some (.slice e))(c:Nat):Src P 2 t (.slice a rs.length c) rs.length (LI rs) w:=by
 rcases h with h|⟨b,o,rfl,hb,hc⟩
 ·subst h
  cases a with
  | none=>exact Src.ofNil w ht c
  | some x=>exact Src.ofSlice w ht x 0 c [] (by simp) (by simp) (by simp)
 refine Src.ofSlice w ht ⟨b,o,none⟩ rs.length c _ (RC rs) (λj u hu=>?_) (λu hu=>?_)
 ·obtain⟨hj,e⟩:=CA.1 hu
  rw[RC]at hj;have ha:(⟨b,o,none⟩:Addr).add j=⟨b,o+j,none⟩:=by unfold Addr.add;split<;>simp_all
  obtain⟨q,hq⟩:∃q,j=q*2\/j=q*2+1:=⟨j / 2,by omega⟩;have aA:q<rs.length:=by omega
  have hw:=ZR rs q aA;rcases hq with rfl|rfl
  ·rw[ha,(hc q aA).1,<-hu,hw.1]
  rw[ha,<-IE,(hc q aA).2,<-hu,hw.2]
 unfold LI at hu
 obtain⟨x,_,hx⟩:=EE.1 hu;simp at hx;rcases hx with rfl|rfl<;>rfl
def au(w w':World)(e:Ending)(rs:List (ByteArray×ByteArray)):Prop:=∃a c,e=.returned (LR a rs.length c)/\rs.length<=c/\OwnS w' a (LI rs)/\(∀g,blk a rs.length=some g->w.heap.size<=g)/\Below w.heap.size w w'
def xi{wx:World}{a':Option Addr}{rs:List (ByteArray×ByteArray)}{H:Nat}(h:rs.length=0\/(a'=some ⟨H,0,none⟩/\Row wx H (LI rs)))(hH:w.heap.size<=H):OwnS wx a' (LI rs)/\(∀g,blk a' rs.length=some g->w.heap.size<=g/\g=H):=by
 rcases h with h|⟨rfl,hr⟩
 ·have:rs=[]:=AC h
  subst this
  exact⟨.inl rfl,λg hg=>by cases hg⟩
 refine⟨.inr ⟨H,rfl,hr⟩,λg hg=>?_⟩
 by_cases h0:rs.length=0
 ·rw[h0]at hg;cases hg
 rw[MI _ _ _ h0]at hg;cases hg;exact⟨hH,rfl⟩
def bi(a:Option Addr)(rs:List (ByteArray×ByteArray))(c:Nat)(w:World)(h:Prs w a rs)(hl:rs.length<=1048576):Calls prog 64 #[LR a rs.length c] w λe w'=>au w w' e rs:=by
 obtain⟨i0,aF,aG,aH,aI⟩:=UP ZK;have HI:=LE (AG aF (AG aG (AG aH aI)));clear aF aG aH aI
 have aE:∀o1 o2 o3,Below w.heap.size w (((w.alloc o1).alloc o2).alloc o3):=λo1 o2 o3=>((LG _ _).alloc (by simp) _).alloc (by simp;omega) _
 go_enter func64,ntmps64;go_wp2_with (at_builtin;refine pw rfl _ _ 46 rfl 162 i0 _ 2 32 underlying46 HI.o.1 HI.o.2.1 HI.o.2.2.1 HI.o.2.2.2 _ rfl (.inr ⟨_,rfl⟩) _ rfl rs.length _ (nY (h.I (aE _ _ _)) _ _ underlying46 c) hl (by omega) ?_;intro a' cap wx aD aB aA;have c1:wx.cell? ⟨w.heap.size+1,0,none⟩=some (.slice none 0 0):=LH aA (by go_simp);have f1:wx.frozen? ⟨w.heap.size+1,0,none⟩=false:=LM aA (by go_simp);have aJ:=LE ((aE _ _ _).j (aA.i (by simp<;>omega)));have aC:=LE (xi (w:=w) aB (by simp;omega));have aK:w.heap.size+1<wx.heap.size:=AD (by simp) aA.size;clear aB aA);refine AJ (v:=LR a' rs.length cap) (by simp[results,results64,go_sem,c1]) rfl ⟨a',cap,rfl,aD,?_,λg hg=>(aC.o.2 g hg).1,aJ.o.setCell (by show w.heap.size<=w.heap.size+1;omega) _⟩;rcases aC.o.1 with h1|⟨g,rfl,h1⟩
 ·exact .inl h1
 by_cases h0:rs.length=0
 ·exact .inl (by rw[AC h0];rfl)
 have:=(aC.o.2 g (MI _ _ _ h0)).2
 exact .inr ⟨g,rfl,h1.other _ (by show w.heap.size+1≠g;rw[this];simp<;>omega) _⟩
