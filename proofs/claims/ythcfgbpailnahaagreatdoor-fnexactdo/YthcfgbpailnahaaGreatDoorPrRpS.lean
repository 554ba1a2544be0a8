import Derived.Test.YthcfgbpailnahaaGreatDoorPrG43
set_option maxHeartbeats 16000000
namespace Go.Proofs.YthcfgbpailnahaaGreatDoor
open Tryz
open Go.RowKit
set_option maxRecDepth 4000
set_option linter.all false
def MR(l:List Int):Int:=l.foldl (λn x=>n*256+x) 0
def oJ{k:IntKind}{a b:Int}(h:a=b):Ending.returned (.int k a)=.returned (.int k b):=by rw[h]
def iw(l:List Int)(x:Int):MR (l++[x])=MR l*256+x:=by simp[MR]
def oM(t:ByteArray)(k:Nat)(h:k<t.size):(LF t).take (k+1)=(LF t).take k++[(((t[k]'h).toNat:Nat):Int)]:=by
 unfold LF;rw[<-ID,<-ID,oh t k h,BK];rfl
def xv:∀(k:Nat) (t:ByteArray),k<=t.size->k<=4->0<=MR ((LF t).take k)/\MR ((LF t).take k)<(256:Int) ^ k
 | 0,t,_,_=>by simp[MR]
 | k+1,t,h,h4=>by
  obtain⟨h1,h2⟩:=xv k t (by omega) (by omega);rw[oM t k (by omega),iw,LB];have:=GU (t[k]'(by omega))
  constructor<;>omega
def yA(t:ByteArray)(w:World)(hs:t.size<=4):Calls prog 229 #[.string t] w λe w'=>e=.returned (.int .i64 (MR (LF t)))/\w'=w:=by
 go_enter func229,ntmps229;go_wp2;go_loop [3,4] (λx i=>∃(k:Nat) (y:Int),k<=t.size/\i=.int .i64 (k:Int)/\x=.int .i64 y/\Hid (y=MR ((LF t).take k))/\0<=y/\y<=4294967296) (λ_ i=>t.size-(intOf i).toNat)
 case atStart=>exact⟨0,0,AH _,rfl,rfl,by show _=_;simp[MR],by omega,by omega⟩
 case round =>
  obtain⟨k,y,hk,rfl,rfl,HY,aG,aH⟩:=hrel
  by_cases aE:k<t.size
  ·obtain⟨b,hb⟩:∃b,b=(t[k]'aE).toNat:=⟨_,rfl⟩
   have aF:b<=255:=by rw[hb];have:=GU (t[k]'aE);omega
   have hg:(t[k]'aE).toNat=b:=hb.symm;have HN:Hid (y*256+(b:Int)=MR ((LF t).take (k+1))):=by show _=_;rw[oM t k aE,iw,<-HY.o,hb]
   have aB:=xv (k+1) t (by omega) (by omega);rw[<-HN.o]at aB
   have aA:(256:Int) ^ (k+1)<=4294967296:=by
    have:k+1=1\/k+1=2\/k+1=3\/k+1=4:=by omega
    rcases this with h|h|h|h<;>rw[h]<;>decide
   have aC:0<=y*256+(b:Int):=aB.1;have aD:y*256+(b:Int)<=4294967296:=by omega
   clear aB aA hb;go_wp2;go_round
   case rel=>exact⟨k+1,_,by omega,by go_num,rfl,HN.o,aC,aD⟩
   case measure=>simp[intOf];omega
  go_wp2
  go_ret;refine⟨oJ ?_,rfl⟩;rw[HY.o,AT (by rw[ML];omega)]
def SO(b:ByteArray):Int:=((b.data.toList.getD 0 0).toNat:Int)
def rpN(b:ByteArray):Nat:=(b.data.toList.getD 7 0).toNat
def SP(b:ByteArray):Int:=MR (LF (b.extract 1 3))
def SQ(b:ByteArray):Int:=MR (LF (b.extract 3 7))
def RX(b:ByteArray):ByteArray:=b.extract 8 (8+rpN b)
def MX(s:ByteArray)(n:Int):Option (Int×Int×Int×ByteArray) :=if 1<=n/\n<=8/\s.size=64/\(rpN (s.extract n.toNat 64):Int)<=56-n/\MP (SO (s.extract n.toNat 64)) (SP (s.extract n.toNat 64)) (SQ (s.extract n.toNat 64)) (RX (s.extract n.toNat 64)) n=s then
  some (SO (s.extract n.toNat 64),SP (s.extract n.toNat 64),SQ (s.extract n.toNat 64),RX (s.extract n.toNat 64)) else none
def jd(b:ByteArray)(i:Nat)(h:i<b.size):(b[i]'h).toNat=(b.data.toList.getD i 0).toNat:=by
 have hl:i<b.data.toList.length:=h;rw[BB,AM hl];rfl
def LQ{p:Prop}(h:p):Hid p:=h
def kh(t:ByteArray)(L:Int)(w:World)(hs:t.size<=4)(hL:L=MR (LF t)):Calls prog 229 #[.string t] w λe w'=>e=.returned (.int .i64 L)/\w'=w:=by rw[hL];exact yA t w hs
def TW(o:Option (Int×Int×Int×ByteArray)):Value:=match o with
 | none=>.tuple #[NH 0 0 0 ⟨#[]⟩,.bool false]
 | some (k,l,m,p)=>.tuple #[NH k l m p,.bool true]
def YZ{s:ByteArray}{n:Int}(h:¬(1<=n/\n<=8/\s.size=64/\(rpN (s.extract n.toNat 64):Int)<=56-n/\MP (SO (s.extract n.toNat 64)) (SP (s.extract n.toNat 64)) (SQ (s.extract n.toNat 64)) (RX (s.extract n.toNat 64)) n=s)):MX s n=none:=by unfold MX;exact AE h
def xE(s:ByteArray)(n:Nat)(w:World)(hs:s.size=64)(h1:1<=n)(h2:n<=8)(hN:rpN (s.extract n 64)<=56-n):Calls prog 198 #[.string s,.int .i64 (n:Int)] w λe w'=>e=.returned (TW (MX s (n:Int)))/\Below w.heap.size w w':=by
 have aJ:∀o o',Below w.heap.size w ((w.alloc o).alloc o'):=λo o'=>(LG _ _).alloc (by simp) _
 obtain⟨R,HR⟩:∃R,Hid (R=MX s (n:Int)):=⟨_,LQ rfl⟩;rw[<-HR.o]
 have aH:Hid (MX s (n:Int)=if MP (SO (s.extract n 64)) (SP (s.extract n 64)) (SQ (s.extract n 64)) (RX (s.extract n 64)) (n:Int)=s then some (SO (s.extract n 64),SP (s.extract n 64),SQ (s.extract n 64),RX (s.extract n 64)) else none):=by
  show _=_;unfold MX;rw[DG]
  by_cases hF:MP (SO (s.extract n 64)) (SP (s.extract n 64)) (SQ (s.extract n 64)) (RX (s.extract n 64)) (n:Int)=s
  ·rw[AK hF,AK ⟨by omega,by omega,hs,by omega,hF⟩]
  rw[AE hF,AE (λhh=>hF hh.2.2.2.2)]
 have hd:decide (1<=(n:Int)/\(n:Int)<=8)=true:=by simp;omega
 have bF:(s.size:Int)=64:=by omega
 obtain⟨b,hb⟩:∃b,s.extract n 64=b:=⟨_,rfl⟩;have aK:b.size=64-n:=by rw[<-hb];simp only[AW];omega
 obtain⟨m,hm⟩:∃m:Nat,b.size=m:=⟨_,rfl⟩;have aX:n+m=64:=by omega
 have l0:0<b.size:=by omega
 have l7:7<b.size:=by omega
 have g0:=jd b 0 l0;have g7:=jd b 7 l7;rw[hb]at hN;obtain⟨K,hK⟩:∃K,K=(b.data.toList.getD 0 0).toNat:=⟨_,rfl⟩;obtain⟨N,aD⟩:∃N,N=(b.data.toList.getD 7 0).toNat:=⟨_,rfl⟩;rw[<-hK]at g0;rw[<-aD]at g7;have aP:K<=255:=by rw[hK];have:=GU (b.data.toList.getD 0 0);omega
 have aR:N<=56-n:=by rw[aD];exact hN
 obtain⟨e,he⟩:∃e:Nat,e=8+N:=⟨_,rfl⟩;have aS:(8:Int)+(N:Int)=(e:Int):=by omega
 have aT:(e:Int)<=(m:Int):=by omega
 have aV:IntKind.i64.wrap (e:Int)=(e:Int):=by simp[IntKind.wrap,IntKind.bits,IntKind.signed];omega
 have bE:(N:Int)<=64-(n:Int)-8:=by omega
 have z1:(b.extract 1 3).size<=4:=by simp only[AW];omega
 have z2:(b.extract 3 7).size<=4:=by simp only[AW];omega
 have aW:0<m:=by omega
 have aL:(0:Int)<(m:Int):=by omega
 have aM:(1:Int)<=(m:Int):=by omega
 have aN:(7:Int)<=(m:Int):=by omega
 have aQ:IntKind.i64.wrap (K:Int)=(K:Int):=by simp[IntKind.wrap,IntKind.bits,IntKind.signed];omega
 have bC:(8:Int)<=(m:Int):=by omega
 have aZ:(7:Int)<(m:Int):=by omega
 have aY:(3:Int)<=(m:Int):=by omega
 have aU:(8:Int)<=(e:Int):=by omega
 obtain⟨L,HL⟩:∃L,Hid (L=MR (LF (b.extract 1 3))):=⟨_,LQ rfl⟩;obtain⟨M,HM⟩:∃M,Hid (M=MR (LF (b.extract 3 7))):=⟨_,LQ rfl⟩;obtain⟨P,hP⟩:∃P,b.extract 8 e=P:=⟨_,rfl⟩;have aI:P.size<=1048576:=by rw[<-hP];simp only[AW];omega
 obtain⟨F,HF⟩:∃F,Hid (F=MP (K:Int) L M P (n:Int)):=⟨_,LQ rfl⟩
 have aC:Hid (R=if F=s then some ((K:Int),L,M,P) else none):=by
  show _=_;rw[HR.o,aH.o,hb,HF.o];have e1:SO b=(K:Int):=by unfold SO;rw[hK]
  have e2:RX b=P:=by unfold RX rpN;rw[<-aD,<-he];exact hP
  have e3:SP b=L:=HL.o.symm;have e4:SQ b=M:=HM.o.symm;rw[e1,e2,e3,e4]
 clear aK hK aD hN he HR aH;go_enter func198,ntmps198
 go_wp2_with (first|(go_at_call 57;refine(PV _ _).i ?_;rw[hd];rintro e w2 ⟨rfl,rfl⟩)|(go_at_call 228;refine(aq _ _ (by omega) (by omega)).i ?_;rintro e w2 ⟨rfl,rfl⟩))
 go_region_law (first|(have _g:=g1;refine LK (by rfl) 229 #[.string (b.extract 3 7)] (by go_simp) (kh (b.extract 3 7) M _ z2 HM.o) ?_;rintro e w7 ⟨rfl,rfl⟩;refine⟨_,rfl,?_⟩)|(refine LK (by rfl) 229 #[.string (b.extract 1 3)] (by go_simp) (kh (b.extract 1 3) L _ z1 HL.o) ?_;rintro e w7 ⟨rfl,rfl⟩;refine⟨_,rfl,?_⟩;have g1:=True.intro))
 all_goals
  by_cases aB:F=s
  ·rw[AK aB]at aC
   have aG:=LQ aB;clear aB;have aO:Hid (MP (K:Int) L M P (n:Int)=s):=HF.o.symm.j aG.o;rw[aG.o]at HF;go_wp2_with (go_at_call 154;refine(YG (K:Int) L M P (n:Int) _ aI).i ?_;rw[<-HF.o];rintro e w5 ⟨rfl,aA⟩;have aF:=aA.size;simp only[AU,JA]at aF;have c0:w5.cell? ⟨w.heap.size,0,none⟩=some (.int .i64 0):=LH aA (by go_simp);have c1:w5.cell? ⟨w.heap.size,1,none⟩=some (.int .i64 0):=LH aA (by go_simp);have c2:w5.cell? ⟨w.heap.size,2,none⟩=some (.int .i64 0):=LH aA (by go_simp);have c3:w5.cell? ⟨w.heap.size,3,none⟩=some (.string ⟨#[]⟩):=LH aA (by go_simp);have f0:w5.frozen? ⟨w.heap.size,0,none⟩=false:=LM aA (by go_simp);have f1:w5.frozen? ⟨w.heap.size,1,none⟩=false:=LM aA (by go_simp);have f2:w5.frozen? ⟨w.heap.size,2,none⟩=false:=LM aA (by go_simp);have f3:w5.frozen? ⟨w.heap.size,3,none⟩=false:=LM aA (by go_simp);have d0:w5.cell? ⟨w.heap.size+1,0,none⟩=some (.int .i64 K):=LH aA (by go_simp);have d1:w5.cell? ⟨w.heap.size+1,1,none⟩=some (.int .i64 L):=LH aA (by go_simp);have d2:w5.cell? ⟨w.heap.size+1,2,none⟩=some (.int .i64 M):=LH aA (by go_simp);have d3:w5.cell? ⟨w.heap.size+1,3,none⟩=some (.string P):=LH aA (by go_simp);have aE:=LQ ((aJ _ _).drew.j (aA.i (by simp<;>omega)));clear aA)
   refine AJ (v:=.tuple #[NH K L M P,.bool true]) (by simp[results,results198,go_sem,c0,c1,c2,c3]) rfl ⟨by rw[aC.o];rfl,?_⟩;exact(((aE.o.setCell (AA _) _).setCell (AA _) _).setCell (AA _) _).setCell (AA _) _
  ·rw[AE aB]at aC
   have hG:(!F.toList == s.toList)=true:=by simp only[KH,EP];intro hh;rw[DF,DF]at hh;exact aB (FA (JC hh))
   clear aB;go_wp2_with (go_at_call 154;refine(YG (K:Int) L M P (n:Int) _ aI).i ?_;rw[<-HF.o];rintro e w5 ⟨rfl,aA⟩;have aF:=aA.size;simp only[AU,JA]at aF;have c0:w5.cell? ⟨w.heap.size,0,none⟩=some (.int .i64 0):=LH aA (by go_simp);have c1:w5.cell? ⟨w.heap.size,1,none⟩=some (.int .i64 0):=LH aA (by go_simp);have c2:w5.cell? ⟨w.heap.size,2,none⟩=some (.int .i64 0):=LH aA (by go_simp);have c3:w5.cell? ⟨w.heap.size,3,none⟩=some (.string ⟨#[]⟩):=LH aA (by go_simp);have f0:w5.frozen? ⟨w.heap.size,0,none⟩=false:=LM aA (by go_simp);have f1:w5.frozen? ⟨w.heap.size,1,none⟩=false:=LM aA (by go_simp);have f2:w5.frozen? ⟨w.heap.size,2,none⟩=false:=LM aA (by go_simp);have f3:w5.frozen? ⟨w.heap.size,3,none⟩=false:=LM aA (by go_simp);have d0:w5.cell? ⟨w.heap.size+1,0,none⟩=some (.int .i64 K):=LH aA (by go_simp);have d1:w5.cell? ⟨w.heap.size+1,1,none⟩=some (.int .i64 L):=LH aA (by go_simp);have d2:w5.cell? ⟨w.heap.size+1,2,none⟩=some (.int .i64 M):=LH aA (by go_simp);have d3:w5.cell? ⟨w.heap.size+1,3,none⟩=some (.string P):=LH aA (by go_simp);have aE:=LQ ((aJ _ _).drew.j (aA.i (by simp<;>omega)));clear aA)
   refine AJ (v:=.tuple #[NH 0 0 0 ⟨#[]⟩,.bool false]) (by simp[results,results198,go_sem,c0,c1,c2,c3]) rfl ⟨by rw[aC.o];rfl,?_⟩;exact(((aE.o.setCell (AA _) _).setCell (AA _) _).setCell (AA _) _).setCell (AA _) _
