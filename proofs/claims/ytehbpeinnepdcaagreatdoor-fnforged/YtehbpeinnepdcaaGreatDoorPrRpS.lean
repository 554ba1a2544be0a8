import Derived.Test.YtehbpeinnepdcaaGreatDoorPrG39
import Derived.Test.YtehbpeinnepdcaaGreatDoorPrG40
set_option maxHeartbeats 16000000
namespace Go.Proofs.YtehbpeinnepdcaaGreatDoor
open Go.RowKit
set_option maxRecDepth 4000
set_option linter.unusedVariables false
set_option linter.unusedSimpArgs false
def zMt (l:List Int):Int:=l.foldl (fun n x=>n*256+x) 0
theorem vj3 {k:IntKind} {a b:Int} (h:a=b):Ending.returned (.int k a)=.returned (.int k b):=by rw [h]
theorem yQg (l:List Int) (x:Int):zMt (l++[x])=zMt l*256+x:=by simp [zMt]
theorem vnK (t:ByteArray) (k:Nat) (h:k<t.size):(zFD t).take (k+1)=(zFD t).take k++[(((t[k]'h).toNat:Nat):Int)]:=by
 unfold zFD;rw [<-List.map_take,<-List.map_take,vDo t k h,List.map_append];rfl
theorem jmk:∀ (k:Nat) (t:ByteArray),k<=t.size->k<=4->0<=zMt ((zFD t).take k)/\zMt ((zFD t).take k)<(256:Int) ^ k
 | 0,t,_,_=>by simp [zMt]
 | k+1,t,h,h4=>by
  obtain ⟨h1,h2⟩:=jmk k t (by omega) (by omega);rw [vnK t k (by omega),yQg,Int.pow_succ];have:=UInt8.toNat_lt (t[k]'(by omega))
  constructor<;>omega
theorem ZyJ (t:ByteArray) (w:World) (hs:t.size<=4):Calls Tryz.prog 22 #[.string t] w fun e w'=>e=.returned (.int .i64 (zMt (zFD t)))/\w'=w:=by
 go_enter Tryz.func22,Tryz.ntmps22;go_wp2;go_loop [3,4] (fun x i=>∃ (k:Nat) (y:Int),k<=t.size/\i=.int .i64 (k:Int)/\x=.int .i64 y/\Hid (y=zMt ((zFD t).take k))/\0<=y/\y<=4294967296) (fun _ i=>t.size-(intOf i).toNat)
 case atStart=>exact ⟨0,0,Nat.zero_le _,rfl,rfl,by show _=_;simp [zMt],by omega,by omega⟩
 case round =>
  obtain ⟨k,y,hk,rfl,rfl,HY,aG,aH⟩:=hrel
  by_cases aE:k<t.size
  ·obtain ⟨b,hb⟩:∃ b,b=(t[k]'aE).toNat:=⟨_,rfl⟩
   have aF:b<=255:=by rw [hb];have:=UInt8.toNat_lt (t[k]'aE);omega
   have hg:(t[k]'aE).toNat=b:=hb.symm;have HN:Hid (y*256+(b:Int)=zMt ((zFD t).take (k+1))):=by show _=_;rw [vnK t k aE,yQg,<-HY.out,hb]
   have aB:=jmk (k+1) t (by omega) (by omega);rw [<-HN.out] at aB
   have aA:(256:Int) ^ (k+1)<=4294967296:=by
    have:k+1=1\/k+1=2\/k+1=3\/k+1=4:=by omega
    rcases this with h | h | h | h<;>rw [h]<;>decide
   have aC:0<=y*256+(b:Int):=aB.1;have aD:y*256+(b:Int)<=4294967296:=by omega
   clear aB aA hb;go_wp2;go_round
   case rel=>exact ⟨k+1,_,by omega,by go_num,rfl,HN.out,aC,aD⟩
   case measure=>simp [intOf];omega
  ·go_wp2
   go_ret;refine ⟨vj3 ?_,rfl⟩;rw [HY.out,List.take_of_length_le (by rw [vgz];omega)]
def rpK (b:ByteArray):Int:=((b.data.toList.getD 0 0).toNat:Int)
def rpN (b:ByteArray):Nat:=(b.data.toList.getD 7 0).toNat
def rpL (b:ByteArray):Int:=zMt (zFD (b.extract 1 3))
def rpM (b:ByteArray):Int:=zMt (zFD (b.extract 3 7))
def rpP (b:ByteArray):ByteArray:=b.extract 8 (8+rpN b)
def Jvc (s:ByteArray) (n:Int):Option (Int×Int×Int×ByteArray) :=
 if 1<=n/\n<=8/\s.size=64/\(rpN (s.extract n.toNat 64):Int)<=56-n/\ZQp (rpK (s.extract n.toNat 64)) (rpL (s.extract n.toNat 64)) (rpM (s.extract n.toNat 64)) (rpP (s.extract n.toNat 64)) n=s then
  some (rpK (s.extract n.toNat 64),rpL (s.extract n.toNat 64),rpM (s.extract n.toNat 64),rpP (s.extract n.toNat 64)) else none
theorem zN1 (b:ByteArray) (i:Nat) (h:i<b.size):(b[i]'h).toNat=(b.data.toList.getD i 0).toNat:=by
 have hl:i<b.data.toList.length:=h;rw [List.getD_eq_getElem?_getD,List.getElem?_eq_getElem hl];rfl
theorem jjQ {p:Prop} (h:p):Hid p:=h
theorem X8J (t:ByteArray) (L:Int) (w:World) (hs:t.size<=4) (hL:L=zMt (zFD t)):Calls Tryz.prog 22 #[.string t] w fun e w'=>e=.returned (.int .i64 L)/\w'=w:=by rw [hL];exact ZyJ t w hs
def rpV (o:Option (Int×Int×Int×ByteArray)):Value:=match o with
 | none=>.tuple #[QAw 0 0 0 ⟨#[]⟩,.bool false]
 | some (k,l,m,p)=>.tuple #[QAw k l m p,.bool true]
theorem XRd {s:ByteArray} {n:Int} (h:¬ (1<=n/\n<=8/\s.size=64/\(rpN (s.extract n.toNat 64):Int)<=56-n/\ZQp (rpK (s.extract n.toNat 64)) (rpL (s.extract n.toNat 64)) (rpM (s.extract n.toNat 64)) (rpP (s.extract n.toNat 64)) n=s)):Jvc s n=none:=by unfold Jvc;exact if_neg h
theorem ZYx (s:ByteArray) (n:Nat) (w:World) (hs:s.size=64) (h1:1<=n) (h2:n<=8) (hN:rpN (s.extract n 64)<=56-n):Calls Tryz.prog 8 #[.string s,.int .i64 (n:Int)] w fun e w'=>e=.returned (rpV (Jvc s (n:Int)))/\Below w.heap.size w w':=by
 have aJ:∀ o o',Below w.heap.size w ((w.alloc o).alloc o'):=fun o o'=>((Below.refl _ _).alloc (Nat.le_refl _) _).alloc (by simp) _
 obtain ⟨R,HR⟩:∃ R,Hid (R=Jvc s (n:Int)):=⟨_,jjQ rfl⟩;rw [<-HR.out]
 have aH:Hid (Jvc s (n:Int)=if ZQp (rpK (s.extract n 64)) (rpL (s.extract n 64)) (rpM (s.extract n 64)) (rpP (s.extract n 64)) (n:Int)=s then some (rpK (s.extract n 64),rpL (s.extract n 64),rpM (s.extract n 64),rpP (s.extract n 64)) else none):=by
  show _=_;unfold Jvc;rw [Int.toNat_natCast]
  by_cases hF:ZQp (rpK (s.extract n 64)) (rpL (s.extract n 64)) (rpM (s.extract n 64)) (rpP (s.extract n 64)) (n:Int)=s
  ·rw [if_pos hF,if_pos ⟨by omega,by omega,hs,by omega,hF⟩]
  ·rw [if_neg hF,if_neg (fun hh=>hF hh.2.2.2.2)]
 have hd:decide (1<=(n:Int)/\(n:Int)<=8)=true:=by simp;omega
 have bH:(s.size:Int)=64:=by omega
 obtain ⟨b,hb⟩:∃ b,s.extract n 64=b:=⟨_,rfl⟩;have aK:b.size=64-n:=by rw [<-hb];simp only [ByteArray.size_extract];omega
 obtain ⟨m,hm⟩:∃ m:Nat,b.size=m:=⟨_,rfl⟩;have aX:n+m=64:=by omega
 have l0:0<b.size:=by omega
 have l7:7<b.size:=by omega
 have g0:=zN1 b 0 l0;have g7:=zN1 b 7 l7;rw [hb] at hN;obtain ⟨K,hK⟩:∃ K,K=(b.data.toList.getD 0 0).toNat:=⟨_,rfl⟩;obtain ⟨N,aD⟩:∃ N,N=(b.data.toList.getD 7 0).toNat:=⟨_,rfl⟩;rw [<-hK] at g0;rw [<-aD] at g7;have aP:K<=255:=by rw [hK];have:=UInt8.toNat_lt (b.data.toList.getD 0 0);omega
 have aR:N<=56-n:=by rw [aD];exact hN
 obtain ⟨e,he⟩:∃ e:Nat,e=8+N:=⟨_,rfl⟩;have aS:(8:Int)+(N:Int)=(e:Int):=by omega
 have aT:(e:Int)<=(m:Int):=by omega
 have aV:IntKind.i64.wrap (e:Int)=(e:Int):=by simp [IntKind.wrap,IntKind.bits,IntKind.signed];omega
 have bG:(N:Int)<=64-(n:Int)-8:=by omega
 have z1:(b.extract 1 3).size<=4:=by simp only [ByteArray.size_extract];omega
 have z2:(b.extract 3 7).size<=4:=by simp only [ByteArray.size_extract];omega
 have aW:0<m:=by omega
 have aL:(0:Int)<(m:Int):=by omega
 have aM:(1:Int)<=(m:Int):=by omega
 have aN:(7:Int)<=(m:Int):=by omega
 have aQ:IntKind.i64.wrap (K:Int)=(K:Int):=by simp [IntKind.wrap,IntKind.bits,IntKind.signed];omega
 have bC:(8:Int)<=(m:Int):=by omega
 have aZ:(7:Int)<(m:Int):=by omega
 have aY:(3:Int)<=(m:Int):=by omega
 have aU:(8:Int)<=(e:Int):=by omega
 obtain ⟨L,HL⟩:∃ L,Hid (L=zMt (zFD (b.extract 1 3))):=⟨_,jjQ rfl⟩;obtain ⟨M,HM⟩:∃ M,Hid (M=zMt (zFD (b.extract 3 7))):=⟨_,jjQ rfl⟩;obtain ⟨P,hP⟩:∃ P,b.extract 8 e=P:=⟨_,rfl⟩;have aI:P.size<=1048576:=by rw [<-hP];simp only [ByteArray.size_extract];omega
 obtain ⟨F,HF⟩:∃ F,Hid (F=ZQp (K:Int) L M P (n:Int)):=⟨_,jjQ rfl⟩
 have aC:Hid (R=if F=s then some ((K:Int),L,M,P) else none):=by
  show _=_;rw [HR.out,aH.out,hb,HF.out];have e1:rpK b=(K:Int):=by unfold rpK;rw [hK]
  have e2:rpP b=P:=by unfold rpP rpN;rw [<-aD,<-he];exact hP
  have e3:rpL b=L:=HL.out.symm;have e4:rpM b=M:=HM.out.symm;rw [e1,e2,e3,e4]
 clear aK hK aD hN he HR aH;go_enter Tryz.func8,Tryz.ntmps8
 go_wp2_with (first | (go_at_call 15;refine (X3C _ _).mono ?_;rw [hd];rintro e w2 ⟨rfl,rfl⟩) | (go_at_call 21;refine (XAP _ _ (by omega) (by omega)).mono ?_;rintro e w2 ⟨rfl,rfl⟩))
 go_region_law (first | (have _g:=g1;refine XRf (by rfl) 22 #[.string (b.extract 3 7)] (by go_simp) (X8J (b.extract 3 7) M _ z2 HM.out) ?_;rintro e w7 ⟨rfl,rfl⟩;refine ⟨_,rfl,?_⟩) | (refine XRf (by rfl) 22 #[.string (b.extract 1 3)] (by go_simp) (X8J (b.extract 1 3) L _ z1 HL.out) ?_;rintro e w7 ⟨rfl,rfl⟩;refine ⟨_,rfl,?_⟩;have g1:=True.intro))
 all_goals
  by_cases aB:F=s
  ·rw [if_pos aB] at aC
   have aG:=jjQ aB;clear aB;have aO:Hid (ZQp (K:Int) L M P (n:Int)=s):=HF.out.symm.trans aG.out;rw [aG.out] at HF;go_wp2_with (go_at_call 23;refine (x4N (K:Int) L M P (n:Int) _ aI).mono ?_;rw [<-HF.out];rintro e w5 ⟨rfl,aA⟩;have aF:=aA.size;simp only [World.size_alloc,World.size_drew] at aF;have c0:w5.cell? ⟨w.heap.size,0,none⟩=some (.int .i64 0):=(aA.cell (p:=⟨w.heap.size,0,none⟩) (by simp<;>omega)).trans (by go_simp);have c1:w5.cell? ⟨w.heap.size,1,none⟩=some (.int .i64 0):=(aA.cell (p:=⟨w.heap.size,1,none⟩) (by simp<;>omega)).trans (by go_simp);have c2:w5.cell? ⟨w.heap.size,2,none⟩=some (.int .i64 0):=(aA.cell (p:=⟨w.heap.size,2,none⟩) (by simp<;>omega)).trans (by go_simp);have c3:w5.cell? ⟨w.heap.size,3,none⟩=some (.string ⟨#[]⟩):=(aA.cell (p:=⟨w.heap.size,3,none⟩) (by simp<;>omega)).trans (by go_simp);have f0:w5.frozen? ⟨w.heap.size,0,none⟩=false:=(aA.frozen (p:=⟨w.heap.size,0,none⟩) (by simp<;>omega)).trans (by go_simp);have f1:w5.frozen? ⟨w.heap.size,1,none⟩=false:=(aA.frozen (p:=⟨w.heap.size,1,none⟩) (by simp<;>omega)).trans (by go_simp);have f2:w5.frozen? ⟨w.heap.size,2,none⟩=false:=(aA.frozen (p:=⟨w.heap.size,2,none⟩) (by simp<;>omega)).trans (by go_simp);have f3:w5.frozen? ⟨w.heap.size,3,none⟩=false:=(aA.frozen (p:=⟨w.heap.size,3,none⟩) (by simp<;>omega)).trans (by go_simp);have d0:w5.cell? ⟨w.heap.size+1,0,none⟩=some (.int .i64 K):=(aA.cell (p:=⟨w.heap.size+1,0,none⟩) (by simp<;>omega)).trans (by go_simp);have d1:w5.cell? ⟨w.heap.size+1,1,none⟩=some (.int .i64 L):=(aA.cell (p:=⟨w.heap.size+1,1,none⟩) (by simp<;>omega)).trans (by go_simp);have d2:w5.cell? ⟨w.heap.size+1,2,none⟩=some (.int .i64 M):=(aA.cell (p:=⟨w.heap.size+1,2,none⟩) (by simp<;>omega)).trans (by go_simp);have d3:w5.cell? ⟨w.heap.size+1,3,none⟩=some (.string P):=(aA.cell (p:=⟨w.heap.size+1,3,none⟩) (by simp<;>omega)).trans (by go_simp);have aE:=jjQ ((aJ _ _).drew.trans (aA.mono (by simp<;>omega)));clear aA)
   refine bodyPost_ret (v:=.tuple #[QAw K L M P,.bool true]) (by simp [results,Tryz.results8,go_sem,c0,c1,c2,c3]) rfl ⟨by rw [aC.out];rfl,?_⟩;exact (((aE.out.setCell (Nat.le_refl _) _).setCell (Nat.le_refl _) _).setCell (Nat.le_refl _) _).setCell (Nat.le_refl _) _
  ·rw [if_neg aB] at aC
   have hG:(!F.toList == s.toList)=true:=by simp only [Bool.not_eq_true',beq_eq_false_iff_ne];intro hh;rw [ByteArray.toList_eq,ByteArray.toList_eq] at hh;exact aB (ByteArray.ext (Array.ext' hh))
   clear aB;go_wp2_with (go_at_call 23;refine (x4N (K:Int) L M P (n:Int) _ aI).mono ?_;rw [<-HF.out];rintro e w5 ⟨rfl,aA⟩;have aF:=aA.size;simp only [World.size_alloc,World.size_drew] at aF;have c0:w5.cell? ⟨w.heap.size,0,none⟩=some (.int .i64 0):=(aA.cell (p:=⟨w.heap.size,0,none⟩) (by simp<;>omega)).trans (by go_simp);have c1:w5.cell? ⟨w.heap.size,1,none⟩=some (.int .i64 0):=(aA.cell (p:=⟨w.heap.size,1,none⟩) (by simp<;>omega)).trans (by go_simp);have c2:w5.cell? ⟨w.heap.size,2,none⟩=some (.int .i64 0):=(aA.cell (p:=⟨w.heap.size,2,none⟩) (by simp<;>omega)).trans (by go_simp);have c3:w5.cell? ⟨w.heap.size,3,none⟩=some (.string ⟨#[]⟩):=(aA.cell (p:=⟨w.heap.size,3,none⟩) (by simp<;>omega)).trans (by go_simp);have f0:w5.frozen? ⟨w.heap.size,0,none⟩=false:=(aA.frozen (p:=⟨w.heap.size,0,none⟩) (by simp<;>omega)).trans (by go_simp);have f1:w5.frozen? ⟨w.heap.size,1,none⟩=false:=(aA.frozen (p:=⟨w.heap.size,1,none⟩) (by simp<;>omega)).trans (by go_simp);have f2:w5.frozen? ⟨w.heap.size,2,none⟩=false:=(aA.frozen (p:=⟨w.heap.size,2,none⟩) (by simp<;>omega)).trans (by go_simp);have f3:w5.frozen? ⟨w.heap.size,3,none⟩=false:=(aA.frozen (p:=⟨w.heap.size,3,none⟩) (by simp<;>omega)).trans (by go_simp);have d0:w5.cell? ⟨w.heap.size+1,0,none⟩=some (.int .i64 K):=(aA.cell (p:=⟨w.heap.size+1,0,none⟩) (by simp<;>omega)).trans (by go_simp);have d1:w5.cell? ⟨w.heap.size+1,1,none⟩=some (.int .i64 L):=(aA.cell (p:=⟨w.heap.size+1,1,none⟩) (by simp<;>omega)).trans (by go_simp);have d2:w5.cell? ⟨w.heap.size+1,2,none⟩=some (.int .i64 M):=(aA.cell (p:=⟨w.heap.size+1,2,none⟩) (by simp<;>omega)).trans (by go_simp);have d3:w5.cell? ⟨w.heap.size+1,3,none⟩=some (.string P):=(aA.cell (p:=⟨w.heap.size+1,3,none⟩) (by simp<;>omega)).trans (by go_simp);have aE:=jjQ ((aJ _ _).drew.trans (aA.mono (by simp<;>omega)));clear aA)
   refine bodyPost_ret (v:=.tuple #[QAw 0 0 0 ⟨#[]⟩,.bool false]) (by simp [results,Tryz.results8,go_sem,c0,c1,c2,c3]) rfl ⟨by rw [aC.out];rfl,?_⟩;exact (((aE.out.setCell (Nat.le_refl _) _).setCell (Nat.le_refl _) _).setCell (Nat.le_refl _) _).setCell (Nat.le_refl _) _
end Go.Proofs.YtehbpeinnepdcaaGreatDoor
