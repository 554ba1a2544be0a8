import Derived.Test.YthdilmkbnpmdaaaPrG48
import Derived.Test.YthdilmkbnpmdaaaPrG39
set_option maxHeartbeats 16000000
namespace Go.Proofs.Ythdilmkbnpmdaaa
open Go.RowKit
set_option maxRecDepth 4000
set_option linter.unusedVariables false
set_option linter.unusedSimpArgs false
def numOf (l:List Int):Int:=l.foldl (fun n x=>n*256+x) 0
theorem ret_int' {k:IntKind} {a b:Int} (h:a=b):Ending.returned (.int k a)=.returned (.int k b):=by rw [h]
theorem numOf_snoc (l:List Int) (x:Int):numOf (l++[x])=numOf l*256+x:=by simp [numOf]
theorem nums_take_snoc (t:ByteArray) (k:Nat) (h:k<t.size):(nums t).take (k+1)=(nums t).take k++[(((t[k]'h).toNat:Nat):Int)]:=by
 unfold nums
 rw [<-List.map_take,<-List.map_take,take_snoc t k h,List.map_append]
 rfl
theorem numOf_bd:∀ (k:Nat) (t:ByteArray),k<=t.size->k<=4->0<=numOf ((nums t).take k)/\numOf ((nums t).take k)<(256:Int) ^ k
 | 0,t,_,_=>by simp [numOf]
 | k+1,t,h,h4=>by
  obtain ⟨h1,h2⟩:=numOf_bd k t (by omega) (by omega)
  rw [nums_take_snoc t k (by omega),numOf_snoc,Int.pow_succ]
  have:=UInt8.toNat_lt (t[k]'(by omega))
  constructor<;>omega
theorem lread_s (t:ByteArray) (w:World) (hs:t.size<=4):Calls Try.prog 61 #[.string t] w fun e w'=>e=.returned (.int .i64 (numOf (nums t)))/\w'=w:=by
 go_enter Try.func61,Try.ntmps61
 go_wp2
 go_loop [3,4] (fun x i=>∃ (k:Nat) (y:Int),k<=t.size/\i=.int .i64 (k:Int)/\x=.int .i64 y/\Hid (y=numOf ((nums t).take k))/\0<=y/\y<=4294967296) (fun _ i=>t.size-(intOf i).toNat)
 case atStart=>exact ⟨0,0,Nat.zero_le _,rfl,rfl,by show _=_;simp [numOf],by omega,by omega⟩
 case round =>
  obtain ⟨k,y,hk,rfl,rfl,HY,hy0,hy1⟩:=hrel
  by_cases hlt:k<t.size
  ·obtain ⟨b,hb⟩:∃ b,b=(t[k]'hlt).toNat:=⟨_,rfl⟩
   have hbl:b<=255:=by rw [hb];have:=UInt8.toNat_lt (t[k]'hlt);omega
   have hg:(t[k]'hlt).toNat=b:=hb.symm
   have HN:Hid (y*256+(b:Int)=numOf ((nums t).take (k+1))):=by show _=_;rw [nums_take_snoc t k hlt,numOf_snoc,<-HY.out,hb]
   have hbd:=numOf_bd (k+1) t (by omega) (by omega)
   rw [<-HN.out] at hbd
   have h256:(256:Int) ^ (k+1)<=4294967296:=by
    have:k+1=1\/k+1=2\/k+1=3\/k+1=4:=by omega
    rcases this with h | h | h | h<;>rw [h]<;>decide
   have hb1:0<=y*256+(b:Int):=hbd.1
   have hb2:y*256+(b:Int)<=4294967296:=by omega
   clear hbd h256 hb
   go_wp2
   go_round
   case rel=>exact ⟨k+1,_,by omega,by go_num,rfl,HN.out,hb1,hb2⟩
   case measure=>simp [intOf];omega
  ·go_wp2
   go_ret
   refine ⟨ret_int' ?_,rfl⟩
   rw [HY.out,List.take_of_length_le (by rw [nums_length];omega)]
def rpK (b:ByteArray):Int:=((b.data.toList.getD 0 0).toNat:Int)
def rpN (b:ByteArray):Nat:=(b.data.toList.getD 7 0).toNat
def rpL (b:ByteArray):Int:=numOf (nums (b.extract 1 3))
def rpM (b:ByteArray):Int:=numOf (nums (b.extract 3 7))
def rpP (b:ByteArray):ByteArray:=b.extract 8 (8+rpN b)
def rpRes (s:ByteArray) (n:Int):Option (Int×Int×Int×ByteArray) :=
 if 1<=n/\n<=8/\s.size=64/\(rpN (s.extract n.toNat 64):Int)<=56-n/\formOf (rpK (s.extract n.toNat 64)) (rpL (s.extract n.toNat 64)) (rpM (s.extract n.toNat 64)) (rpP (s.extract n.toNat 64)) n=s then
  some (rpK (s.extract n.toNat 64),rpL (s.extract n.toNat 64),rpM (s.extract n.toNat 64),rpP (s.extract n.toNat 64)) else none
theorem getb (b:ByteArray) (i:Nat) (h:i<b.size):(b[i]'h).toNat=(b.data.toList.getD i 0).toNat:=by
 have hl:i<b.data.toList.length:=h
 rw [List.getD_eq_getElem?_getD,List.getElem?_eq_getElem hl]
 rfl
theorem hid0 {p:Prop} (h:p):Hid p:=h
theorem lread' (t:ByteArray) (L:Int) (w:World) (hs:t.size<=4) (hL:L=numOf (nums t)):Calls Try.prog 61 #[.string t] w fun e w'=>e=.returned (.int .i64 L)/\w'=w:=by rw [hL];exact lread_s t w hs
def rpV (o:Option (Int×Int×Int×ByteArray)):Value:=match o with
 | none=>.tuple #[pageV 0 0 0 ⟨#[]⟩,.bool false]
 | some (k,l,m,p)=>.tuple #[pageV k l m p,.bool true]
theorem rpRes_no {s:ByteArray} {n:Int} (h:¬ (1<=n/\n<=8/\s.size=64/\(rpN (s.extract n.toNat 64):Int)<=56-n/\formOf (rpK (s.extract n.toNat 64)) (rpL (s.extract n.toNat 64)) (rpM (s.extract n.toNat 64)) (rpP (s.extract n.toNat 64)) n=s)):rpRes s n=none:=by unfold rpRes;exact if_neg h
theorem readpage_s (s:ByteArray) (n:Nat) (w:World) (hs:s.size=64) (h1:1<=n) (h2:n<=8) (hN:rpN (s.extract n 64)<=56-n):Calls Try.prog 44 #[.string s,.int .i64 (n:Int)] w fun e w'=>e=.returned (rpV (rpRes s (n:Int)))/\Below w.heap.size w w':=by
 have hb0:∀ o o',Below w.heap.size w ((w.alloc o).alloc o'):=fun o o'=>((Below.refl _ _).alloc (Nat.le_refl _) _).alloc (by simp) _
 obtain ⟨R,HR⟩:∃ R,Hid (R=rpRes s (n:Int)):=⟨_,hid0 rfl⟩
 rw [<-HR.out]
 have HRR:Hid (rpRes s (n:Int)=if formOf (rpK (s.extract n 64)) (rpL (s.extract n 64)) (rpM (s.extract n 64)) (rpP (s.extract n 64)) (n:Int)=s then some (rpK (s.extract n 64),rpL (s.extract n 64),rpM (s.extract n 64),rpP (s.extract n 64)) else none):=by
  show _=_
  unfold rpRes
  rw [Int.toNat_natCast]
  by_cases hF:formOf (rpK (s.extract n 64)) (rpL (s.extract n 64)) (rpM (s.extract n 64)) (rpP (s.extract n 64)) (n:Int)=s
  ·rw [if_pos hF,if_pos ⟨by omega,by omega,hs,by omega,hF⟩]
  ·rw [if_neg hF,if_neg (fun hh=>hF hh.2.2.2.2)]
 have hd:decide (1<=(n:Int)/\(n:Int)<=8)=true:=by simp;omega
 have hs':(s.size:Int)=64:=by omega
 obtain ⟨b,hb⟩:∃ b,s.extract n 64=b:=⟨_,rfl⟩
 have hbz:b.size=64-n:=by rw [<-hb];simp only [ByteArray.size_extract];omega
 obtain ⟨m,hm⟩:∃ m:Nat,b.size=m:=⟨_,rfl⟩
 have hm1:n+m=64:=by omega
 have l0:0<b.size:=by omega
 have l7:7<b.size:=by omega
 have g0:=getb b 0 l0
 have g7:=getb b 7 l7
 rw [hb] at hN
 obtain ⟨K,hK⟩:∃ K,K=(b.data.toList.getD 0 0).toNat:=⟨_,rfl⟩
 obtain ⟨N,hN2⟩:∃ N,N=(b.data.toList.getD 7 0).toNat:=⟨_,rfl⟩
 rw [<-hK] at g0
 rw [<-hN2] at g7
 have hKl:K<=255:=by rw [hK];have:=UInt8.toNat_lt (b.data.toList.getD 0 0);omega
 have hNl:N<=56-n:=by rw [hN2];exact hN
 obtain ⟨e,he⟩:∃ e:Nat,e=8+N:=⟨_,rfl⟩
 have he1:(8:Int)+(N:Int)=(e:Int):=by omega
 have he2:(e:Int)<=(m:Int):=by omega
 have hew:IntKind.i64.wrap (e:Int)=(e:Int):=by simp [IntKind.wrap,IntKind.bits,IntKind.signed];omega
 have hnn:(N:Int)<=64-(n:Int)-8:=by omega
 have z1:(b.extract 1 3).size<=4:=by simp only [ByteArray.size_extract];omega
 have z2:(b.extract 3 7).size<=4:=by simp only [ByteArray.size_extract];omega
 have hm0:0<m:=by omega
 have hm0i:(0:Int)<(m:Int):=by omega
 have hm1i:(1:Int)<=(m:Int):=by omega
 have hm7i:(7:Int)<=(m:Int):=by omega
 have hKw:IntKind.i64.wrap (K:Int)=(K:Int):=by simp [IntKind.wrap,IntKind.bits,IntKind.signed];omega
 have hm8:(8:Int)<=(m:Int):=by omega
 have hm7:(7:Int)<(m:Int):=by omega
 have hm3:(3:Int)<=(m:Int):=by omega
 have he8:(8:Int)<=(e:Int):=by omega
 obtain ⟨L,HL⟩:∃ L,Hid (L=numOf (nums (b.extract 1 3))):=⟨_,hid0 rfl⟩
 obtain ⟨M,HM⟩:∃ M,Hid (M=numOf (nums (b.extract 3 7))):=⟨_,hid0 rfl⟩
 obtain ⟨P,hP⟩:∃ P,b.extract 8 e=P:=⟨_,rfl⟩
 have hPz:P.size<=1048576:=by rw [<-hP];simp only [ByteArray.size_extract];omega
 obtain ⟨F,HF⟩:∃ F,Hid (F=formOf (K:Int) L M P (n:Int)):=⟨_,hid0 rfl⟩
 have HRF:Hid (R=if F=s then some ((K:Int),L,M,P) else none):=by
  show _=_
  rw [HR.out,HRR.out,hb,HF.out]
  have e1:rpK b=(K:Int):=by unfold rpK;rw [hK]
  have e2:rpP b=P:=by unfold rpP rpN;rw [<-hN2,<-he];exact hP
  have e3:rpL b=L:=HL.out.symm
  have e4:rpM b=M:=HM.out.symm
  rw [e1,e2,e3,e4]
 clear hbz hK hN2 hN he HR HRR
 go_enter Try.func44,Try.ntmps44
 go_wp2_with (first | (go_at_call 50;refine (width_s _ _).mono ?_;rw [hd];rintro e w2 ⟨rfl,rfl⟩) | (go_at_call 60;refine (part_s _ _ (by omega) (by omega)).mono ?_;rintro e w2 ⟨rfl,rfl⟩))
 go_region_law (first | (have _g:=g1;refine step_call (by rfl) 61 #[.string (b.extract 3 7)] (by go_simp) (lread' (b.extract 3 7) M _ z2 HM.out) ?_;rintro e w7 ⟨rfl,rfl⟩;refine ⟨_,rfl,?_⟩) | (refine step_call (by rfl) 61 #[.string (b.extract 1 3)] (by go_simp) (lread' (b.extract 1 3) L _ z1 HL.out) ?_;rintro e w7 ⟨rfl,rfl⟩;refine ⟨_,rfl,?_⟩;have g1:=True.intro))
 all_goals
  by_cases hFs:F=s
  ·rw [if_pos hFs] at HRF
   have HFS:=hid0 hFs
   clear hFs
   have HFF:Hid (formOf (K:Int) L M P (n:Int)=s):=HF.out.symm.trans HFS.out
   rw [HFS.out] at HF
   go_wp2_with (go_at_call 62;refine (form_s_any (K:Int) L M P (n:Int) _ hPz).mono ?_;rw [<-HF.out];rintro e w5 ⟨rfl,hb5⟩;have hs5:=hb5.size;simp only [World.size_alloc,World.size_drew] at hs5;have c0:w5.cell? ⟨w.heap.size,0,none⟩=some (.int .i64 0):=(hb5.cell (p:=⟨w.heap.size,0,none⟩) (by simp<;>omega)).trans (by go_simp);have c1:w5.cell? ⟨w.heap.size,1,none⟩=some (.int .i64 0):=(hb5.cell (p:=⟨w.heap.size,1,none⟩) (by simp<;>omega)).trans (by go_simp);have c2:w5.cell? ⟨w.heap.size,2,none⟩=some (.int .i64 0):=(hb5.cell (p:=⟨w.heap.size,2,none⟩) (by simp<;>omega)).trans (by go_simp);have c3:w5.cell? ⟨w.heap.size,3,none⟩=some (.string ⟨#[]⟩):=(hb5.cell (p:=⟨w.heap.size,3,none⟩) (by simp<;>omega)).trans (by go_simp);have f0:w5.frozen? ⟨w.heap.size,0,none⟩=false:=(hb5.frozen (p:=⟨w.heap.size,0,none⟩) (by simp<;>omega)).trans (by go_simp);have f1:w5.frozen? ⟨w.heap.size,1,none⟩=false:=(hb5.frozen (p:=⟨w.heap.size,1,none⟩) (by simp<;>omega)).trans (by go_simp);have f2:w5.frozen? ⟨w.heap.size,2,none⟩=false:=(hb5.frozen (p:=⟨w.heap.size,2,none⟩) (by simp<;>omega)).trans (by go_simp);have f3:w5.frozen? ⟨w.heap.size,3,none⟩=false:=(hb5.frozen (p:=⟨w.heap.size,3,none⟩) (by simp<;>omega)).trans (by go_simp);have d0:w5.cell? ⟨w.heap.size+1,0,none⟩=some (.int .i64 K):=(hb5.cell (p:=⟨w.heap.size+1,0,none⟩) (by simp<;>omega)).trans (by go_simp);have d1:w5.cell? ⟨w.heap.size+1,1,none⟩=some (.int .i64 L):=(hb5.cell (p:=⟨w.heap.size+1,1,none⟩) (by simp<;>omega)).trans (by go_simp);have d2:w5.cell? ⟨w.heap.size+1,2,none⟩=some (.int .i64 M):=(hb5.cell (p:=⟨w.heap.size+1,2,none⟩) (by simp<;>omega)).trans (by go_simp);have d3:w5.cell? ⟨w.heap.size+1,3,none⟩=some (.string P):=(hb5.cell (p:=⟨w.heap.size+1,3,none⟩) (by simp<;>omega)).trans (by go_simp);have HB5:=hid0 ((hb0 _ _).drew.trans (hb5.mono (by simp<;>omega)));clear hb5)
   refine bodyPost_ret (v:=.tuple #[pageV K L M P,.bool true]) (by simp [results,Try.results44,go_sem,c0,c1,c2,c3]) rfl ⟨by rw [HRF.out];rfl,?_⟩
   exact (((HB5.out.setCell (Nat.le_refl _) _).setCell (Nat.le_refl _) _).setCell (Nat.le_refl _) _).setCell (Nat.le_refl _) _
  ·rw [if_neg hFs] at HRF
   have hG:(!F.toList == s.toList)=true:=by simp only [Bool.not_eq_true',beq_eq_false_iff_ne];intro hh;rw [ByteArray.toList_eq,ByteArray.toList_eq] at hh;exact hFs (ByteArray.ext (Array.ext' hh))
   clear hFs
   go_wp2_with (go_at_call 62;refine (form_s_any (K:Int) L M P (n:Int) _ hPz).mono ?_;rw [<-HF.out];rintro e w5 ⟨rfl,hb5⟩;have hs5:=hb5.size;simp only [World.size_alloc,World.size_drew] at hs5;have c0:w5.cell? ⟨w.heap.size,0,none⟩=some (.int .i64 0):=(hb5.cell (p:=⟨w.heap.size,0,none⟩) (by simp<;>omega)).trans (by go_simp);have c1:w5.cell? ⟨w.heap.size,1,none⟩=some (.int .i64 0):=(hb5.cell (p:=⟨w.heap.size,1,none⟩) (by simp<;>omega)).trans (by go_simp);have c2:w5.cell? ⟨w.heap.size,2,none⟩=some (.int .i64 0):=(hb5.cell (p:=⟨w.heap.size,2,none⟩) (by simp<;>omega)).trans (by go_simp);have c3:w5.cell? ⟨w.heap.size,3,none⟩=some (.string ⟨#[]⟩):=(hb5.cell (p:=⟨w.heap.size,3,none⟩) (by simp<;>omega)).trans (by go_simp);have f0:w5.frozen? ⟨w.heap.size,0,none⟩=false:=(hb5.frozen (p:=⟨w.heap.size,0,none⟩) (by simp<;>omega)).trans (by go_simp);have f1:w5.frozen? ⟨w.heap.size,1,none⟩=false:=(hb5.frozen (p:=⟨w.heap.size,1,none⟩) (by simp<;>omega)).trans (by go_simp);have f2:w5.frozen? ⟨w.heap.size,2,none⟩=false:=(hb5.frozen (p:=⟨w.heap.size,2,none⟩) (by simp<;>omega)).trans (by go_simp);have f3:w5.frozen? ⟨w.heap.size,3,none⟩=false:=(hb5.frozen (p:=⟨w.heap.size,3,none⟩) (by simp<;>omega)).trans (by go_simp);have d0:w5.cell? ⟨w.heap.size+1,0,none⟩=some (.int .i64 K):=(hb5.cell (p:=⟨w.heap.size+1,0,none⟩) (by simp<;>omega)).trans (by go_simp);have d1:w5.cell? ⟨w.heap.size+1,1,none⟩=some (.int .i64 L):=(hb5.cell (p:=⟨w.heap.size+1,1,none⟩) (by simp<;>omega)).trans (by go_simp);have d2:w5.cell? ⟨w.heap.size+1,2,none⟩=some (.int .i64 M):=(hb5.cell (p:=⟨w.heap.size+1,2,none⟩) (by simp<;>omega)).trans (by go_simp);have d3:w5.cell? ⟨w.heap.size+1,3,none⟩=some (.string P):=(hb5.cell (p:=⟨w.heap.size+1,3,none⟩) (by simp<;>omega)).trans (by go_simp);have HB5:=hid0 ((hb0 _ _).drew.trans (hb5.mono (by simp<;>omega)));clear hb5)
   refine bodyPost_ret (v:=.tuple #[pageV 0 0 0 ⟨#[]⟩,.bool false]) (by simp [results,Try.results44,go_sem,c0,c1,c2,c3]) rfl ⟨by rw [HRF.out];rfl,?_⟩
   exact (((HB5.out.setCell (Nat.le_refl _) _).setCell (Nat.le_refl _) _).setCell (Nat.le_refl _) _).setCell (Nat.le_refl _) _
end Go.Proofs.Ythdilmkbnpmdaaa
