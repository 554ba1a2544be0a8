import Derived.Test.YtmlejnbjclkdjaaGreatDoorPrG44
set_option maxHeartbeats 16000000
namespace Go.Proofs.YtmlejnbjclkdjaaGreatDoor
open Tryz
open Go.RowKit
set_option maxRecDepth 4000
set_option linter.all false
def NY(l:List Int):Int:=l.foldl (λn x=>n*256+x) 0
theorem tU{k:IntKind}{a b:Int}(h:a=b):M3 (.int k a)=M3 (.int k b):=by rw[h]
theorem nn(l:List Int)(x:Int):NY (l++[x])=NY l*256+x:=by simp[NY]
theorem tW(t:Y)(k:Nat)(h:k<t.size):(LI t).take (k+1)=(LI t).take k++[(((t[k]'h).toNat:Nat):Int)]:=by
 unfold LI;rw[<-IL,<-IL,vn t k h,DK];rfl
theorem pW:∀(k:Nat) (t:Y),k<=t.size->k<=4->0<=NY ((LI t).take k)/\NY ((LI t).take k)<(256:Int) ^ k
 | 0,t,_,_=>by simp[NY]
 | k+1,t,h,h4=>by
  obtain⟨h1,h2⟩:=pW k t ω ω;rw[tW t k ω,nn,KZ];have:=IA (t[k]' ω)
  constructor<;>omega
theorem Cw(t:Y)(w:Nb)(hs:t.size<=4):Calls prog 83 #[Mz t] w λe w'=>e=M3 (.int .i64 (NY (LI t)))/\w'=w:=by
 go_enter func83,ntmps83;go_wp2;go_loop [3,4] (λx i=>∃(k:Nat) (y:Int),k<=t.size/\i=.int .i64 (k:Int)/\x=.int .i64 y/\Hid (y=NY ((LI t).take k))/\0<=y/\y<=4294967296) (λ_ i=>t.size-(intOf i).toNat)
 case atStart=>exact⟨0,0,AM _,rfl,rfl,by show _=_;simp[NY],ω,ω⟩
 case round =>
  obtain⟨k,y,hk,rfl,rfl,HY,aG,aH⟩:=hrel
  by_cases aE:k<t.size
  ·obtain⟨b,hb⟩:∃b,b=(t[k]'aE).toNat:=⟨_,rfl⟩
   have aF:b<=255:=by rw[hb];have:=IA (t[k]'aE);omega
   have hg:(t[k]'aE).toNat=b:=hb.symm;have HN:Hid (y*256+(b:Int)=NY ((LI t).take (k+1))):=by show _=_;rw[tW t k aE,nn,<-HY.l,hb]
   have aB:=pW (k+1) t ω ω;rw[<-HN.l]at aB
   have aA:(256:Int) ^ (k+1)<=4294967296:=by
    have:k+1=1\/k+1=2\/k+1=3\/k+1=4:=ω
    rcases this with h|h|h|h<;>rw[h]<;>decide
   have aC:0<=y*256+(b:Int):=aB.1;have aD:y*256+(b:Int)<=4294967296:=ω
   clear aB aA hb;go_wp2;go_round
   case rel=>exact⟨k+1,_,ω,ν,rfl,HN.l,aC,aD⟩
   case measure=>simp[intOf];omega
  go_wp2
  go_ret;refine⟨tU ?_,rfl⟩;rw[HY.l,AQ (by rw[NH];omega)]
def TO(b:Y):Int:=((b.data.toList.getD 0 0).toNat:Int)
def rpN(b:Y):Nat:=(b.data.toList.getD 7 0).toNat
def UN(b:Y):Int:=NY (LI (b.extract 1 3))
def UO(b:Y):Int:=NY (LI (b.extract 3 7))
def UE(b:Y):Y:=b.extract 8 (8+rpN b)
def MA(s:Y)(n:Int):Option (Int×Int×Int×Y) :=if 1<=n/\n<=8/\s.size=64/\(rpN (s.extract n.toNat 64):Int)<=56-n/\MM (TO (s.extract n.toNat 64)) (UN (s.extract n.toNat 64)) (UO (s.extract n.toNat 64)) (UE (s.extract n.toNat 64)) n=s then
  some (TO (s.extract n.toNat 64),UN (s.extract n.toNat 64),UO (s.extract n.toNat 64),UE (s.extract n.toNat 64)) else none
theorem ou(b:Y)(i:Nat)(h:i<b.size):(b[i]'h).toNat=(b.data.toList.getD i 0).toNat:=by
 have hl:i<b.data.toList.length:=h;rw[AZ,BQ hl];rfl
theorem MF{p:Prop}(h:p):Hid p:=h
theorem rm(t:Y)(L:Int)(w:Nb)(hs:t.size<=4)(hL:L=NY (LI t)):Calls prog 83 #[Mz t] w λe w'=>e=M3 (.int .i64 L)/\w'=w:=by rw[hL];exact Cw t w hs
def TP(o:Option (Int×Int×Int×Y)):Nc:=match o with
 | none=>.tuple #[OE 0 0 0 ⟨#[]⟩,.bool false]
 | some (k,l,m,p)=>.tuple #[OE k l m p,.bool true]
theorem YM{s:Y}{n:Int}(h:¬(1<=n/\n<=8/\s.size=64/\(rpN (s.extract n.toNat 64):Int)<=56-n/\MM (TO (s.extract n.toNat 64)) (UN (s.extract n.toNat 64)) (UO (s.extract n.toNat 64)) (UE (s.extract n.toNat 64)) n=s)):MA s n=none:=by unfold MA;exact AG h
theorem Cb(s:Y)(n:Nat)(w:Nb)(hs:s.size=64)(h1:1<=n)(h2:n<=8)(hN:rpN (s.extract n 64)<=56-n):Calls prog 45 #[Mz s,.int .i64 (n:Int)] w λe w'=>e=M3 (TP (MA s (n:Int)))/\Below w.heap.size w w':=by
 have aJ:∀o o',Below w.heap.size w ((w.alloc o).alloc o'):=λo o'=>(LO _ _).alloc σ _
 obtain⟨R,HR⟩:∃R,Hid (R=MA s (n:Int)):=⟨_,MF rfl⟩;rw[<-HR.l]
 have aH:Hid (MA s (n:Int)=if MM (TO (s.extract n 64)) (UN (s.extract n 64)) (UO (s.extract n 64)) (UE (s.extract n 64)) (n:Int)=s then some (TO (s.extract n 64),UN (s.extract n 64),UO (s.extract n 64),UE (s.extract n 64)) else none):=by
  show _=_;unfold MA;rw[BM]
  by_cases hF:MM (TO (s.extract n 64)) (UN (s.extract n 64)) (UO (s.extract n 64)) (UE (s.extract n 64)) (n:Int)=s
  ·rw[AE hF,AE ⟨ω,ω,hs,ω,hF⟩]
  rw[AG hF,AG (λhh=>hF hh.2.2.2.2)]
 have hd:decide (1<=(n:Int)/\(n:Int)<=8)=true:=τ
 have bG:(s.size:Int)=64:=ω
 obtain⟨b,hb⟩:∃b,s.extract n 64=b:=⟨_,rfl⟩;have aK:b.size=64-n:=by rw[<-hb];simp only[AO];omega
 obtain⟨m,hm⟩:∃m:Nat,b.size=m:=⟨_,rfl⟩;have aX:n+m=64:=ω
 have l0:0<b.size:=ω
 have l7:7<b.size:=ω
 have g0:=ou b 0 l0;have g7:=ou b 7 l7;rw[hb]at hN;obtain⟨K,hK⟩:∃K,K=(b.data.toList.getD 0 0).toNat:=⟨_,rfl⟩;obtain⟨N,aD⟩:∃N,N=(b.data.toList.getD 7 0).toNat:=⟨_,rfl⟩;rw[<-hK]at g0;rw[<-aD]at g7;have aP:K<=255:=by rw[hK];have:=IA (b.data.toList.getD 0 0);omega
 have aR:N<=56-n:=by rw[aD];exact hN
 obtain⟨e,he⟩:∃e:Nat,e=8+N:=⟨_,rfl⟩;have aS:(8:Int)+(N:Int)=(e:Int):=ω
 have aT:(e:Int)<=(m:Int):=ω
 have aV:IntKind.i64.wrap (e:Int)=(e:Int):=by simp[IntKind.wrap,IntKind.bits,IntKind.signed];omega
 have bE:(N:Int)<=64-(n:Int)-8:=ω
 have z1:(b.extract 1 3).size<=4:=by simp only[AO];omega
 have z2:(b.extract 3 7).size<=4:=by simp only[AO];omega
 have aW:0<m:=ω
 have aL:(0:Int)<(m:Int):=ω
 have aM:(1:Int)<=(m:Int):=ω
 have aN:(7:Int)<=(m:Int):=ω
 have aQ:IntKind.i64.wrap (K:Int)=(K:Int):=by simp[IntKind.wrap,IntKind.bits,IntKind.signed];omega
 have bC:(8:Int)<=(m:Int):=ω
 have aZ:(7:Int)<(m:Int):=ω
 have aY:(3:Int)<=(m:Int):=ω
 have aU:(8:Int)<=(e:Int):=ω
 obtain⟨L,HL⟩:∃L,Hid (L=NY (LI (b.extract 1 3))):=⟨_,MF rfl⟩;obtain⟨M,HM⟩:∃M,Hid (M=NY (LI (b.extract 3 7))):=⟨_,MF rfl⟩;obtain⟨P,hP⟩:∃P,b.extract 8 e=P:=⟨_,rfl⟩;have aI:P.size<=1048576:=by rw[<-hP];simp only[AO];omega
 obtain⟨F,HF⟩:∃F,Hid (F=MM (K:Int) L M P (n:Int)):=⟨_,MF rfl⟩
 have aC:Hid (R=if F=s then some ((K:Int),L,M,P) else none):=by
  show _=_;rw[HR.l,aH.l,hb,HF.l];have e1:TO b=(K:Int):=by unfold TO;rw[hK]
  have e2:UE b=P:=by unfold UE rpN;rw[<-aD,<-he];exact hP
  have e3:UN b=L:=HL.l.symm;have e4:UO b=M:=HM.l.symm;rw[e1,e2,e3,e4]
 clear aK hK aD hN he HR aH;go_enter func45,ntmps45
 go_wp2_with (first|(go_at_call 21;refine(RO _ _).z ?_;rw[hd];rintro e w2 ⟨rfl,rfl⟩)|(go_at_call 82;refine(fw _ _ ω ω).z ?_;rintro e w2 ⟨rfl,rfl⟩))
 go_region_law (first|(have _g:=g1;refine LW ρ 83 #[Mz (b.extract 3 7)] γ (rm (b.extract 3 7) M _ z2 HM.l) ?_;rintro e w7 ⟨rfl,rfl⟩;refine⟨_,rfl,?_⟩)|(refine LW ρ 83 #[Mz (b.extract 1 3)] γ (rm (b.extract 1 3) L _ z1 HL.l) ?_;rintro e w7 ⟨rfl,rfl⟩;refine⟨_,rfl,?_⟩;have g1:=True.intro))
 all_goals
  by_cases aB:F=s
  ·rw[AE aB]at aC
   have aG:=MF aB;clear aB;have aO:Hid (MM (K:Int) L M P (n:Int)=s):=HF.l.symm.j aG.l;rw[aG.l]at HF;go_wp2_with (go_at_call 84;refine(aq (K:Int) L M P (n:Int) _ aI).z ?_;rw[<-HF.l];rintro e w5 ⟨rfl,aA⟩;have aF:=aA.size;simp only[BD,IZ]at aF;have c0:w5.cell? ⟨w.heap.size,0,none⟩=some (.int .i64 0):=OK aA γ;have c1:w5.cell? ⟨w.heap.size,1,none⟩=some (.int .i64 0):=OK aA γ;have c2:w5.cell? ⟨w.heap.size,2,none⟩=some (.int .i64 0):=OK aA γ;have c3:w5.cell? ⟨w.heap.size,3,none⟩=some (Mz ⟨#[]⟩):=OK aA γ;have f0:w5.frozen? ⟨w.heap.size,0,none⟩=false:=TF aA γ;have f1:w5.frozen? ⟨w.heap.size,1,none⟩=false:=TF aA γ;have f2:w5.frozen? ⟨w.heap.size,2,none⟩=false:=TF aA γ;have f3:w5.frozen? ⟨w.heap.size,3,none⟩=false:=TF aA γ;have d0:w5.cell? ⟨w.heap.size+1,0,none⟩=some (.int .i64 K):=OK aA γ;have d1:w5.cell? ⟨w.heap.size+1,1,none⟩=some (.int .i64 L):=OK aA γ;have d2:w5.cell? ⟨w.heap.size+1,2,none⟩=some (.int .i64 M):=OK aA γ;have d3:w5.cell? ⟨w.heap.size+1,3,none⟩=some (Mz P):=OK aA γ;have aE:=MF ((aJ _ _).drew.j (aA.z ξ));clear aA)
   refine AJ (v:=.tuple #[OE K L M P,M0 true]) (by simp[results,results45,go_sem,c0,c1,c2,c3]) rfl ⟨by rw[aC.l];rfl,?_⟩;exact(((aE.l.setCell (AA _) _).setCell (AA _) _).setCell (AA _) _).setCell (AA _) _
  ·rw[AG aB]at aC
   have hG:(!F.toList == s.toList)=true:=by simp only[JH,EO];intro hh;rw[DF,DF]at hh;exact aB (EP (JB hh))
   clear aB;go_wp2_with (go_at_call 84;refine(aq (K:Int) L M P (n:Int) _ aI).z ?_;rw[<-HF.l];rintro e w5 ⟨rfl,aA⟩;have aF:=aA.size;simp only[BD,IZ]at aF;have c0:w5.cell? ⟨w.heap.size,0,none⟩=some (.int .i64 0):=OK aA γ;have c1:w5.cell? ⟨w.heap.size,1,none⟩=some (.int .i64 0):=OK aA γ;have c2:w5.cell? ⟨w.heap.size,2,none⟩=some (.int .i64 0):=OK aA γ;have c3:w5.cell? ⟨w.heap.size,3,none⟩=some (Mz ⟨#[]⟩):=OK aA γ;have f0:w5.frozen? ⟨w.heap.size,0,none⟩=false:=TF aA γ;have f1:w5.frozen? ⟨w.heap.size,1,none⟩=false:=TF aA γ;have f2:w5.frozen? ⟨w.heap.size,2,none⟩=false:=TF aA γ;have f3:w5.frozen? ⟨w.heap.size,3,none⟩=false:=TF aA γ;have d0:w5.cell? ⟨w.heap.size+1,0,none⟩=some (.int .i64 K):=OK aA γ;have d1:w5.cell? ⟨w.heap.size+1,1,none⟩=some (.int .i64 L):=OK aA γ;have d2:w5.cell? ⟨w.heap.size+1,2,none⟩=some (.int .i64 M):=OK aA γ;have d3:w5.cell? ⟨w.heap.size+1,3,none⟩=some (Mz P):=OK aA γ;have aE:=MF ((aJ _ _).drew.j (aA.z ξ));clear aA)
   refine AJ (v:=.tuple #[OE 0 0 0 ⟨#[]⟩,M0 false]) (by simp[results,results45,go_sem,c0,c1,c2,c3]) rfl ⟨by rw[aC.l];rfl,?_⟩;exact(((aE.l.setCell (AA _) _).setCell (AA _) _).setCell (AA _) _).setCell (AA _) _
