import Derived.Test.YteflhojcomcfaaaGreatDoorPrG39
set_option maxHeartbeats 16000000
namespace Go.Proofs.YteflhojcomcfaaaGreatDoor
open Tryz
open Go.RowKit
set_option maxRecDepth 4000
set_option linter.all false
def NV(l:List Int):Int:=l.foldl (λn x=>n*256+x) 0
theorem yV{k:IntKind}{a b:Int}(h:a=b):Q2 (.int k a)=Q2 (.int k b):=by rw[h]
theorem vn(l:List Int)(x:Int):NV (l++[x])=NV l*256+x:=by simp[NV]
theorem yX(t:Q4)(k:Nat)(h:k<t.size):(LF t).take (k+1)=(LF t).take k++[(((t[k]'h).toNat:Nat):Int)]:=by
 unfold LF;rw[<-GT,<-GT,n6 t k h,DC];rfl
theorem vX:∀(k:Nat) (t:Q4),k<=t.size->k<=4->0<=NV ((LF t).take k)/\NV ((LF t).take k)<(256:Int) ^ k
 | 0,t,_,_=>by simp[NV]
 | k+1,t,h,h4=>by
  obtain⟨h1,h2⟩:=vX k t ω ω;rw[yX t k ω,vn,LC];have:=GU (t[k]' ω)
  constructor<;>omega
theorem Ig(t:Q4)(w:Q9)(hs:t.size<=4):Calls prog 169 #[Ow t] w λe w'=>e=Q2 (Z (NV (LF t)))/\w'=w:=by
 go_enter func169,ntmps169;go_wp2;go_loop [3,4] (λx i=>∃(k:Nat) (y:Int),k<=t.size/\i=Z (k:Int)/\x=Z y/\Hid (y=NV ((LF t).take k))/\0<=y/\y<=4294967296) (λ_ i=>t.size-(intOf i).toNat)
 case atStart=>exact⟨0,0,AL,rfl,rfl,by show _=_;simp[NV],ω,ω⟩
 case round =>
  obtain⟨k,y,hk,rfl,rfl,HY,aG,aH⟩:=hrel
  by_cases aE:k<t.size
  .obtain⟨b,hb⟩:=nMz ((t[k]'aE).toNat)
   have aF:b<=255:=by rw[hb];have:=GU (t[k]'aE);omega
   have hg:(t[k]'aE).toNat=b:=hb.symm;have HN:Hid (y*256+(b:Int)=NV ((LF t).take (k+1))):=by show _=_;rw[yX t k aE,vn,<-HY.j,hb]
   have aB:=vX (k+1) t ω ω;rw[<-HN.j]at aB
   have aA:(256:Int) ^ (k+1)<=4294967296:=by
    have:k+1=1\/k+1=2\/k+1=3\/k+1=4:=ω
    rcases this with h|h|h|h<;>rw[h]<;>decide
   have aC:0<=y*256+(b:Int):=aB.1;have aD:y*256+(b:Int)<=4294967296:=ω
   clear aB aA hb;go_wp2;go_round
   case rel=>exact⟨k+1,_,ω,ν,rfl,HN.j,aC,aD⟩
   case measure=>simp[intOf];omega
  go_wp2
  go_ret;refine⟨yV ?_,rfl⟩;rw[HY.j,AS (by rw[NK];omega)]
def XG(b:Q4):Int:=((b.data.toList.getD 0 0).toNat:Int)
def rpN(b:Q4):Nat:=(b.data.toList.getD 7 0).toNat
def XH(b:Q4):Int:=NV (LF (b.extract 1 3))
def XI(b:Q4):Int:=NV (LF (b.extract 3 7))
def WI(b:Q4):Q4:=b.extract 8 (8+rpN b)
def OA(s:Q4)(n:Int):Option (Int×Int×Int×Q4) :=if 1<=n/\n<=8/\s.size=64/\(rpN (s.extract n.toNat 64):Int)<=56-n/\NB (XG (s.extract n.toNat 64)) (XH (s.extract n.toNat 64)) (XI (s.extract n.toNat 64)) (WI (s.extract n.toNat 64)) n=s then
  some (XG (s.extract n.toNat 64),XH (s.extract n.toNat 64),XI (s.extract n.toNat 64),WI (s.extract n.toNat 64)) else none
theorem wu(b:Q4)(i:Nat)(h:i<b.size):(b[i]'h).toNat=(b.data.toList.getD i 0).toNat:=by
 have hl:i<b.data.toList.length:=h;rw[AY,AO hl];rfl
theorem LV{p:Prop}(h:p):Hid p:=h
theorem yk(t:Q4)(L:Int)(w:Q9)(hs:t.size<=4)(hL:L=NV (LF t)):Calls prog 169 #[Ow t] w λe w'=>e=Q2 (Z L)/\w'=w:=by rw[hL];exact Ig t w hs
def WJ(o:Option (Int×Int×Int×Q4)):Ra:=match o with
 | none=>.tuple #[OD 0 0 0 ⟨#[]⟩,.bool false]
 | some (k,l,m,p)=>.tuple #[OD k l m p,.bool true]
theorem kf{s:Q4}{n:Int}(h:¬(1<=n/\n<=8/\s.size=64/\(rpN (s.extract n.toNat 64):Int)<=56-n/\NB (XG (s.extract n.toNat 64)) (XH (s.extract n.toNat 64)) (XI (s.extract n.toNat 64)) (WI (s.extract n.toNat 64)) n=s)):OA s n=none:=by unfold OA;exact AF h
theorem Hq(s:Q4)(n:Nat)(w:Q9)(hs:s.size=64)(h1:1<=n)(h2:n<=8)(hN:rpN (s.extract n 64)<=56-n):Calls prog 110 #[Ow s,Z (n:Int)] w λe w'=>e=Q2 (WJ (OA s (n:Int)))/\Q3 w w':=by
 have aJ:∀o o',Q3 w ((w.alloc o).alloc o'):=λo o'=>(LH _ _).alloc σ _
 obtain⟨R,HR⟩:=nHz (OA s (n:Int));rw[<-HR.j]
 have aH:Hid (OA s (n:Int)=if NB (XG (s.extract n 64)) (XH (s.extract n 64)) (XI (s.extract n 64)) (WI (s.extract n 64)) (n:Int)=s then some (XG (s.extract n 64),XH (s.extract n 64),XI (s.extract n 64),WI (s.extract n 64)) else none):=by
  show _=_;unfold OA;rw[DO]
  by_cases hF:NB (XG (s.extract n 64)) (XH (s.extract n 64)) (XI (s.extract n 64)) (WI (s.extract n 64)) (n:Int)=s
  .rw[AI hF,AI ⟨ω,ω,hs,ω,hF⟩]
  rw[AF hF,AF (λhh=>hF hh.2.2.2.2)]
 have hd:decide (1<=(n:Int)/\(n:Int)<=8)=true:=τ
 have bE:(s.size:Int)=64:=ω
 obtain⟨b,hb⟩:∃b,s.extract n 64=b:=⟨_,rfl⟩;have aK:b.size=64-n:=by rw[<-hb];simp only[AQ];omega
 obtain⟨m,hm⟩:∃m:Nat,b.size=m:=⟨_,rfl⟩;have aX:n+m=64:=ω
 have l0:0<b.size:=ω
 have l7:7<b.size:=ω
 have g0:=wu b 0 l0;have g7:=wu b 7 l7;rw[hb]at hN;obtain⟨K,hK⟩:=nMz ((b.data.toList.getD 0 0).toNat);obtain⟨N,aD⟩:=nMz ((b.data.toList.getD 7 0).toNat);rw[<-hK]at g0;rw[<-aD]at g7;have aP:K<=255:=by rw[hK];have:=GU (b.data.toList.getD 0 0);omega
 have aR:N<=56-n:=by rw[aD];exact hN
 obtain⟨e,he⟩:=nMz (8+N:Nat);have aS:(8:Int)+(N:Int)=(e:Int):=ω
 have aT:(e:Int)<=(m:Int):=ω
 have aV:IntKind.i64.wrap (e:Int)=(e:Int):=by simp[IntKind.wrap,IntKind.bits,IntKind.signed];omega
 have bC:(N:Int)<=64-(n:Int)-8:=ω
 have z1:(b.extract 1 3).size<=4:=by simp only[AQ];omega
 have z2:(b.extract 3 7).size<=4:=by simp only[AQ];omega
 have aW:0<m:=ω
 have aL:(0:Int)<(m:Int):=ω
 have aM:(1:Int)<=(m:Int):=ω
 have aN:(7:Int)<=(m:Int):=ω
 have aQ:IntKind.i64.wrap (K:Int)=(K:Int):=by simp[IntKind.wrap,IntKind.bits,IntKind.signed];omega
 have bB:(8:Int)<=(m:Int):=ω
 have aZ:(7:Int)<(m:Int):=ω
 have aY:(3:Int)<=(m:Int):=ω
 have aU:(8:Int)<=(e:Int):=ω
 obtain⟨L,HL⟩:=nHz (NV (LF (b.extract 1 3)));obtain⟨M,HM⟩:=nHz (NV (LF (b.extract 3 7)));obtain⟨P,hP⟩:∃P,b.extract 8 e=P:=⟨_,rfl⟩;have aI:P.size<=1048576:=by rw[<-hP];simp only[AQ];omega
 obtain⟨F,HF⟩:=nHz (NB (K:Int) L M P (n:Int))
 have aC:Hid (R=if F=s then some ((K:Int),L,M,P) else none):=by
  show _=_;rw[HR.j,aH.j,hb,HF.j];have e1:XG b=(K:Int):=by unfold XG;rw[hK]
  have e2:WI b=P:=by unfold WI rpN;rw[<-aD,<-he];exact hP
  have e3:XH b=L:=HL.j.symm;have e4:XI b=M:=HM.j.symm;rw[e1,e2,e3,e4]
 clear aK hK aD hN he HR aH;go_enter func110,ntmps110
 go_wp2_with (first|(go_at_call 43;refine(RZ _ _).J ?_;rw[hd];rintro e w2 ⟨rfl,rfl⟩)|(go_at_call 168;refine(ms _ _ ω ω).J ?_;rintro e w2 ⟨rfl,rfl⟩))
 go_region_law (first|(have _g:=g1;refine LM ρ 169 #[Ow (b.extract 3 7)] γ (yk (b.extract 3 7) M _ z2 HM.j) ?_;rintro e w7 ⟨rfl,rfl⟩;refine⟨_,rfl,?_⟩)|(refine LM ρ 169 #[Ow (b.extract 1 3)] γ (yk (b.extract 1 3) L _ z1 HL.j) ?_;rintro e w7 ⟨rfl,rfl⟩;refine⟨_,rfl,?_⟩;have g1:=True.intro))
 all_goals
  by_cases aB:F=s
  .rw[AI aB]at aC
   have aG:=LV aB;clear aB;have aO:Hid (NB (K:Int) L M P (n:Int)=s):=HF.j.symm.E aG.j;rw[aG.j]at HF;go_wp2_with (go_at_call 166;refine(jh (K:Int) L M P (n:Int) _ aI).J ?_;rw[<-HF.j];rintro e w5 ⟨rfl,aA⟩;have aF:=aA.size;simp only[BG,JD]at aF;have c0:w5.cell? (Ki w.heap.size 0)=some (Z 0):=OG aA γ;have c1:w5.cell? (Ki w.heap.size 1)=some (Z 0):=OG aA γ;have c2:w5.cell? (Ki w.heap.size 2)=some (Z 0):=OG aA γ;have c3:w5.cell? (Ki w.heap.size 3)=some (Ow ⟨#[]⟩):=OG aA γ;have f0:w5.frozen? (Ki w.heap.size 0)=false:=UL aA γ;have f1:w5.frozen? (Ki w.heap.size 1)=false:=UL aA γ;have f2:w5.frozen? (Ki w.heap.size 2)=false:=UL aA γ;have f3:w5.frozen? (Ki w.heap.size 3)=false:=UL aA γ;have d0:w5.cell? (Ki (w.heap.size+1) 0)=some (Z K):=OG aA γ;have d1:w5.cell? (Ki (w.heap.size+1) 1)=some (Z L):=OG aA γ;have d2:w5.cell? (Ki (w.heap.size+1) 2)=some (Z M):=OG aA γ;have d3:w5.cell? (Ki (w.heap.size+1) 3)=some (Ow P):=OG aA γ;have aE:=LV ((aJ _ _).drew.E (aA.J ξ));clear aA)
   refine AE (v:=.tuple #[OD K L M P,Q1 true]) (by simp[results,results110,go_sem,c0,c1,c2,c3]) rfl ⟨by rw[aC.j];rfl,?_⟩;exact(((aE.j.setCell AA _).setCell AA _).setCell AA _).setCell AA _
  .rw[AF aB]at aC
   have hG:(!F.toList == s.toList)=true:=by simp only[KM,BL];intro hh;rw[CZ,CZ]at hh;exact aB (EV (IH hh))
   clear aB;go_wp2_with (go_at_call 166;refine(jh (K:Int) L M P (n:Int) _ aI).J ?_;rw[<-HF.j];rintro e w5 ⟨rfl,aA⟩;have aF:=aA.size;simp only[BG,JD]at aF;have c0:w5.cell? (Ki w.heap.size 0)=some (Z 0):=OG aA γ;have c1:w5.cell? (Ki w.heap.size 1)=some (Z 0):=OG aA γ;have c2:w5.cell? (Ki w.heap.size 2)=some (Z 0):=OG aA γ;have c3:w5.cell? (Ki w.heap.size 3)=some (Ow ⟨#[]⟩):=OG aA γ;have f0:w5.frozen? (Ki w.heap.size 0)=false:=UL aA γ;have f1:w5.frozen? (Ki w.heap.size 1)=false:=UL aA γ;have f2:w5.frozen? (Ki w.heap.size 2)=false:=UL aA γ;have f3:w5.frozen? (Ki w.heap.size 3)=false:=UL aA γ;have d0:w5.cell? (Ki (w.heap.size+1) 0)=some (Z K):=OG aA γ;have d1:w5.cell? (Ki (w.heap.size+1) 1)=some (Z L):=OG aA γ;have d2:w5.cell? (Ki (w.heap.size+1) 2)=some (Z M):=OG aA γ;have d3:w5.cell? (Ki (w.heap.size+1) 3)=some (Ow P):=OG aA γ;have aE:=LV ((aJ _ _).drew.E (aA.J ξ));clear aA)
   refine AE (v:=.tuple #[OD 0 0 0 ⟨#[]⟩,Q1 false]) (by simp[results,results110,go_sem,c0,c1,c2,c3]) rfl ⟨by rw[aC.j];rfl,?_⟩;exact(((aE.j.setCell AA _).setCell AA _).setCell AA _).setCell AA _
