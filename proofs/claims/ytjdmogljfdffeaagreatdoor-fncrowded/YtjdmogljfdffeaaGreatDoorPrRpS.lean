import Derived.Test.YtjdmogljfdffeaaGreatDoorPrG37
set_option maxHeartbeats 16000000
namespace Go.Proofs.YtjdmogljfdffeaaGreatDoor
open Tryz
open Go.RowKit
set_option maxRecDepth 4000
set_option linter.all false
def MT(l:List Int):Int:=l.foldl (λn x=>n*256+x) 0
theorem tH{k:IntKind}{a b:Int}(h:a=b):Ending.returned (.int k a)=.returned (.int k b):=by rw[h]
theorem pn(l:List Int)(x:Int):MT (l++[x])=MT l*256+x:=by simp[MT]
theorem tJ(t:ByteArray)(k:Nat)(h:k<t.size):(KU t).take (k+1)=(KU t).take k++[(((t[k]'h).toNat:Nat):Int)]:=by
 unfold KU;rw[<-ID,<-ID,wi t k h,CY];rfl
theorem pZ:∀(k:Nat) (t:ByteArray),k<=t.size->k<=4->0<=MT ((KU t).take k)/\MT ((KU t).take k)<(256:Int) ^ k
 | 0,t,_,_=>by simp[MT]
 | k+1,t,h,h4=>by
  obtain⟨h1,h2⟩:=pZ k t ω ω;rw[tJ t k ω,pn,KP];have:=GT (t[k]' ω)
  constructor<;>omega
theorem Bq(t:ByteArray)(w:World)(hs:t.size<=4):Calls prog 155 #[.string t] w λe w'=>e=.returned (.int .i64 (MT (KU t)))/\w'=w:=by
 go_enter func155,ntmps155;go_wp2;go_loop [3,4] (λx i=>∃(k:Nat) (y:Int),k<=t.size/\i=.int .i64 (k:Int)/\x=.int .i64 y/\Hid (y=MT ((KU t).take k))/\0<=y/\y<=4294967296) (λ_ i=>t.size-(intOf i).toNat)
 case atStart=>exact⟨0,0,AO _,rfl,rfl,by show _=_;simp[MT],ω,ω⟩
 case round =>
  obtain⟨k,y,hk,rfl,rfl,HY,aG,aH⟩:=hrel
  by_cases aE:k<t.size
  ·obtain⟨b,hb⟩:∃b,b=(t[k]'aE).toNat:=⟨_,rfl⟩
   have aF:b<=255:=by rw[hb];have:=GT (t[k]'aE);omega
   have hg:(t[k]'aE).toNat=b:=hb.symm;have HN:Hid (y*256+(b:Int)=MT ((KU t).take (k+1))):=by show _=_;rw[tJ t k aE,pn,<-HY.l,hb]
   have aB:=pZ (k+1) t ω ω;rw[<-HN.l]at aB
   have aA:(256:Int) ^ (k+1)<=4294967296:=by
    have:k+1=1\/k+1=2\/k+1=3\/k+1=4:=ω
    rcases this with h|h|h|h<;>rw[h]<;>decide
   have aC:0<=y*256+(b:Int):=aB.1;have aD:y*256+(b:Int)<=4294967296:=ω
   clear aB aA hb;go_wp2;go_round
   case rel=>exact⟨k+1,_,ω,ν,rfl,HN.l,aC,aD⟩
   case measure=>simp[intOf];omega
  go_wp2
  go_ret;refine⟨tH ?_,rfl⟩;rw[HY.l,AV (by rw[ME];omega)]
def SW(b:ByteArray):Int:=((b.data.toList.getD 0 0).toNat:Int)
def rpN(b:ByteArray):Nat:=(b.data.toList.getD 7 0).toNat
def UF(b:ByteArray):Int:=MT (KU (b.extract 1 3))
def UG(b:ByteArray):Int:=MT (KU (b.extract 3 7))
def TO(b:ByteArray):ByteArray:=b.extract 8 (8+rpN b)
def MI(s:ByteArray)(n:Int):Option (Int×Int×Int×ByteArray) :=if 1<=n/\n<=8/\s.size=64/\(rpN (s.extract n.toNat 64):Int)<=56-n/\LS (SW (s.extract n.toNat 64)) (UF (s.extract n.toNat 64)) (UG (s.extract n.toNat 64)) (TO (s.extract n.toNat 64)) n=s then
  some (SW (s.extract n.toNat 64),UF (s.extract n.toNat 64),UG (s.extract n.toNat 64),TO (s.extract n.toNat 64)) else none
theorem qg(b:ByteArray)(i:Nat)(h:i<b.size):(b[i]'h).toNat=(b.data.toList.getD i 0).toNat:=by
 have hl:i<b.data.toList.length:=h;rw[AZ,BQ hl];rfl
theorem LN{p:Prop}(h:p):Hid p:=h
theorem rz(t:ByteArray)(L:Int)(w:World)(hs:t.size<=4)(hL:L=MT (KU t)):Calls prog 155 #[.string t] w λe w'=>e=.returned (.int .i64 L)/\w'=w:=by rw[hL];exact Bq t w hs
def VC(o:Option (Int×Int×Int×ByteArray)):Value:=match o with
 | none=>.tuple #[NK 0 0 0 ⟨#[]⟩,.bool false]
 | some (k,l,m,p)=>.tuple #[NK k l m p,.bool true]
theorem YV{s:ByteArray}{n:Int}(h:¬(1<=n/\n<=8/\s.size=64/\(rpN (s.extract n.toNat 64):Int)<=56-n/\LS (SW (s.extract n.toNat 64)) (UF (s.extract n.toNat 64)) (UG (s.extract n.toNat 64)) (TO (s.extract n.toNat 64)) n=s)):MI s n=none:=by unfold MI;exact AG h
theorem Av(s:ByteArray)(n:Nat)(w:World)(hs:s.size=64)(h1:1<=n)(h2:n<=8)(hN:rpN (s.extract n 64)<=56-n):Calls prog 121 #[.string s,.int .i64 (n:Int)] w λe w'=>e=.returned (VC (MI s (n:Int)))/\Below w.heap.size w w':=by
 have aJ:∀o o',Below w.heap.size w ((w.alloc o).alloc o'):=λo o'=>(KW _ _).alloc σ _
 obtain⟨R,HR⟩:∃R,Hid (R=MI s (n:Int)):=⟨_,LN rfl⟩;rw[<-HR.l]
 have aH:Hid (MI s (n:Int)=if LS (SW (s.extract n 64)) (UF (s.extract n 64)) (UG (s.extract n 64)) (TO (s.extract n 64)) (n:Int)=s then some (SW (s.extract n 64),UF (s.extract n 64),UG (s.extract n 64),TO (s.extract n 64)) else none):=by
  show _=_;unfold MI;rw[BM]
  by_cases hF:LS (SW (s.extract n 64)) (UF (s.extract n 64)) (UG (s.extract n 64)) (TO (s.extract n 64)) (n:Int)=s
  ·rw[AF hF,AF ⟨ω,ω,hs,ω,hF⟩]
  rw[AG hF,AG (λhh=>hF hh.2.2.2.2)]
 have hd:decide (1<=(n:Int)/\(n:Int)<=8)=true:=τ
 have bH:(s.size:Int)=64:=ω
 obtain⟨b,hb⟩:∃b,s.extract n 64=b:=⟨_,rfl⟩;have aK:b.size=64-n:=by rw[<-hb];simp only[AK];omega
 obtain⟨m,hm⟩:∃m:Nat,b.size=m:=⟨_,rfl⟩;have aX:n+m=64:=ω
 have l0:0<b.size:=ω
 have l7:7<b.size:=ω
 have g0:=qg b 0 l0;have g7:=qg b 7 l7;rw[hb]at hN;obtain⟨K,hK⟩:∃K,K=(b.data.toList.getD 0 0).toNat:=⟨_,rfl⟩;obtain⟨N,aD⟩:∃N,N=(b.data.toList.getD 7 0).toNat:=⟨_,rfl⟩;rw[<-hK]at g0;rw[<-aD]at g7;have aP:K<=255:=by rw[hK];have:=GT (b.data.toList.getD 0 0);omega
 have aR:N<=56-n:=by rw[aD];exact hN
 obtain⟨e,he⟩:∃e:Nat,e=8+N:=⟨_,rfl⟩;have aS:(8:Int)+(N:Int)=(e:Int):=ω
 have aT:(e:Int)<=(m:Int):=ω
 have aV:IntKind.i64.wrap (e:Int)=(e:Int):=by simp[IntKind.wrap,IntKind.bits,IntKind.signed];omega
 have bG:(N:Int)<=64-(n:Int)-8:=ω
 have z1:(b.extract 1 3).size<=4:=by simp only[AK];omega
 have z2:(b.extract 3 7).size<=4:=by simp only[AK];omega
 have aW:0<m:=ω
 have aL:(0:Int)<(m:Int):=ω
 have aM:(1:Int)<=(m:Int):=ω
 have aN:(7:Int)<=(m:Int):=ω
 have aQ:IntKind.i64.wrap (K:Int)=(K:Int):=by simp[IntKind.wrap,IntKind.bits,IntKind.signed];omega
 have bE:(8:Int)<=(m:Int):=ω
 have aZ:(7:Int)<(m:Int):=ω
 have aY:(3:Int)<=(m:Int):=ω
 have aU:(8:Int)<=(e:Int):=ω
 obtain⟨L,HL⟩:∃L,Hid (L=MT (KU (b.extract 1 3))):=⟨_,LN rfl⟩;obtain⟨M,HM⟩:∃M,Hid (M=MT (KU (b.extract 3 7))):=⟨_,LN rfl⟩;obtain⟨P,hP⟩:∃P,b.extract 8 e=P:=⟨_,rfl⟩;have aI:P.size<=1048576:=by rw[<-hP];simp only[AK];omega
 obtain⟨F,HF⟩:∃F,Hid (F=LS (K:Int) L M P (n:Int)):=⟨_,LN rfl⟩
 have aC:Hid (R=if F=s then some ((K:Int),L,M,P) else none):=by
  show _=_;rw[HR.l,aH.l,hb,HF.l];have e1:SW b=(K:Int):=by unfold SW;rw[hK]
  have e2:TO b=P:=by unfold TO rpN;rw[<-aD,<-he];exact hP
  have e3:UF b=L:=HL.l.symm;have e4:UG b=M:=HM.l.symm;rw[e1,e2,e3,e4]
 clear aK hK aD hN he HR aH;go_enter func121,ntmps121
 go_wp2_with (first|(go_at_call 37;refine(QO _ _).A ?_;rw[hd];rintro e w2 ⟨rfl,rfl⟩)|(go_at_call 106;refine(gm _ _ ω ω).A ?_;rintro e w2 ⟨rfl,rfl⟩))
 go_region_law (first|(have _g:=g1;refine LC ρ 155 #[.string (b.extract 3 7)] γ (rz (b.extract 3 7) M _ z2 HM.l) ?_;rintro e w7 ⟨rfl,rfl⟩;refine⟨_,rfl,?_⟩)|(refine LC ρ 155 #[.string (b.extract 1 3)] γ (rz (b.extract 1 3) L _ z1 HL.l) ?_;rintro e w7 ⟨rfl,rfl⟩;refine⟨_,rfl,?_⟩;have g1:=True.intro))
 all_goals
  by_cases aB:F=s
  ·rw[AF aB]at aC
   have aG:=LN aB;clear aB;have aO:Hid (LS (K:Int) L M P (n:Int)=s):=HF.l.symm.j aG.l;rw[aG.l]at HF;go_wp2_with (go_at_call 68;refine(bw (K:Int) L M P (n:Int) _ aI).A ?_;rw[<-HF.l];rintro e w5 ⟨rfl,aA⟩;have aF:=aA.size;simp only[BB,IS]at aF;have c0:w5.cell? ⟨w.heap.size,0,none⟩=some (.int .i64 0):=NX aA γ;have c1:w5.cell? ⟨w.heap.size,1,none⟩=some (.int .i64 0):=NX aA γ;have c2:w5.cell? ⟨w.heap.size,2,none⟩=some (.int .i64 0):=NX aA γ;have c3:w5.cell? ⟨w.heap.size,3,none⟩=some (.string ⟨#[]⟩):=NX aA γ;have f0:w5.frozen? ⟨w.heap.size,0,none⟩=false:=SC aA γ;have f1:w5.frozen? ⟨w.heap.size,1,none⟩=false:=SC aA γ;have f2:w5.frozen? ⟨w.heap.size,2,none⟩=false:=SC aA γ;have f3:w5.frozen? ⟨w.heap.size,3,none⟩=false:=SC aA γ;have d0:w5.cell? ⟨w.heap.size+1,0,none⟩=some (.int .i64 K):=NX aA γ;have d1:w5.cell? ⟨w.heap.size+1,1,none⟩=some (.int .i64 L):=NX aA γ;have d2:w5.cell? ⟨w.heap.size+1,2,none⟩=some (.int .i64 M):=NX aA γ;have d3:w5.cell? ⟨w.heap.size+1,3,none⟩=some (.string P):=NX aA γ;have aE:=LN ((aJ _ _).drew.j (aA.A ξ));clear aA)
   refine AI (v:=.tuple #[NK K L M P,.bool true]) (by simp[results,results121,go_sem,c0,c1,c2,c3]) rfl ⟨by rw[aC.l];rfl,?_⟩;exact(((aE.l.setCell (Y _) _).setCell (Y _) _).setCell (Y _) _).setCell (Y _) _
  ·rw[AG aB]at aC
   have hG:(!F.toList == s.toList)=true:=by simp only[JB,ET];intro hh;rw[DF,DF]at hh;exact aB (EP (IU hh))
   clear aB;go_wp2_with (go_at_call 68;refine(bw (K:Int) L M P (n:Int) _ aI).A ?_;rw[<-HF.l];rintro e w5 ⟨rfl,aA⟩;have aF:=aA.size;simp only[BB,IS]at aF;have c0:w5.cell? ⟨w.heap.size,0,none⟩=some (.int .i64 0):=NX aA γ;have c1:w5.cell? ⟨w.heap.size,1,none⟩=some (.int .i64 0):=NX aA γ;have c2:w5.cell? ⟨w.heap.size,2,none⟩=some (.int .i64 0):=NX aA γ;have c3:w5.cell? ⟨w.heap.size,3,none⟩=some (.string ⟨#[]⟩):=NX aA γ;have f0:w5.frozen? ⟨w.heap.size,0,none⟩=false:=SC aA γ;have f1:w5.frozen? ⟨w.heap.size,1,none⟩=false:=SC aA γ;have f2:w5.frozen? ⟨w.heap.size,2,none⟩=false:=SC aA γ;have f3:w5.frozen? ⟨w.heap.size,3,none⟩=false:=SC aA γ;have d0:w5.cell? ⟨w.heap.size+1,0,none⟩=some (.int .i64 K):=NX aA γ;have d1:w5.cell? ⟨w.heap.size+1,1,none⟩=some (.int .i64 L):=NX aA γ;have d2:w5.cell? ⟨w.heap.size+1,2,none⟩=some (.int .i64 M):=NX aA γ;have d3:w5.cell? ⟨w.heap.size+1,3,none⟩=some (.string P):=NX aA γ;have aE:=LN ((aJ _ _).drew.j (aA.A ξ));clear aA)
   refine AI (v:=.tuple #[NK 0 0 0 ⟨#[]⟩,.bool false]) (by simp[results,results121,go_sem,c0,c1,c2,c3]) rfl ⟨by rw[aC.l];rfl,?_⟩;exact(((aE.l.setCell (Y _) _).setCell (Y _) _).setCell (Y _) _).setCell (Y _) _
