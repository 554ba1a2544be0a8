import Derived.Test.YtkdedmclofhndaaGreatDoorPrG27
set_option maxHeartbeats 16000000
namespace Go.Proofs.YtkdedmclofhndaaGreatDoor
open Tryz
open Go.RowKit
set_option maxRecDepth 4000
set_option linter.all false
def MY(l:List Int):Int:=l.foldl (λn x=>n*256+x) 0
theorem vY{k:IntKind}{a b:Int}(h:a=b):yT (.int k a)=yT (.int k b):=by rw[h]
theorem pz(l:List Int)(x:Int):MY (l++[x])=MY l*256+x:=by simp[MY]
theorem wC(t:yZ)(k:Nat)(h:k<t.size):(LF t).take (k+1)=(LF t).take k++[(((t[k]'h).toNat:Nat):Int)]:=by
 unfold LF;rw[<-GS,<-GS,xi t k h,DA];rfl
theorem sU:∀(k:Nat) (t:yZ),k<=t.size->k<=4->0<=MY ((LF t).take k)/\MY ((LF t).take k)<(256:Int) ^ k
 | 0,t,_,_=>by simp[MY]
 | k+1,t,h,h4=>by
  obtain⟨h1,h2⟩:=sU k t ω ω;rw[wC t k ω,pz,LC];have:=IJ (t[k]' ω)
  constructor<;>omega
theorem F9(t:yZ)(w:xV)(p:t.size<=4):Calls prog 132 #[yQ t] w λe a=>e=yT (Z (MY (LF t)))/\a=w:=by
 go_enter func132,ntmps132;go_wp2;go_loop [3,4] (λx i=>∃(k:Nat) (y:Int),k<=t.size/\i=Z (k:Int)/\x=Z y/\Hid (y=MY ((LF t).take k))/\0<=y/\y<=4294967296) (λ_ i=>t.size-(intOf i).toNat)
 case atStart=>exact⟨0,0,AL _,rfl,rfl,by show _=_;simp[MY],ω,ω⟩
 case round =>
  obtain⟨k,y,o,rfl,rfl,f,l,m⟩:=hrel
  by_cases a:k<t.size
  ·obtain⟨b,c⟩:∃b,b=(t[k]'a).toNat:=⟨_,rfl⟩
   have j:b<=255:=by rw[c];have:=IJ (t[k]'a);omega
   have n:(t[k]'a).toNat=b:=c.symm;have e:Hid (y*256+(b:Int)=MY ((LF t).take (k+1))):=by show _=_;rw[wC t k a,pz,<-f.j,c]
   have d:=sU (k+1) t ω ω;rw[<-e.j]at d
   have g:(256:Int) ^ (k+1)<=4294967296:=by
    have:k+1=1\/k+1=2\/k+1=3\/k+1=4:=ω
    rcases this with h|h|h|h<;>rw[h]<;>decide
   have h:0<=y*256+(b:Int):=d.1;have i:y*256+(b:Int)<=4294967296:=ω
   clear d g c;go_wp2;go_round
   case rel=>exact⟨k+1,_,ω,ν,rfl,e.j,h,i⟩
   case measure=>simp[intOf];omega
  go_wp2
  go_ret;refine⟨vY ?_,rfl⟩;rw[f.j,AR (by rw[MR];omega)]
def UF(b:yZ):Int:=((b.data.toList.getD 0 0).toNat:Int)
def rpN(b:yZ):Nat:=(b.data.toList.getD 7 0).toNat
def UG(b:yZ):Int:=MY (LF (b.extract 1 3))
def UH(b:yZ):Int:=MY (LF (b.extract 3 7))
def TR(b:yZ):yZ:=b.extract 8 (8+rpN b)
def NB(s:yZ)(n:Int):Option (Int×Int×Int×yZ) :=if 1<=n/\n<=8/\s.size=64/\(rpN (s.extract n.toNat 64):Int)<=56-n/\MJ (UF (s.extract n.toNat 64)) (UG (s.extract n.toNat 64)) (UH (s.extract n.toNat 64)) (TR (s.extract n.toNat 64)) n=s then
  some (UF (s.extract n.toNat 64),UG (s.extract n.toNat 64),UH (s.extract n.toNat 64),TR (s.extract n.toNat 64)) else none
theorem qr(b:yZ)(i:Nat)(h:i<b.size):(b[i]'h).toNat=(b.data.toList.getD i 0).toNat:=by
 have a:i<b.data.toList.length:=h;rw[BF,AO a];rfl
theorem LQ{p:Prop}(h:p):Hid p:=h
theorem su(t:yZ)(L:Int)(w:xV)(b:t.size<=4)(a:L=MY (LF t)):Calls prog 132 #[yQ t] w λe c=>e=yT (Z L)/\c=w:=by rw[a];exact F9 t w b
def TS(o:Option (Int×Int×Int×yZ)):qD:=match o with
 | none=>.tuple #[ND 0 0 0 ⟨#[]⟩,.bool false]
 | some (k,l,m,p)=>.tuple #[ND k l m p,.bool true]
theorem df{s:yZ}{n:Int}(h:¬(1<=n/\n<=8/\s.size=64/\(rpN (s.extract n.toNat 64):Int)<=56-n/\MJ (UF (s.extract n.toNat 64)) (UG (s.extract n.toNat 64)) (UH (s.extract n.toNat 64)) (TR (s.extract n.toNat 64)) n=s)):NB s n=none:=by unfold NB;exact AF h
theorem Fi(s:yZ)(n:Nat)(w:xV)(S:s.size=64)(h1:1<=n)(h2:n<=8)(q:rpN (s.extract n 64)<=56-n):Calls prog 86 #[yQ s,Z (n:Int)] w λe a=>e=yT (TS (NB s (n:Int)))/\yX w a:=by
 have x:∀o a,yX w ((w.alloc o).alloc a):=λo a=>(LG _ _).alloc σ _
 obtain⟨R,d⟩:∃R,Hid (R=NB s (n:Int)):=⟨_,LQ rfl⟩;rw[<-d.j]
 have i:Hid (NB s (n:Int)=if MJ (UF (s.extract n 64)) (UG (s.extract n 64)) (UH (s.extract n 64)) (TR (s.extract n 64)) (n:Int)=s then some (UF (s.extract n 64),UG (s.extract n 64),UH (s.extract n 64),TR (s.extract n 64)) else none):=by
  show _=_;unfold NB;rw[DS]
  by_cases hF:MJ (UF (s.extract n 64)) (UG (s.extract n 64)) (UH (s.extract n 64)) (TR (s.extract n 64)) (n:Int)=s
  ·rw[AI hF,AI ⟨ω,ω,S,ω,hF⟩]
  rw[AF hF,AF (λh=>hF h.2.2.2.2)]
 have Q:decide (1<=(n:Int)/\(n:Int)<=8)=true:=τ
 have bE:(s.size:Int)=64:=ω
 obtain⟨b,r⟩:∃b,s.extract n 64=b:=⟨_,rfl⟩;have j:b.size=64-n:=by rw[<-r];simp only[AQ];omega
 obtain⟨m,hm⟩:∃m:Nat,b.size=m:=⟨_,rfl⟩;have aX:n+m=64:=ω
 have T:0<b.size:=ω
 have U:7<b.size:=ω
 have I:=qr b 0 T;have O:=qr b 7 U;rw[r]at q;obtain⟨K,c⟩:∃K,K=(b.data.toList.getD 0 0).toNat:=⟨_,rfl⟩;obtain⟨N,a⟩:∃N,N=(b.data.toList.getD 7 0).toNat:=⟨_,rfl⟩;rw[<-c]at I;rw[<-a]at O;have aP:K<=255:=by rw[c];have:=IJ (b.data.toList.getD 0 0);omega
 have aR:N<=56-n:=by rw[a];exact q
 obtain⟨e,h⟩:∃e:Nat,e=8+N:=⟨_,rfl⟩;have aS:(8:Int)+(N:Int)=(e:Int):=ω
 have aT:(e:Int)<=(m:Int):=ω
 have aV:IntKind.i64.wrap (e:Int)=(e:Int):=by simp[IntKind.wrap,IntKind.bits,IntKind.signed];omega
 have bC:(N:Int)<=64-(n:Int)-8:=ω
 have X:(b.extract 1 3).size<=4:=by simp only[AQ];omega
 have Y:(b.extract 3 7).size<=4:=by simp only[AQ];omega
 have aW:0<m:=ω
 have aL:(0:Int)<(m:Int):=ω
 have aM:(1:Int)<=(m:Int):=ω
 have aN:(7:Int)<=(m:Int):=ω
 have aQ:IntKind.i64.wrap (K:Int)=(K:Int):=by simp[IntKind.wrap,IntKind.bits,IntKind.signed];omega
 have bB:(8:Int)<=(m:Int):=ω
 have aZ:(7:Int)<(m:Int):=ω
 have aY:(3:Int)<=(m:Int):=ω
 have aU:(8:Int)<=(e:Int):=ω
 obtain⟨L,t⟩:∃L,Hid (L=MY (LF (b.extract 1 3))):=⟨_,LQ rfl⟩;obtain⟨M,u⟩:∃M,Hid (M=MY (LF (b.extract 3 7))):=⟨_,LQ rfl⟩;obtain⟨P,y⟩:∃P,b.extract 8 e=P:=⟨_,rfl⟩;have v:P.size<=1048576:=by rw[<-y];simp only[AQ];omega
 obtain⟨F,f⟩:∃F,Hid (F=MJ (K:Int) L M P (n:Int)):=⟨_,LQ rfl⟩
 have g:Hid (R=if F=s then some ((K:Int),L,M,P) else none):=by
  show _=_;rw[d.j,i.j,r,f.j];have k:UF b=(K:Int):=by unfold UF;rw[c]
  have l:TR b=P:=by unfold TR rpN;rw[<-a,<-h];exact y
  have o:UG b=L:=t.j.symm;have p:UH b=M:=u.j.symm;rw[k,l,o,p]
 clear j c a q h d i;go_enter func86,ntmps86
 go_wp2_with (first|(go_at_call 24;refine(QH _ _).J ?_;rw[Q];rintro e V ⟨rfl,rfl⟩)|(go_at_call 131;refine(gk _ _ ω ω).J ?_;rintro e V ⟨rfl,rfl⟩))
 go_region_law (first|(have _g:=J;refine LI ρ 132 #[yQ (b.extract 3 7)] γ (su (b.extract 3 7) M _ Y u.j) ?_;rintro e W ⟨rfl,rfl⟩;refine⟨_,rfl,?_⟩)|(refine LI ρ 132 #[yQ (b.extract 1 3)] γ (su (b.extract 1 3) L _ X t.j) ?_;rintro e W ⟨rfl,rfl⟩;refine⟨_,rfl,?_⟩;have J:=True.intro))
 all_goals
  by_cases d:F=s
  ·rw[AI d]at g
   have h:=LQ d;clear d;have aO:Hid (MJ (K:Int) L M P (n:Int)=s):=f.j.symm.E h.j;rw[h.j]at f;go_wp2_with (go_at_call 129;refine(au (K:Int) L M P (n:Int) _ v).J ?_;rw[<-f.j];rintro e c ⟨rfl,a⟩;have j:=a.size;simp only[BE,JD]at j;have k:c.cell? (yA w.heap.size 0)=some (Z 0):=NF a γ;have l:c.cell? (yA w.heap.size 1)=some (Z 0):=NF a γ;have o:c.cell? (yA w.heap.size 2)=some (Z 0):=NF a γ;have p:c.cell? (yA w.heap.size 3)=some (yQ ⟨#[]⟩):=NF a γ;have D:c.frozen? (yA w.heap.size 0)=false:=RW a γ;have E:c.frozen? (yA w.heap.size 1)=false:=RW a γ;have G:c.frozen? (yA w.heap.size 2)=false:=RW a γ;have H:c.frozen? (yA w.heap.size 3)=false:=RW a γ;have z:c.cell? (yA (w.heap.size+1) 0)=some (Z K):=NF a γ;have A:c.cell? (yA (w.heap.size+1) 1)=some (Z L):=NF a γ;have B:c.cell? (yA (w.heap.size+1) 2)=some (Z M):=NF a γ;have C:c.cell? (yA (w.heap.size+1) 3)=some (yQ P):=NF a γ;have i:=LQ ((x _ _).drew.E (a.J ξ));clear a)
   refine AE (v:=.tuple #[ND K L M P,yR true]) (by simp[results,results86,go_sem,k,l,o,p]) rfl ⟨by rw[g.j];rfl,?_⟩;exact(((i.j.setCell (AA _) _).setCell (AA _) _).setCell (AA _) _).setCell (AA _) _
  ·rw[AF d]at g
   have hG:(!F.toList == s.toList)=true:=by simp only[KM,BI];intro h;rw[CZ,CZ]at h;exact d (EQ (IE h))
   clear d;go_wp2_with (go_at_call 129;refine(au (K:Int) L M P (n:Int) _ v).J ?_;rw[<-f.j];rintro e c ⟨rfl,a⟩;have j:=a.size;simp only[BE,JD]at j;have k:c.cell? (yA w.heap.size 0)=some (Z 0):=NF a γ;have l:c.cell? (yA w.heap.size 1)=some (Z 0):=NF a γ;have o:c.cell? (yA w.heap.size 2)=some (Z 0):=NF a γ;have p:c.cell? (yA w.heap.size 3)=some (yQ ⟨#[]⟩):=NF a γ;have D:c.frozen? (yA w.heap.size 0)=false:=RW a γ;have E:c.frozen? (yA w.heap.size 1)=false:=RW a γ;have G:c.frozen? (yA w.heap.size 2)=false:=RW a γ;have H:c.frozen? (yA w.heap.size 3)=false:=RW a γ;have z:c.cell? (yA (w.heap.size+1) 0)=some (Z K):=NF a γ;have A:c.cell? (yA (w.heap.size+1) 1)=some (Z L):=NF a γ;have B:c.cell? (yA (w.heap.size+1) 2)=some (Z M):=NF a γ;have C:c.cell? (yA (w.heap.size+1) 3)=some (yQ P):=NF a γ;have i:=LQ ((x _ _).drew.E (a.J ξ));clear a)
   refine AE (v:=.tuple #[ND 0 0 0 ⟨#[]⟩,yR false]) (by simp[results,results86,go_sem,k,l,o,p]) rfl ⟨by rw[g.j];rfl,?_⟩;exact(((i.j.setCell (AA _) _).setCell (AA _) _).setCell (AA _) _).setCell (AA _) _
