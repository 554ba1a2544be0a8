import Derived.Test.YtkdedmclofhndaaGreatDoorPrG38
import Derived.Deep.MidRow
import Derived.Lib.LazyBuf
import Derived.Laws.IdiomStrings
set_option maxHeartbeats 16000000
set_option maxRecDepth 8000
set_option linter.all false
namespace Go.Proofs.YtkdedmclofhndaaGreatDoor
open _root_.ByteArray(empty)
open Tryz
open Go.RowKit
variable {a:Act}{aB:Array Oper}{Q:Exit->Act->xV->Prop}{fn:Func}{xs ys:List Int}{aA:List Oper}{cs:List qD}{F N g n o:Nat}{op:Oper}{P:Program}{w w':xV}
theorem Me(s:yZ)(w:xV)(n:Nat)(t:s.size<=1048576)(q:1<=n)(r:n<=8):Calls prog 186 #[yQ s,Z (n:Int)] w λe w'=>e=yT (yQ (TT s n))/\yX w w':=by
 have m:=rz;have j:(1:Int)<=(n:Int):=ω
 have l:(n:Int)<=8:=ω
 go_enter func186,ntmps186;go_wp2;go_loop [5,6] (λv i=>∃k:Nat,k<=s.size/\i=Z k/\v=.int .u64 (PY (s.data.toList.take k))) (λ_ i=>s.size-(intOf i).toNat)
 case atStart=>exact⟨0,AL _,rfl,rfl⟩
 case round =>
  obtain⟨k,h,rfl,rfl⟩:=hrel
  by_cases c:k<s.size
  ·have b:Hid (PY (s.data.toList.take (k+1))=mb (PY (s.data.toList.take k)) s[k]):=by show _=_;rw[xi s k c,yu]
   go_wp2;go_round
   case rel=>exact⟨k+1,ω,ν,by rw[b.j];rfl⟩
   case measure=>simp[intOf];omega
  have aB:s.data.toList.take k=s.data.toList:=AR τ
  have e:Hid (PY (s.data.toList.take k)=PY s.data.toList):=by show _=_;rw[aB]
  clear aB;obtain⟨x,b⟩:∃x,Hid (x=PY s.data.toList):=⟨PY s.data.toList,(rfl:PY s.data.toList=PY s.data.toList)⟩;rw[e.j,<-b.j];have d:0<=x/\x<=18446744073709551615:=by rw[b.j];exact qQ _
  go_wp2;go_loopw [5,7,8] (λv o i wr=>∃k:Nat,k<=n/\i=Z k/\o=yQ (strOfNums (be k x))/\v=.int .u64 (sh k x)/\yX w wr) (λ_ _ i _=>n-(intOf i).toNat)
  case atStart=>exact⟨0,AL _,rfl,rfl,rfl,AB _ _⟩
  case round =>
   obtain⟨k,h,rfl,rfl,rfl,aA⟩:=hrel;have i:=xN k x d.1 d.2
   by_cases c:k<n
   ·have f:(strOfNums [sh k x % 256]).size<=1:=by rw[CY];simp
    have p:(strOfNums (be k x)).size<=8:=by rw[CY,PA];omega
    go_wp2;go_roundw
    case rel=>exact⟨k+1,ω,ν,by rw[xe,<-TM];rfl,rfl,aA.alloc aA.size _⟩
    case measure=>simp[intOf];omega
   have f:k=n:=ω
   subst f;go_wp2;go_ret;exact⟨rj (by unfold TT;rw[b.j]),aA⟩
theorem bp(b c n d:Nat)(x:Int)(w:xV)(t:n<=64)(h:0<=x)(j:x<=18446744073709551615)
  (l:∀i,i<n->∃u,w.cell? (yA b (c+i))=some (.int .u8 u))(m:∀i,i<n->w.frozen? (yA b (c+i))=false):Calls prog 282 #[yI (zY b c) n d,.int .u64 x] w λe w'=>e=yT (.tuple #[])/\Wrote w w' b c (be n x):=by
 go_enter func282,ntmps282;go_wp2;go_loopw [1,4] (λv i wr=>∃k:Nat,k<=n/\i=Z ((n:Int)-1-k)/\v=.int .u64 (sh k x)/\Wrote w wr b (c+(n-k)) (be k x)) (λ_ i _=>(intOf i+1).toNat)
 case atStart=>exact⟨0,AL _,σ,rfl,by simpa[be] using Wrote.refl w b (c+n)⟩
 case round =>
  obtain⟨k,s,rfl,rfl,aA⟩:=hrel;have q:=xN k x h j
  by_cases p:k<n
  ·obtain⟨u,e⟩:=l (n-1-k) ω
   have r:wr.cell? (yA b (c+(n-1-k)))=some (.int .u8 u):=(aA.outside _ (.inl ω)).E e;have i:wr.frozen? (yA b (c+(n-1-k)))=false:=(aA.frozen _).E (m _ ω);go_wp2;go_roundw
   case rel =>
    have f:=Wrote.step (off:=c+(n-1-k)) (xs:=be k x) (by rw[show c+(n-1-k)+1=c+(n-k) by omega];exact aA) (sh k x % 256) e;exact⟨k+1,ω,ν,rfl,by rw[xe,show n-(k+1)=n-1-k by omega];exact f⟩
   case measure=>simp[intOf];omega
  have aB:k=n:=ω
  subst aB;go_wp2;go_end0;exact⟨rfl,by simpa using aA⟩
theorem Mo(s:yZ)(w:xV)(n:Nat)(A:s.size<=1048576)(y:1<=n)(z:n<=8):Calls prog 283 #[yQ s,Z (n:Int)] w λe w'=>e=yT (yQ (TT s n))/\yX w w':=by
 have r:(1:Int)<=(n:Int):=ω
 have t:(n:Int)<=8:=ω
 go_enter func283,ntmps283;go_wp2;go_loop [5,6] (λv i=>∃k:Nat,k<=s.size/\i=Z k/\v=.int .u64 (PY (s.data.toList.take k))) (λ_ i=>s.size-(intOf i).toNat)
 case atStart=>exact⟨0,AL _,rfl,rfl⟩
 case round =>
  obtain⟨k,v,rfl,rfl⟩:=hrel
  by_cases p:k<s.size
  ·have b:Hid (PY (s.data.toList.take (k+1))=mb (PY (s.data.toList.take k)) s[k]):=by show _=_;rw[xi s k p,yu]
   go_wp2;go_round
   case rel=>exact⟨k+1,ω,ν,by rw[b.j];rfl⟩
   case measure=>simp[intOf];omega
  have aB:s.data.toList.take k=s.data.toList:=AR τ
  have l:Hid (PY (s.data.toList.take k)=PY s.data.toList):=by show _=_;rw[aB]
  clear aB;obtain⟨x,b⟩:∃x,Hid (x=PY s.data.toList):=⟨PY s.data.toList,(rfl:PY s.data.toList=PY s.data.toList)⟩;rw[l.j,<-b.j];have f:0<=x/\x<=18446744073709551615:=by rw[b.j];exact qQ _
  go_wp2_with fail;refine(bp w.heap.size 0 8 8 x _ ω f.1 f.2 ?hc ?hf).J ?_
  case hc =>
   intro i d;have:i=0\/i=1\/i=2\/i=3\/i=4\/i=5\/i=6\/i=7:=ω
   rcases this with rfl|rfl|rfl|rfl|rfl|rfl|rfl|rfl<;>exact⟨0,σ⟩
  case hf=>intro i d;simp
  rintro e j ⟨rfl,aA⟩;have m:yX w j:=(LG _ _).E (aA.I (AA _))
  have u:=λc=>ES (P:=prog) j 24 5 underlying24 underlying5 w.heap.size (8-n) n c (be n x) (PA n x) (λi d=>by
   have h:=aA.inside (8-n+i) (by rw[PA];omega);rw[rC _ _ _ ω]at h;rw[rC _ _ _ ω,show n-1-i=8-1-(8-n+i) by omega]
   simpa using h) 9 underlying9
  clear aA
  have c:=λq=>ox (P:=prog) (t:=351) underlying351 (λ_=>κ) w.heap.size 0 (8-n) ω .i64 (8-(n:Int)) ω q
  rw[show 8-(8-n)=n by omega,BK]at c;go_wp2;go_ret;exact⟨rj (by unfold TT;rw[b.j]),m⟩
theorem XY{a b:Bool}(h:a=b):yT (yR a)=yT (yR b):=by rw[h]
def NC(k l m:Int)(p:yZ)(n:Int):Bool:=decide (1<=n/\n<=8/\1<=k/\k<=4/\1<=l/\l<=60000/\1<=m/\m<=1000000000/\(p.size:Int)<=56-n/\(k=3->p.size=0))
@[reducible] def ND(k l m:Int)(p:yZ):qD:=.agg #[Z k,Z l,Z m,yQ p]
theorem Im(v:Int)(c:Nat)(w:xV)(b:0<=v)(d:v<=9223372036854775807)(l:c<=8):Calls prog 185 #[Z v,Z (c:Int)] w λe w'=>e=yT (yQ (strOfNums (be c v)))/\yX w w':=by
 have e:=rz;go_enter func185,ntmps185;go_wp2;go_loopw [0,5,6] (λx o i wr=>∃k:Nat,k<=c/\i=Z k/\o=yQ (strOfNums (be k v))/\x=Z (sh k v)/\yX w wr) (λ_ _ i _=>c-(intOf i).toNat)
 case atStart=>exact⟨0,AL _,rfl,rfl,rfl,AB _ _⟩
 case round =>
  obtain⟨k,m,rfl,rfl,rfl,aA⟩:=hrel;have h:=Bh k v b d
  by_cases f:k<c
  ·have i:(strOfNums [sh k v % 256]).size<=1:=by rw[CY];simp
   have j:(strOfNums (be k v)).size<=8:=by rw[CY,PA];omega
   go_wp2;go_roundw
   case rel=>exact⟨k+1,ω,ν,by rw[xe,<-TM];rfl,rfl,aA.alloc aA.size _⟩
   case measure=>simp[intOf];omega
  have aB:k=c:=ω
  subst aB;go_wp2;go_ret;exact⟨rfl,aA⟩
theorem gk(n:Int)(w:xV)(b:1<=n)(c:n<=8):Calls prog 131 #[Z n] w λe w'=>e=yT (Z (64-n-8))/\w'=w:=by
 go_enter func131,ntmps131;go_wp2;go_ret;exact⟨rfl,rfl⟩
theorem vn(n:Int)(w:xV)(b:1<=n)(c:n<=8):Calls prog 236 #[Z n] w λe w'=>e=yT (Z (64-n-8))/\w'=w:=by
 go_enter func236,ntmps236;go_wp2;go_ret;exact⟨rfl,rfl⟩
theorem lj(k l m:Int)(p:yZ)(n:Int)(w:xV)(d:p.size<=1048576):Calls prog 237 #[ND k l m p,Z n] w λe w'=>e=yT (yR (NC k l m p n))/\yX w w':=by
 by_cases b:1<=n/\n<=8
 ·obtain⟨aB,c⟩:=b
  go_enter func237,ntmps237;go_wp2
  all_goals first
   | (go_ret;refine⟨XY ?_,LG _ _⟩;unfold NC;symm;apply AH;intro h;omega)
   | (go_ret;refine⟨XY ?_,LG _ _⟩;have aA:(k == 3)=true:=(by assumption);rw[VA];unfold NC;simp at aA;apply JT.2;constructor<;>intro h<;>omega)
   | (go_quiet ((go_at_call 236;exact Calls.quiet_of_same (vn _ _ aB c)));go_wp2;go_ret;refine⟨XY ?_,below_drewN (LG _ _) _⟩;have aA:(k == 3)=false:=(by assumption);unfold NC;simp at aA;apply JT.2;constructor<;>intro h<;>omega)
 have c:decide (1<=n/\n<=8)=false:=by simpa using b
 go_enter func237,ntmps237;go_wp2_with (go_at_call 36;refine(RH _ _).J ?_;rw[c];rintro e w' ⟨rfl,rfl⟩);go_ret;refine⟨XY ?_,LG _ _⟩;unfold NC;symm;apply AH;intro h;omega
theorem oL(k l m:Int)(p:yZ)(n:Int)(w:xV)(x:p.size<=1048576):Calls prog 184 #[ND k l m p,Z n] w λe w'=>e=yT (yR (NC k l m p n))/\yX w w':=by
 by_cases c:1<=n/\n<=8
 ·obtain⟨aA,aB⟩:=c
  by_cases i:1<=k/\k<=4/\1<=l/\l<=60000/\1<=m/\m<=1000000000
  ·obtain⟨q,r,s,t,u,v⟩:=i
   by_cases j:(p.size:Int)<=64-n-8
   ·by_cases b:k=3
    ·have f:(k != 3)=false:=by simp[b]
     have d:Hid (k=3):=b;clear b;go_enter func184,ntmps184;go_wp2;go_quiet ((go_at_call 131;exact Calls.quiet_of_same (gk _ _ aA aB)));go_wp2;go_ret;refine⟨XY ?_,below_drewN (LG _ _) _⟩;rw[VA];unfold NC;have b:=d.j;apply JT.2;constructor<;>intro h<;>omega
    have f:(k != 3)=true:=by simp[b]
    go_enter func184,ntmps184;go_wp2;go_quiet ((go_at_call 131;exact Calls.quiet_of_same (gk _ _ aA aB)));go_wp2;go_ret;refine⟨XY ?_,below_drewN (LG _ _) _⟩;unfold NC;symm;apply AM;omega
   have b:decide ((p.size:Int)<=64-n-8)=false:=by simpa using j
   go_enter func184,ntmps184;go_wp2;go_quiet ((go_at_call 131;exact Calls.quiet_of_same (gk _ _ aA aB)));go_wp2;go_ret;refine⟨XY ?_,below_drewN (LG _ _) _⟩;unfold NC;symm;apply AH;intro h;omega
  have b:NC k l m p n=false:=by unfold NC;apply AH;intro h;omega
  have d:Hid (NC k l m p n=false):=b;clear b;go_enter func184,ntmps184;go_wp2
  all_goals (go_ret;exact⟨XY d.j.symm,LG _ _⟩)
 have b:decide (1<=n/\n<=8)=false:=by simpa using c
 go_enter func184,ntmps184;go_wp2_with (go_at_call 24;refine(QH _ _).J ?_;rw[b];rintro e w' ⟨rfl,rfl⟩);go_ret;refine⟨XY ?_,LG _ _⟩;unfold NC;symm;apply AH;intro h;omega
theorem QB{p:Prop}(h:p):Hid p:=h
def nG:qD->yZ
 | .string s=>s
 | _=>empty
theorem Ba(k l m:Int)(p:yZ):strOfNums (be 1 k)++strOfNums (be 2 l)++strOfNums (be 4 m)++strOfNums (be 1 (p.size:Int))++p=strOfNums (WL k l m p++List.replicate 0 0):=by
 rw[List.replicate_zero,FQ];unfold WL;rw[TM,TM,TM,TM,UA]
theorem yM(xs:List Int)(j:Nat):strOfNums (xs++List.replicate j 0)++⟨#[0]⟩=strOfNums (xs++List.replicate (j+1) 0):=by
 rw[LA,<-BV,TM _ [0]];rfl
theorem eg(v:Int)(c:Nat)(b:Int)(aA:b=(c:Int))(w:xV)(d:0<=v)(f:v<=9223372036854775807)(h:c<=8):Calls prog 185 #[Z v,Z b] w λe w'=>e=yT (yQ (strOfNums (be c v)))/\yX w w':=by
 subst aA;exact Im v c w d f h
theorem da{W:xV}{v0 v1 v2 v3:qD}(b:yX w w')
  (h:W.heap.size<w.heap.size/\w.cell? (yA W.heap.size 0)=some v0/\w.cell? (yA W.heap.size 1)=some v1/\w.cell? (yA W.heap.size 2)=some v2/\w.cell? (yA W.heap.size 3)=some v3/\yX W w):W.heap.size<w'.heap.size/\w'.cell? (yA W.heap.size 0)=some v0/\w'.cell? (yA W.heap.size 1)=some v1/\w'.cell? (yA W.heap.size 2)=some v2/\w'.cell? (yA W.heap.size 3)=some v3/\yX W w' :=⟨AC h.1 b.size,(b.cell (p:=⟨_,0,none⟩) h.1).E h.2.1,(b.cell (p:=⟨_,1,none⟩) h.1).E h.2.2.1,(b.cell (p:=⟨_,2,none⟩) h.1).E h.2.2.2.1,(b.cell (p:=⟨_,3,none⟩) h.1).E h.2.2.2.2.1,
  h.2.2.2.2.2.E (b.J (KF h.1))⟩
theorem Jf(k l m:Int)(p:yZ)(n:Nat)(w:xV)(aA:NC k l m p n=true):Calls prog 129 #[ND k l m p,Z (n:Int)] w λe w'=>e=yT (yQ (TX k l m p n))/\yX w w':=by
 have aB:=AW (by unfold NC at aA;exact aA);obtain⟨H,I,z,A,B,C,E,G,M,_⟩:=aB;have V:(strOfNums (be 1 k)).size=1:=by rw[CY,PA]
 have W:(strOfNums (be 2 l)).size=2:=by rw[CY,PA]
 have X:(strOfNums (be 4 m)).size=4:=by rw[CY,PA]
 have Y:(strOfNums (be 1 (p.size:Int))).size=1:=by rw[CY,PA]
 have z5:¬(9223372036854775807<8+p.size):=ω
 go_enter func129,ntmps129;go_wp2_with (go_at_call 184;refine(oL k l m p n _ ω).J ?_;rw[aA];rintro e c ⟨rfl,h⟩)
 have q:w.heap.size<c.heap.size/\c.cell? (yA w.heap.size 0)=some (Z k)/\c.cell? (yA w.heap.size 1)=some (Z l)/\c.cell? (yA w.heap.size 2)=some (Z m)/\c.cell? (yA w.heap.size 3)=some (yQ p)/\yX w c :=da (v0:=Z k) (v1:=Z l) (v2:=Z m) (v3:=yQ p) h ⟨σ,σ,σ,σ,σ,LG _ _⟩
 have f:=QB q;clear q h
 go_region_held3 (λw'=>w.heap.size<w'.heap.size/\w'.cell? (yA w.heap.size 0)=some (Z k)/\w'.cell? (yA w.heap.size 1)=some (Z l)/\w'.cell? (yA w.heap.size 2)=some (Z m)/\w'.cell? (yA w.heap.size 3)=some (yQ p)/\yX w w')
  (first|assumption|exact da (below_drewN (AB _ _) 1) f.j|exact da (by assumption) (by assumption))
  (first|(go_at_call_of 185 k;refine(eg k 1 _ rfl _ ω ω ω).J ?_;rintro e O ⟨rfl,u⟩)|(go_at_call_of 185 l;refine(eg l 2 _ rfl _ ω ω ω).J ?_;rintro e R ⟨rfl,v⟩)|(go_at_call_of 185 m;refine(eg m 4 _ rfl _ ω ω ω).J ?_;rintro e S ⟨rfl,x⟩)|(go_at_call_of 185 (p.size:Int);refine(eg (p.size:Int) 1 _ rfl _ ω ω ω).J ?_;rintro e T ⟨rfl,y⟩))
 clear f;rename_i d;have i:=d.2.2.2.2.2;clear d;go_wp2;go_loop [5] (λb=>∃j:Nat,j<=56-n-p.size/\b=yQ (strOfNums (WL k l m p++List.replicate j 0))) (λb=>64-(nG b).size)
 case atStart=>exact⟨0,AL _,by rw[Ba]⟩
 case round =>
  obtain⟨j,L,rfl⟩:=hrel;have t:(strOfNums (WL k l m p++List.replicate j 0)).size=8+p.size+j:=by rw[CY,AK,sf,DU]
  by_cases D:j<56-n-p.size
  ·go_wp2
   go_round
   case rel=>exact⟨j+1,ω,by rw[yM]⟩
   case measure =>
    rw[yM];simp only[nG,CY,AK,sf,DU];omega
  have s:j=56-n-p.size:=ω
  subst s;have J:(TT (strOfNums (WL k l m p++List.replicate (56-n-p.size) 0)) n).size=n:=mh _ _;have K:¬(9223372036854775807<n+(8+p.size+(56-n-p.size))):=ω
  go_wp2_with (go_at_call 186;refine(Me _ _ n (by rw[t];omega) ω ω).J ?_;rintro e U ⟨rfl,r⟩);go_ret;exact⟨rfl,i.E (r.J i.size)⟩
theorem Gn(k l m:Int)(p:yZ)(n:Int)(w:xV)(b:p.size<=1048576)(aB:NC k l m p n=false):Calls prog 129 #[ND k l m p,Z n] w λe w'=>e=yT (yQ empty)/\yX w w':=by
 go_enter func129,ntmps129;go_wp2_with (go_at_call 184;refine(oL k l m p n _ b).J ?_;rw[aB];rintro e c ⟨rfl,aA⟩);go_ret;exact⟨rfl,(LG _ _).E (aA.J σ)⟩
section
def PT(xs:List Int)(o:Nat)(ys:List Int):List Int:=xs.take o++ys++xs.drop (o+ys.length)
theorem jk(xs:List Int)(o:Nat)(ys:List Int)(h:o+ys.length<=xs.length):(PT xs o ys).length=xs.length:=by
 simp[PT];omega
theorem M8(xs:List Int)(o:Nat)(ys:List Int)(h:o+ys.length<=xs.length)(i:Nat)(b:i<ys.length):(PT xs o ys).getD (o+i) 0=ys.getD i 0:=by
 have c:(xs.take o).length=o:=τ
 unfold PT;rw[BF,BV,DW ω,c,show o+i-o=i by omega,BN b,BF]
theorem N3(xs:List Int)(o:Nat)(ys:List Int)(h:o+ys.length<=xs.length)(i:Nat)(b:i<o\/o+ys.length<=i):(PT xs o ys).getD i 0=xs.getD i 0:=by
 have c:(xs.take o).length=o:=τ
 unfold PT;rcases b with b|b
 ·rw[BF,BV,BN ω,GL b,BF]
 rw[BF,DW τ,AK,c,FC,show o+ys.length+(i-(o+ys.length))=i by omega,BF]
structure Fm(w:xV)(F:Nat)(xs:List Int):Prop where
 cell:∀i,i<xs.length->w.cell? (yA F i)=some (.int .u8 (xs.getD i 0))
 froz:∀i,i<xs.length->w.frozen? (yA F i)=false
theorem Fm.drew(h:Fm w F xs):Fm w.drew F xs:=⟨h.cell,h.froz⟩
theorem Fm.wrote(h:Fm w F xs)(c:Wrote w w' F o ys)(b:o+ys.length<=xs.length):Fm w' F (PT xs o ys):=by
 have aB:=jk xs o ys b;refine⟨λi d=>?_,λi d=>(c.frozen _).E (h.froz i ω)⟩
 by_cases aA:o<=i/\i<o+ys.length
 ·have:=c.inside (i-o) ω
  rw[show o+(i-o)=i by omega]at this;rw[this];have e:=M8 xs o ys b (i-o) ω;rw[show o+(i-o)=i by omega]at e;rw[e]
 rw[c.outside i ω,h.cell i ω,N3 xs o ys b i ω]
theorem Fm.I(h:Fm w F xs)(c:yX w w')(hF:F<w.heap.size):Fm w' F xs :=⟨λi b=>(c.cell (p:=(yA F i)) hF).E (h.cell i b),λi b=>(c.frozen (p:=(yA F i)) hF).E (h.froz i b)⟩
theorem SK(b:Nat):∀(vs:List qD) (o:Nat) (w:xV),(w.setCells b o vs).heap.size=w.heap.size
 | [],_,_=>rfl
 | v::r,o,w=>by rw[World.setCells,SK b r];simp[World.setCell]
theorem jo(b:Nat):∀(vs:List qD) (o:Nat) (w:xV) (k:Nat),k≠b->(w.setCells b o vs).heap[k]?=w.heap[k]?
 | [],_,_,_,_=>rfl
 | v::r,o,w,k,h=>by rw[World.setCells,jo b r _ _ _ h,BM _ _ _ _ h]
theorem zO(b:Nat):∀(vs:List qD) (o:Nat) (w:xV),(w.setCells b o vs).os=w.os/\(w.setCells b o vs).tape=w.tape/\(w.setCells b o vs).output=w.output
 | [],_,_=>⟨rfl,rfl,rfl⟩
 | v::r,o,w=>by rw[World.setCells];exact zO b r (o+1) _
theorem uJ(w:xV)(b o:Nat)(t:yZ)(l:∀j,j<t.size->(w.cell? (yA b (o+j))).isSome=true):Wrote w (w.setCells b o (t.data.toList.map λx=>Value.int .u8 (x.toNat:Int))) b o (LF t):=by
 have d:(t.data.toList.map λx=>Value.int .u8 (x.toNat:Int)).length=t.size:=σ
 obtain⟨f,h,j⟩:=zO b (t.data.toList.map λx=>Value.int .u8 (x.toNat:Int)) o w;refine⟨f,h,j,SK _ _ _ _,λk m=>jo _ _ _ _ _ m,λi c=>?_,λx e=>?_,λa=>EO _ _ _ _ _⟩
 ·rw[MR]at c
  rw[JJ b _ o w (by rw[d];exact l) i (by rw[d];exact c)];have k:i<t.data.toList.length:=by simpa using c
  simp[LF,List.getD,AO k]
 rw[MR]at e
 exact ED b _ o w (yA b x) (λ_ _=>by rw[d];simpa using e)
theorem Fm.text(h:Fm w F xs)(aB e aA:TypeId)(j:P.underlying aB=some (.slice e))(d:P.underlying e=some (.int .u8))(c:P.underlying aA=some .string)(o n b:Nat)(k:o+n<=xs.length):(convert aB aA (yI (zY F o) n b)).run P w=.ok (yQ (strOfNums ((xs.drop o).take n))) w :=ES (P:=P) w aB e j d F o n b ((xs.drop o).take n) τ (λi f=>by
  rw[h.cell (o+i) ω]
  simp[List.getD,GL f,FC]) aA c
theorem Fm.step(h:Fm w F xs)(c:xs.length=64)(b:Wrote w w' F o ys)(d:o+ys.length<=64):∃aA,Hid (aA=PT xs o ys)/\aA.length=64/\Fm w' F aA :=⟨PT xs o ys,(rfl:PT xs o ys=PT xs o ys),by rw[jk _ _ _ ω,c],h.wrote b ω⟩
theorem Fm.range(h:Fm w F xs):w.rangeAt F 0 (xs.map (Value.int .u8)):=λj v hv=>by
 obtain⟨b,e⟩:=DI.1 hv;simp at b;rw[BK,h.cell j b];simp at e;subst e;simp[List.getD,AO b]
structure PI(W w:xV)(c0 c1 c2 c3:qD):Prop where
 size:W.heap.size+3<=w.heap.size
 bel:yX W w
 b0:w.cell? (yA W.heap.size 0)=some c0
 b1:w.cell? (yA W.heap.size 1)=some c1
 b2:w.cell? (yA W.heap.size 2)=some c2
 b3:w.cell? (yA W.heap.size 3)=some c3
 there:w.there (W.heap.size+1) 0 64
section
variable {W w w':xV} {c0 c1 c2 c3:qD}
theorem PI.drew(h:PI W w c0 c1 c2 c3):PI W w.drew c0 c1 c2 c3:=⟨h.size,h.bel.drew,h.b0,h.b1,h.b2,h.b3,h.there⟩
theorem PI.I(h:PI W w c0 c1 c2 c3)(b:yX w w'):PI W w' c0 c1 c2 c3 :=have d:=h.size
 ⟨AJ d b.size,h.bel.E (b.J ω),(b.cell (p:=⟨_,0,none⟩) (by show W.heap.size<_;omega)).E h.b0,(b.cell (p:=⟨_,1,none⟩) (by show W.heap.size<_;omega)).E h.b1,
  (b.cell (p:=⟨_,2,none⟩) (by show W.heap.size<_;omega)).E h.b2,(b.cell (p:=⟨_,3,none⟩) (by show W.heap.size<_;omega)).E h.b3,
  λj c=>by rw[b.cell (p:=⟨_,_,none⟩) (by show W.heap.size+1<_;omega),b.frozen (p:=⟨_,_,none⟩) (by show W.heap.size+1<_;omega)];exact h.there j c⟩
theorem PI.wrote(h:PI W w c0 c1 c2 c3)(e:Wrote w w' (W.heap.size+1+1) o ys):PI W w' c0 c1 c2 c3 :=have d:=h.size;have b:Below (W.heap.size+1+1) w w':=e.I (AA _)
 ⟨AJ d b.size,h.bel.E (b.J ω),(b.cell (p:=⟨_,0,none⟩) (by show W.heap.size<_;omega)).E h.b0,(b.cell (p:=⟨_,1,none⟩) (by show W.heap.size<_;omega)).E h.b1,
  (b.cell (p:=⟨_,2,none⟩) (by show W.heap.size<_;omega)).E h.b2,(b.cell (p:=⟨_,3,none⟩) (by show W.heap.size<_;omega)).E h.b3,
  λj c=>by rw[b.cell (p:=⟨_,_,none⟩) (by show W.heap.size+1<_;omega),b.frozen (p:=⟨_,_,none⟩) (by show W.heap.size+1<_;omega)];exact h.there j c⟩
theorem PI.toS(h:PI W w c0 c1 c2 c3):w.cell? (yA W.heap.size 0)=some c0/\w.cell? (yA W.heap.size 1)=some c1/\w.cell? (yA W.heap.size 2)=some c2/\w.cell? (yA W.heap.size 3)=some c3/\PI W w c0 c1 c2 c3:=⟨h.b0,h.b1,h.b2,h.b3,h⟩
theorem PI.ofS(h:w.cell? (yA W.heap.size 0)=some c0/\w.cell? (yA W.heap.size 1)=some c1/\w.cell? (yA W.heap.size 2)=some c2/\w.cell? (yA W.heap.size 3)=some c3/\PI W w c0 c1 c2 c3):PI W w c0 c1 c2 c3:=h.2.2.2.2
end
theorem XP(w:xV)(b o:Nat)(h:w.heap.size<=b):w.frozen? (yA b o)=false:=by
 have e:w.heap[b]?=none:=by simp[h]
 simp[World.frozen?,e]
theorem J1{c:Code}(w:xV)(b d e f:qD)(l m p:TypeId)(A B:Array qD)(q:A=Array.replicate 64 (.int .u8 0))(r:B=Array.replicate 64 (.int .u8 0))
  (h:∀i,PI w i b d e f->Fm i (w.heap.size+1+1) (List.replicate 64 0)->c.wp P Q a i):c.wp P Q a (((w.alloc (.cells #[b,d,e,f] l)).alloc (.cells A m)).alloc (.cells B p)):=by
 subst q r
 have aA:∀(i:Nat) {v:qD},#[b,d,e,f][i]?=some v->(((w.alloc (.cells #[b,d,e,f] l)).alloc (.cells (Array.replicate 64 (.int .u8 0)) m)).alloc (.cells (Array.replicate 64 (.int .u8 0)) p)).cell? (yA w.heap.size i)=some v:=λi v hv=>by
  rw[FD _ _ _ τ,FD _ _ _ σ,EH _ _ _ _ rfl];exact hv
 refine h _ ⟨σ,((LG _ _).alloc σ _).alloc τ _,aA _ rfl,aA _ rfl,aA _ rfl,aA _ rfl,λj s=>?_⟩ ⟨λi k=>?_,λi k=>?_⟩
 ·rw[BK,FD _ _ _ σ,EH _ _ _ _ σ,EA,EA,EA]
  simp[s,XP]
 ·rw[EH _ _ _ _ σ]
  have aB:i<64:=by simpa only[DU] using k
  rw[Array.getElem?_replicate,AI aB,BF,EN,AI aB];rfl
 rw[EA,EA,EA]
 exact XP _ _ _ ω
theorem yV{p:Tmp}{e:TypeId}(h:fn.results=#[.cell p e])(c:Array qD)(w:xV)(b o:Nat)(f:c.getD p undef=zW b o)
  (cs:List qD)(d:TypeDesc)(i:w.rangeAt b o cs)(m:P.underlying e=some d)(j:d.isRow=true)(k:(P.info? e).map (·.size)=some cs.length):(results fn c).run P w=.ok (.agg cs.toArray) w:=by
 have l:=JE (P:=P) w b o e cs d i m j k;simp only[results,h];rw[Array.getD_eq_getD_getElem?]at f;simp[f,asAddr,l]
theorem VQ(xs:List Int):∀v∈xs.map (Value.int .u8),v.oneCell'=true:=λv hv=>by
 obtain⟨x,_,rfl⟩:=DT.1 hv;rfl
theorem Ke(xs ys:List Int)(n:Nat)(b:ys.length=n):(PT xs 0 ys).drop n=xs.drop n:=by
 unfold PT;rw[FV,EK,BK,<-b,List.drop_left]
theorem Fm.isSome(h:Fm w F xs)(o m:Nat)(c:o+m<=xs.length):∀j,j<m->(w.cell? (yA F (o+j))).isSome=true:=λj b=>by
 rw[h.cell (o+j) ω];rfl
theorem Fm.frozen(h:Fm w F xs)(o m:Nat)(c:o+m<=xs.length):∀j,j<m->w.frozen? (yA F (o+j))=false:=λj b=>h.froz (o+j) ω
theorem Fm.copied(h:Fm w F xs)(o:Nat)(t:yZ)(b:o+t.size<=xs.length):Wrote w (w.setCells F o (t.data.toList.map λx=>Value.int .u8 (x.toNat:Int))) F o (LF t) :=uJ w F o t (h.isSome o t.size b)
theorem jj(A ys:List Int)(j o:Nat)(b:A.length=o):PT (A++List.replicate j 0) o ys=A++ys++List.replicate (j-ys.length) 0:=by
 unfold PT;rw[JW ω,AR ω,<-b,List.drop_length_add_append,List.drop_replicate]
theorem Ac(k l m:Int)(p:yZ)(n:Nat)(h:n<=64){aA aB b c d e:List Int}(t:aA=List.replicate 64 0)(f:aB=PT aA n (be 1 k))(i:b=PT aB (n+1) (be 2 l))(j:c=PT b (n+3) (be 4 m))
  (q:d=PT c (n+7) (be 1 (p.size:Int)))(r:e=PT d (n+8) (LF p)):e=List.replicate n 0++VX k l m p n:=by
 have s:aA=List.replicate n 0++List.replicate (64-n) 0:=by rw[t,List.replicate_append_replicate];congr 1;omega
 rw[s,jj _ _ _ n σ]at f;rw[f,jj _ _ _ (n+1) (by simp[PA])]at i;rw[i,jj _ _ _ (n+3) (by simp[PA])]at j;rw[j,jj _ _ _ (n+7) (by simp[PA])]at q;rw[q]at r;rw[r,jj _ _ _ (n+8) (by simp[PA])];unfold VX WL;simp only[BV,PA,MR]
 congr 7
 omega
theorem oB(a b:yZ):LF (a++b)=LF a++LF b:=by simp[LF]
theorem Dz(xs:List Int)(h:∀x∈xs,0<=x/\x<256):LF (strOfNums xs)=xs:=by
 unfold LF;rw[strOfNums_data,IM]
 conv=>rhs;rw[<-List.map_id xs]
 apply IG
 intro x b;have:=h x b;simp only[Function.comp,id];rw[UInt8.toNat_ofNat'];omega
theorem lk(n:Nat)(v:Int):∀x∈be n v,0<=x/\x<256:=λx b=>by
 unfold be at b;obtain⟨i,_,rfl⟩:=DT.1 b;omega
theorem Ge(p:yZ):∀x∈LF p,0<=x/\x<256:=λx b=>by
 unfold LF at b;obtain⟨c,_,rfl⟩:=DT.1 b;have:=c.toNat_lt;omega
theorem Cc(k l m:Int)(p:yZ)(n:Nat):∀x∈VX k l m p n,0<=x/\x<256:=λx b=>by
 unfold VX WL at b;simp only[BZ,List.mem_replicate]at b;rcases b with ((((h|h)|h)|h)|h)|h
 ·exact lk _ _ x h
 ·exact lk _ _ x h
 ·exact lk _ _ x h
 ·exact lk _ _ x h
 ·exact Ge _ x h
 omega
theorem Cv(k l m:Int)(p:yZ)(n:Nat)(h:p.size+n<=56){aA:List Int}{b:yZ}{M:Nat}(f:M=64-n)(d:aA=List.replicate n 0++VX k l m p n)(e:b=strOfNums ((aA.drop n).take M)):b=strOfNums (VX k l m p n)/\PT aA 0 (LF (TT b n))=LF (TX k l m p n):=by
 have i:=t7 k l m p n h
 have c:b=strOfNums (VX k l m p n):=by
  rw[e,d,KA σ,AR ω]
 refine⟨c,?_⟩;unfold PT TX;rw[<-c,oB,MR,mh,d,FV,EK,BK,KA σ]
 congr 1
 rw[c,Dz _ (Cc k l m p n)]
theorem Gw(w:xV)(A:Array qD)(t:TypeId)(n:Nat)(v:qD)(b:A=Array.replicate n v):(w.alloc (.cells A t)).there w.heap.size 0 n:=λj c=>by
 subst b;rw[BK,EH _ _ _ _ rfl,EA];exact⟨by simp[c],XP _ _ _ (AA _)⟩
theorem ui{e:Array Oper}(f:op.guard=none)(d:TypeId)(x y:Operand)(k:op.op=.store d x y)
  (xs:List Int)(m:a.eval x=zW w.heap.size 0)(p:a.eval y=.agg (xs.map (Value.int .u8)).toArray)(A:Array qD)(t:TypeId)(v:qD)(j:A=Array.replicate xs.length v)
  (b:(P.info? d).map (·.size)=some xs.length)
  (h:∀c,Fm c w.heap.size xs->yX w c->c.heap.size=w.heap.size+1->wpList P e Q aA (a.put op.dst undef) c):wpList P e Q (op::aA) a (w.alloc (.cells A t)):=by
 have aB:=Gw w A t xs.length v j;have c:(xs.map (Value.int .u8)).toArray.size=xs.length:=σ
 refine BU f d x y k w.heap.size 0 _ m p (by rw[c];exact aB) (by rw[c];exact b) (GH (VQ xs)) ?_;have l:=EE (w.alloc (.cells A t)) w.heap.size 0 (xs.map (Value.int .u8)) (by rw[BO];exact aB);refine h _ ⟨λi b=>?_,λi b=>?_⟩ (Go.below_setCells (AA _) _ _ _ (LG _ _)) (by rw[SK];simp)
 ·have:=l i (.int .u8 (xs.getD i 0)) (by simp[List.getD,AO b])
  simpa using this
 rw[EO,EA];exact XP _ _ _ (AA _)
end
set_option maxRecDepth 4000 in
theorem qA(k l m:Int)(p:yZ)(n:Nat)(w:xV)(B:NC k l m p n=true):Calls prog 238 #[ND k l m p,Z (n:Int)] w λe w'=>e=yT (.agg ((LF (TX k l m p n)).map (Value.int .u8)).toArray)/\yX w w':=by
 have I:=AW (by unfold NC at B;exact B);obtain⟨eB,eE,dP,dQ,dR,dU,dV,dZ,E,_⟩:=I
 have C:=λc=>ox (P:=prog) (t:=143) underlying143 (λ_=>κ) (w.heap.size+1+1) 0 n ω .i64 (n:Int) rfl c
 rw[BK]at C;obtain⟨M,q⟩:∃M,Hid (M=64-n):=⟨64-n,QB rfl⟩;rw[<-q.j]at C;have Y:(56:Int)<=(M:Int):=by have:=q.j;omega
 have cX:(M:Int)<=63:=by have:=q.j;omega
 have cZ:(1:Int)<=(M:Int):=ω
 have dB:(3:Int)<=(M:Int):=ω
 have dF:(7:Int)<=(M:Int):=ω
 have dH:(8:Int)<=(M:Int):=ω
 have eG:IntKind.u64.wrap k=k:=XU k ω ω;have eH:IntKind.u64.wrap l=l:=XU l ω ω;have eI:IntKind.u64.wrap m=m:=XU m ω ω;have eJ:IntKind.u64.wrap (p.size:Int)=(p.size:Int):=XU _ ω ω;have dL:¬(M=1):=ω
 have dM:¬(M=3):=ω
 have dN:¬(M=7):=ω
 go_enter func238,ntmps238;go_wp2_with fail;refine J1 w (Z k) (Z l) (Z m) (yQ p) _ _ _ _ _ rfl rfl ?_;intro wa i b;have d:(List.replicate 64 (0:Int)).length=64:=σ
 obtain⟨D,A⟩:∃D,Hid (D=List.replicate 64 (0:Int)):=⟨_,QB rfl⟩;rw[<-A.j]at b d;have f:=b;have h:=i;clear b i;have s:=QB h.toS;clear h
 go_region_held3 (λw'=>w'.cell? (yA w.heap.size 0)=some (Z k)/\w'.cell? (yA w.heap.size 1)=some (Z l)/\w'.cell? (yA w.heap.size 2)=some (Z m)/\w'.cell? (yA w.heap.size 3)=some (yQ p)/\PI w w' (Z k) (Z l) (Z m) (yQ p))
  (first|assumption|exact(PI.ofS s.j).drew.toS|exact(PI.wrote (PI.ofS (by assumption)) (by assumption)).toS)
  (first|(go_at_call 282;refine(bp (w.heap.size+1+1) n 1 M k _ ω ω ω (λi b=>⟨_,f.drew.cell (n+i) (by rw[d];omega)⟩) (λi b=>f.drew.froz (n+i) (by rw[d];omega))).J ?_;rintro e W ⟨rfl,t⟩))
 have r:PI w W (Z k) (Z l) (Z m) (yQ p):=PI.ofS (by assumption);obtain⟨eK,J,j,h⟩:=f.drew.step d t (by rw[PA];omega);clear s t f d;go_wp2_with fail;have s:=QB r.toS;clear r
 go_region_held3 (λw'=>w'.cell? (yA w.heap.size 0)=some (Z k)/\w'.cell? (yA w.heap.size 1)=some (Z l)/\w'.cell? (yA w.heap.size 2)=some (Z m)/\w'.cell? (yA w.heap.size 3)=some (yQ p)/\PI w w' (Z k) (Z l) (Z m) (yQ p))
  (first|assumption|exact(PI.ofS s.j).drew.toS|exact(PI.wrote (PI.ofS (by assumption)) (by assumption)).toS)
  (first|(go_at_call 282;refine(bp (w.heap.size+1+1) (n+1) 2 (M-1) l _ ω ω ω (λi b=>⟨_,h.drew.cell (n+1+i) (by rw[j];omega)⟩) (λi b=>h.drew.froz (n+1+i) (by rw[j];omega))).J ?_;rintro e wc ⟨rfl,t⟩))
 have f:PI w wc (Z k) (Z l) (Z m) (yQ p):=PI.ofS (by assumption);obtain⟨eL,K,r,d⟩:=h.drew.step j t (by rw[PA];omega);clear s t h j;go_wp2_with fail;have s:=QB f.toS;clear f
 go_region_held3 (λw'=>w'.cell? (yA w.heap.size 0)=some (Z k)/\w'.cell? (yA w.heap.size 1)=some (Z l)/\w'.cell? (yA w.heap.size 2)=some (Z m)/\w'.cell? (yA w.heap.size 3)=some (yQ p)/\PI w w' (Z k) (Z l) (Z m) (yQ p))
  (first|assumption|exact(PI.ofS s.j).drew.toS|exact(PI.wrote (PI.ofS (by assumption)) (by assumption)).toS)
  (first|(go_at_call 282;refine(bp (w.heap.size+1+1) (n+3) 4 (M-3) m _ ω ω ω (λi b=>⟨_,d.drew.cell (n+3+i) (by rw[r];omega)⟩) (λi b=>d.drew.froz (n+3+i) (by rw[r];omega))).J ?_;rintro e X ⟨rfl,t⟩))
 have j:PI w X (Z k) (Z l) (Z m) (yQ p):=PI.ofS (by assumption);obtain⟨eM,L,h,f⟩:=d.drew.step r t (by rw[PA];omega);clear s t d r;go_wp2_with fail;have r:=QB j.toS;clear j
 go_region_held3 (λw'=>w'.cell? (yA w.heap.size 0)=some (Z k)/\w'.cell? (yA w.heap.size 1)=some (Z l)/\w'.cell? (yA w.heap.size 2)=some (Z m)/\w'.cell? (yA w.heap.size 3)=some (yQ p)/\PI w w' (Z k) (Z l) (Z m) (yQ p))
  (first|assumption|exact(PI.ofS r.j).drew.toS|exact(PI.wrote (PI.ofS (by assumption)) (by assumption)).toS)
  (first|(go_at_call 282;refine(bp (w.heap.size+1+1) (n+7) 1 (M-7) (p.size:Int) _ ω ω ω (λi b=>⟨_,f.drew.cell (n+7+i) (by rw[h];omega)⟩) (λi b=>f.drew.froz (n+7+i) (by rw[h];omega))).J ?_;rintro e G ⟨rfl,s⟩))
 have j:PI w G (Z k) (Z l) (Z m) (yQ p):=PI.ofS (by assumption);obtain⟨eO,O,d,b⟩:=f.drew.step h s (by rw[PA];omega);clear r s f h;go_wp2_with fail;have cY:¬(M=8):=ω
 have U:p.size<=M-8:=by have:=q.j;omega
 have i:=QB (b.drew.copied (n+8) p (by rw[d];omega));have r:=QB (b.drew.isSome (n+8) p.size (by rw[d];omega));have u:=QB (b.drew.frozen (n+8) p.size (by rw[d];omega));have h:=QB j.toS;clear j
 go_region_held3 (λw'=>w'.cell? (yA w.heap.size 0)=some (Z k)/\w'.cell? (yA w.heap.size 1)=some (Z l)/\w'.cell? (yA w.heap.size 2)=some (Z m)/\w'.cell? (yA w.heap.size 3)=some (yQ p)/\PI w w' (Z k) (Z l) (Z m) (yQ p))
  (first|assumption|exact(PI.ofS h.j).drew.toS|exact(PI.wrote (PI.ofS h.j).drew i.j).toS)
  (first|(refine step_copy_string ρ _ _ _ _ ρ 5 underlying24 (λ_=>κ) (w.heap.size+1+1) (n+8) (M-8) (M-8) ρ p ρ U r.j u.j ?_))
 have f:=PI.wrote (PI.ofS h.j).drew i.j;obtain⟨s,R,aA,t⟩:=b.drew.step d i.j (by rw[MR];omega);clear h i r u b d;obtain⟨u,b⟩:∃u,u=G.drew.setCells (w.heap.size+1+1) (n+8) (List.map (λx=>Value.int IntKind.u8 (x.toNat:Int)) p.data.toList):=⟨_,rfl⟩;rw[<-b]at t f⊢;clear b;go_wp2_with fail
 have eF:=λc=>sb (P:=prog) (t:=143) underlying143 (λ_=>κ) (w.heap.size+1+1) 0 n ω ω .i64 (n:Int) rfl c
 obtain⟨b,v⟩:∃b,Hid (b=strOfNums ((s.drop n).take M)):=⟨_,QB rfl⟩;have T:b.size=M:=by rw[v.j,CY,AX,BQ,aA];have:=q.j;omega
 have hF:w.heap.size+1+1<u.drew.heap.size:=by have:=f.size;show _<u.heap.size;omega
 have y:∀(c:xV) (xs:List Int),xs.length=64->(xs.drop n).take M=(s.drop n).take M->Fm c (w.heap.size+1+1) xs->PI w c (Z k) (Z l) (Z m) (yQ p) ->
   (convert 24 9 (yI (zY (w.heap.size+1+1) n) M M)).run prog c=.ok (yQ b) c/\c.there (w.heap.size+1+1) 0 64/\PI w c (Z k) (Z l) (Z m) (yQ p):=λc xs h i d E=>by
  refine⟨?_,λj h=>⟨?_,?_⟩,E⟩
  ·rw[d.text 24 5 9 underlying24 underlying5 underlying9 n M M (by have:=q.j;omega),i,v.j]
  ·exact d.isSome 0 64 ω j h
  exact d.frozen 0 64 ω j h
 have r:=QB y;have d:=QB t;have i:=QB f;clear y t f;have f:(TT b n).size=n:=mh _ _
 go_region_held3 (λw'=>(convert 24 9 (yI (zY (w.heap.size+1+1) n) M M)).run prog w'=.ok (yQ b) w'/\w'.there (w.heap.size+1+1) 0 64/\PI w w' (Z k) (Z l) (Z m) (yQ p))
  (first|assumption|exact r.j _ s aA rfl d.j.drew i.j.drew|exact r.j _ s aA rfl (d.j.drew.I aB hF) (i.j.drew.I aB)|exact r.j _ _ (by rw[jk _ _ _ (by rw[MR,f];omega)];exact aA) (by rw[Ke _ _ n (by rw[MR,f])]) ((d.j.drew.I aB hF).wrote ((d.j.drew.I aB hF).copied 0 (TT b n) (by rw[f];omega)) (by rw[MR,f];omega)) (PI.wrote (i.j.drew.I aB) ((d.j.drew.I aB hF).copied 0 (TT b n) (by rw[f];omega))))
  (first|(go_at_call 283;refine(Mo b _ n (by rw[T];omega) ω ω).J ?_;rintro e y ⟨rfl,aB⟩)|(refine step_copy_string ρ _ _ _ _ ρ 5 underlying24 (λ_=>κ) (w.heap.size+1+1) 0 n 64 ρ (TT b n) ρ (by rw[f];omega) (λj h=>((r.j _ s aA rfl (d.j.drew.I aB hF) (i.j.drew.I aB)).2.1 j (by rw[f]at h;omega)).1) (λj h=>((r.j _ s aA rfl (d.j.drew.I aB hF) (i.j.drew.I aB)).2.1 j (by rw[f]at h;omega)).2) ?_))
 have y:=(d.j.drew.I aB hF).copied 0 (TT b n) (by rw[f];omega);have t:=PI.wrote (i.j.drew.I aB) y;obtain⟨h,S,j,z⟩:=(d.j.drew.I aB hF).step aA y (by rw[MR,f];omega)
 have H:Hid (h=LF (TX k l m p n)):=by
  have V:=Ac k l m p n ω A.j J.j K.j L.j O.j R.j;show h=_;rw[S.j,(Cv k l m p n ω q.j V v.j).2]
 clear y d i r aB hF;obtain⟨i,d⟩:∃i,i=y.setCells (w.heap.size+1+1) 0 (List.map (λx=>Value.int IntKind.u8 (x.toNat:Int)) (TT b n).data.toList):=⟨_,rfl⟩;rw[<-d]at z t⊢;clear d;have d:(h.map (Value.int .u8)).toArray.size=64:=by simp[j]
 go_wp2_with (first
  | (refine AZ rfl 143 _ rfl (w.heap.size+1+1) 0 rfl (h.map (Value.int .u8)) _ z.range underlying143 rfl (by rw[BO,j];kernel_rfl) ?_)
  | (refine BU rfl 143 _ _ rfl (w.heap.size+1) 0 (h.map (Value.int .u8)).toArray rfl rfl (by rw[d];exact t.there) (by rw[d];kernel_rfl) (GH (VQ h)) ?_))
 refine AE (v:=.agg (h.map (Value.int .u8)).toArray) (yV (p:=4) results238 _ _ (w.heap.size+1) 0 rfl (h.map (Value.int .u8)) _ (EE _ _ _ _ (by rw[BO,j];exact t.there)) underlying143 rfl (by rw[BO,j];kernel_rfl)) rfl ⟨by rw[H.j],?_⟩;exact below_setCells ω _ _ _ t.bel
def MJ(k l m:Int)(p:yZ)(n:Int):yZ:=if NC k l m p n=true then TX k l m p n.toNat else empty
theorem au(k l m:Int)(p:yZ)(n:Int)(w:xV)(c:p.size<=1048576):Calls prog 129 #[ND k l m p,Z n] w λe w'=>e=yT (yQ (MJ k l m p n))/\yX w w':=by
 unfold MJ
 cases h:NC k l m p n with
 | true =>
  have b:=AW (by unfold NC at h;exact h);have d:1<=n:=b.1;obtain⟨j,rfl⟩:∃j:Nat,n=(j:Int):=⟨n.toNat,ω⟩;rw[AI rfl,DS];exact Jf k l m p j w h
 | false=>rw[AF σ];exact Gn k l m p n w c h
def XT(s:yZ)(l f:Int)(n m N i:Nat):yZ:=MJ (if i+1=N then 2 else 1) l (f+(i:Int)) (s.extract (i*m) (i*m+m)) (n:Int)
def ru(l f:Int)(N:Nat):Bool:=decide (1<=l/\l<=60000/\1<=f/\f+(N:Int)<=1000000001)
def UD(s:yZ)(l f:Int)(n m N k:Nat):List yZ:=(List.range k).map (XT s l f n m N)
theorem ti(s:yZ)(l f:Int)(n m N k:Nat):UD s l f n m N (k+1)=UD s l f n m N k++[XT s l f n m N k]:=by simp[UD,GW]
theorem pn(s:yZ)(l f:Int)(n m N k:Nat):(UD s l f n m N k).length=k:=by simp[UD]
def OC(s:yZ)(l f:Int)(n m:Nat):List yZ:=if ru l f (PX s.size m)=true then UD s l f n m (PX s.size m) (PX s.size m) else []
theorem pY(l m:Nat):PX l m<=l+1:=by
 unfold PX
 split
 ·omega
 have:=KX (l-1) m;omega
theorem tY(l m:Nat):0<PX l m:=by
 unfold PX
 split
 ·omega
 exact Nat.succ_pos _
theorem Ew(l m k:Nat)(d:0<m)(b:k<PX l m):l<=(k+1)*m<->k+1=PX l m:=by
 unfold PX at b⊢
 by_cases c:l=0
 ·rw[AI c]at b⊢
  omega
 rw[AF c]at b⊢
 constructor
 ·intro h
  have:(l-1) / m<k+1:=(KY d).2 ω;omega
 intro h
 have e:(l-1) / m<k+1:=ω
 have:=(KY d).1 e;omega
theorem Iq(s:yZ)(a m:Nat):(s.extract a (a+m)).size<=m:=by simp only[AQ];omega
theorem pw{s:yZ}{l f:Int}{m:Nat}(b:N=PX s.size m)(h:1<=l/\l<=60000/\1<=f/\f+(N:Int)<=1000000001):OC s l f n m=UD s l f n m N N:=by
 unfold OC ru;rw[<-b,AI (by simpa using h)]
theorem ZF{s:yZ}{l f:Int}{m:Nat}(b:N=PX s.size m)(h:¬(1<=l/\l<=60000/\1<=f/\f+(N:Int)<=1000000001)):OC s l f n m=[]:=by
 unfold OC ru;rw[<-b,AF (by simpa using h)]
def qg(w w':xV)(e:Ending)(b:List yZ):Prop:=∃a c,e=yT (yI a b.length c)/\OwnS w' a (b.map Value.string)/\(∀g,blk a b.length=some g->w.heap.size<=g)/\yX w w'
theorem ia{v:qD}{a:xA}{c:Nat}(hv:v=yI a 0 c)(b:yX w w'):qg w w' (yT v) []:=⟨a,c,by rw[hv];rfl,.inl rfl,λg h=>(by cases h),b⟩
theorem pN{v:qD}{k:Nat}{e:TypeId}{b:List yZ}(h:w'.ownsRow w.heap.size e 1 v k (b.map Value.string))(m:k=b.length)(j:yX w w'):qg w w' (yT v) b:=by
 rcases MC h with ⟨d,i⟩|⟨g,c,d,i,_,l⟩
 ·have:b=[]:=AD ω
  subst this;exact ia d j
 subst m
 refine⟨_,c,by rw[d],.inr ⟨g,rfl,l⟩,λf aA=>?_,j⟩
 by_cases f:b.length=0
 ·rw[f]at aA;cases aA
 rw[ML g 0 _ f]at aA;cases aA;exact i
set_option maxRecDepth 4000 in
theorem xG(s:yZ)(l f:Int)(n m:Nat)(w:xV)(hs:s.size<=1048576)(hm:n+m=56)(h1:1<=n)(h2:n<=8):Calls prog 138 #[yQ s,Z l,Z f,Z (n:Int)] w λe w'=>qg w w' e (OC s l f n m):=by
 have L:decide (1<=(n:Int)/\(n:Int)<=8)=true:=τ
 have K:∀o,yX w (w.alloc o):=λo=>LG _ _
 obtain⟨N,j⟩:∃N,Hid (N=PX s.size m):=⟨_,Y rfl⟩;have bR:N<=1048577:=by have:=pY s.size m;rw[j.j];omega
 have bQ:0<N:=by rw[j.j];exact tY _ _
 obtain⟨R,q⟩:∃R,Hid (R=OC s l f n m):=⟨_,Y rfl⟩;rw[<-q.j]
 by_cases bU:1<=l
 focus
  by_cases bV:l<=60000
  focus
   by_cases bW:1<=f
   focus
    by_cases bY:f<=1000000000
    ·by_cases bT:(N:Int)<=1000000000-f+1
     ·have t:Hid (R=UD s l f n m N N):=by show _=_;rw[q.j];exact pw j.j ω
      clear q;obtain⟨i0,b,c,d,h⟩:=info_parts tm;have S:=Y (AG b (AG c (AG d h)));clear b c d h;go_enter func138,ntmps138
      go_wp2_with (first|(go_at_call 24;refine(QH _ _).J ?_;rw[L];rintro e v ⟨rfl,rfl⟩)|(go_at_call 188;refine(vk s n m _ hs hm h1 h2).J ?_;rw[<-j.j];rintro e v ⟨g,c,rfl,hg,aB,b⟩;have aQ:=Y aB;clear aB))
      simp only[BE]at hg;have bG:yX w v:=(K _).E (b.J σ);have aM:v.ownsRow w.heap.size 9 1 (yI (zY w.heap.size 0) 0 0) 0 []:=LZ (DG w #[] 0 (AA _) σ σ) b;clear b;go_loopw [9,11,12] (λy i _ wr=>∃k:Nat,k<=N/\i=Z k/\wr.ownsRow w.heap.size 9 1 y k ((UD s l f n m N k).map Value.string)/\y.ownBlock≠some g/\Row wr g ((YI s m N).map Value.string)/\yX w wr) (λ_ i _ _=>N-(intOf i).toNat)
      case atStart =>
       exact⟨0,AL _,rfl,aM,by simp[Value.ownBlock];omega,aQ.j,bG⟩
      case round =>
       obtain⟨k,hk,rfl,D,V,aB,C⟩:=hrel
       by_cases bI:k<N
       ·have hc:=aB.cell k (yQ (s.extract (k*m) (k*m+m))) (by simp[YI,bI])
        obtain⟨p,G⟩:∃p,Hid (p=s.extract (k*m) (k*m+m)):=⟨_,Y rfl⟩;rw[<-G.j]at hc;have W:p.size<=1048576:=by rw[G.j];have:=Iq s (k*m) m;omega
        have bP:w.heap.size<=wr.heap.size:=C.size;have bH:=aB.lt;have HB:=Y C;have bF:=Y aB;have H:=Y D;clear C aB D;obtain⟨F,O⟩:∃F,Hid (F=XT s l f n m N k):=⟨_,Y rfl⟩;obtain⟨M,A⟩:∃M:Int,M=if k+1=N then 2 else 1:=⟨_,rfl⟩;have U:Hid (MJ M l (f+(k:Int)) p (n:Int)=F):=by show _=_;rw[O.j,G.j,A];rfl
        have x:∀(d:xV),yX wr d->∀(r:xV) (i b:Nat),r.ownsRow w.heap.size 9 1 (yI (zY i 0) (k+1) b) (k+1) ((UD s l f n m N k).map Value.string++[yQ F])->(d.alloc (.cells #[yQ F] 9)).grownBy r u9.ownBlock->(u9.ownBlock=some i\/i=d.heap.size+1)->(∃u:Nat,u<=N/\Z ((k:Int)+1)=Z u/\r.ownsRow w.heap.size 9 1 (yI (zY i 0) (k+1) b) u ((UD s l f n m N u).map Value.string)/\(yI (zY i 0) (k+1) b).ownBlock≠some g/\Row r g ((YI s m N).map Value.string)/\yX w r):=λd h r i b z y E=>by
         have X:=h.size;refine⟨k+1,ω,ν,?_,?_,?_,?_⟩
         ·rw[ti,DA,<-O.j];exact z
         ·rcases E with E|E
          ·intro u;exact V (E.E (by simpa[Value.ownBlock] using u))
          simp[Value.ownBlock];omega
         ·exact((bF.j.I h).alloc _).V y (λu=>V u.symm)
         exact fy ((HB.j.E (h.J bP)).alloc ω _) ((LZ H.j h).alloc _) y τ
        have T:=Y x;clear x
        by_cases z:k+1=N
        ·have hq:((k:Int) == (N:Int)-1)=true:=τ
         rw[AI z]at A;subst A;clear z
         go_wp2_with (first|(go_at_call 129;refine(au 2 l (f+(k:Int)) p (n:Int) _ W).J ?_;rw[U.j];rintro e d ⟨rfl,h⟩;have X:=h.size;have J:=Y ((LZ H.j h).alloc (.cells #[yQ F] 9)))|(at_builtin;refine QS _ rfl _ _ 27 rfl w.heap.size underlying27 S.j rfl ω _ k _ rfl J.j (yA d.heap.size 0) 1 1 [yQ F] rfl rfl (World.news_of_block (AU d _)) (by intro u B;simp at B;subst B;rfl) τ (d.heap.size+1) σ ?_;intro i b r x aA y aS;have I:=Y (T.j d h r i b x aA y);clear x aA y))
         exact⟨I.j,by simp[intOf];omega⟩
        have hq:((k:Int) == (N:Int)-1)=false:=τ
        rw[AF z]at A;subst A
        go_wp2_with (first|(go_at_call 129;refine(au 1 l (f+(k:Int)) p (n:Int) _ W).J ?_;rw[U.j];rintro e d ⟨rfl,h⟩;have X:=h.size;have J:=Y ((LZ H.j h).alloc (.cells #[yQ F] 9)))|(at_builtin;refine QS _ rfl _ _ 27 rfl w.heap.size underlying27 S.j rfl ω _ k _ rfl J.j (yA d.heap.size 0) 1 1 [yQ F] rfl rfl (World.news_of_block (AU d _)) (by intro u B;simp at B;subst B;rfl) τ (d.heap.size+1) σ ?_;intro i b r x aA y aS;have I:=Y (T.j d h r i b x aA y);clear x aA y))
        exact⟨I.j,by simp[intOf];omega⟩
       have z:k=N:=ω
       subst z;have b:=Y D;clear D aB;go_wp2;go_ret;rw[t.j];exact pN b.j (pn _ _ _ _ _ _ _).symm C
     have t:Hid (R=[]):=by show _=_;rw[q.j];exact ZF j.j ω
     clear q;go_enter func138,ntmps138
     go_wp2_with (first|(go_at_call 24;refine(QH _ _).J ?_;rw[L];rintro e v ⟨rfl,rfl⟩)|(go_at_call 188;refine(vk s n m _ hs hm h1 h2).J ?_;rw[<-j.j];rintro e v ⟨g,c,rfl,hg,aB,b⟩;clear aB))
     go_ret;rw[t.j];exact ia rfl ((K _).E (b.J σ))
    focus
     have t:Hid (R=[]):=by show _=_;rw[q.j];exact ZF j.j ω
    rotate_left
   rotate_left
   focus
    have t:Hid (R=[]):=by show _=_;rw[q.j];exact ZF j.j ω
   rotate_left
  rotate_left 2
  focus
   have t:Hid (R=[]):=by show _=_;rw[q.j];exact ZF j.j ω
  rotate_left
 rotate_left 3
 focus
  have t:Hid (R=[]):=by show _=_;rw[q.j];exact ZF j.j ω
 rotate_left
 all_goals
  clear q;go_enter func138,ntmps138
  go_wp2_with (first|(go_at_call 24;refine(QH _ _).J ?_;rw[L];rintro e v ⟨rfl,rfl⟩))
  go_ret;rw[t.j];exact ia rfl (K _)
theorem Di(k l m:Int)(p:yZ)(n:Int)(w:xV)(b:p.size<=1048576)(aB:NC k l m p n=false):Calls prog 276 #[ND k l m p,Z n] w λe w'=>e=yT (yQ empty)/\yX w w':=by
 go_enter func276,ntmps276;go_wp2_with (go_at_call 237;refine(lj k l m p n _ b).J ?_;rw[aB];rintro e c ⟨rfl,aA⟩);go_ret;exact⟨rfl,(LG _ _).E (aA.J σ)⟩
set_option maxRecDepth 4000 in
theorem Cw(k l m:Int)(p:yZ)(n:Nat)(w:xV)(aA:NC k l m p n=true):Calls prog 276 #[ND k l m p,Z (n:Int)] w λe w'=>e=yT (yQ (TX k l m p n))/\yX w w':=by
 have h:=AW (by unfold NC at aA;exact aA);obtain⟨y,z,r,s,t,u,v,x,A,_⟩:=h;go_enter func276,ntmps276;go_wp2_with (go_at_call 237;refine(lj k l m p n _ ω).J ?_;rw[aA];rintro e B ⟨rfl,b⟩;obtain⟨q,c,d,f,i,aB⟩:=da (W:=w) (v0:=Z k) (v1:=Z l) (v2:=Z m) (v3:=yQ p) b ⟨σ,σ,σ,σ,σ,LG _ _⟩;clear b);refine(qA k l m p n _ aA).J ?_;rintro e C ⟨rfl,b⟩;clear q c d f i;have d:=aB.E (b.J aB.size);clear aB b;obtain⟨xs,b⟩:∃xs,Hid (xs=LF (TX k l m p n)):=⟨_,QB rfl⟩;have c:xs.length=64:=by rw[b.j,MR];exact cz k l m p n ω
 have q:(xs.map (Value.int .u8)).toArray.size=64:=by simp[c]
 rw[<-b.j];go_wp2_with (refine ui rfl 143 _ _ rfl xs rfl rfl _ _ (.int .u8 0) (by rw[c];rfl) (by rw[c];kernel_rfl) ?_;intro D f i _;have j:=f.text (P:=prog) 24 5 9 underlying24 underlying5 underlying9 0 64 64 ω;rw[FH,AR ω]at j;clear f);go_ret;refine⟨rj ?_,d.E (i.J d.size)⟩;rw[b.j,UA]
theorem fe(k l m:Int)(p:yZ)(n:Int)(w:xV)(c:p.size<=1048576):Calls prog 276 #[ND k l m p,Z n] w λe w'=>e=yT (yQ (MJ k l m p n))/\yX w w':=by
 unfold MJ
 cases h:NC k l m p n with
 | true =>
  have b:=AW (by unfold NC at h;exact h);have d:1<=n:=b.1;obtain⟨j,rfl⟩:∃j:Nat,n=(j:Int):=⟨n.toNat,ω⟩;rw[AI rfl,DS];exact Cw k l m p j w h
 | false=>rw[AF σ];exact Di k l m p n w c h
@[reducible] def NI(t h f l:Int):qD:=.agg #[Z t,Z h,Z f,Z l]
abbrev UT(h f:Int):Prop:=0<=h/\h<=1/\1<=f/\f<=999999000
def WI(h f:Int):yZ:=strOfNums (be 1 h)++strOfNums (be 4 f)
def OS(t h f l n:Int):yZ:=if UT h f then MJ 4 l t (WI h f) n else empty
theorem vy(h:Int)(w:xV):Calls prog 249 #[Z h] w λe w'=>e=yT (yR (decide (0<=h/\h<=1)))/\w'=w:=by
 have d:decide (0<=h/\h<=1)=(decide (h=0) || decide (h=1)):=by rw[JB];simp;omega
 rw[d];go_enter func249,ntmps249
 by_cases b:h=0
 ·subst b;go_wp2;go_ret;exact⟨rfl,rfl⟩
 by_cases c:h=1
 ·subst c;go_wp2;go_ret;exact⟨rfl,rfl⟩
 go_wp2;go_ret;simp[b,c]
theorem oO(f:Int)(w:xV):Calls prog 250 #[Z f] w λe w'=>e=yT (yR (decide (1<=f/\f<=999999000)))/\w'=w:=by
 go_enter func250,ntmps250
 by_cases b:1<=f<;>by_cases c:f<=999999000<;>(go_wp2;go_ret;simp[b,c])
theorem H5(t h f l n:Int)(w:xV)(aA:¬UT h f):Calls prog 183 #[NI t h f l,Z n] w λe w'=>e=yT (yQ empty)/\yX w w':=by
 have aB:∀o,yX w (w.alloc o):=λo=>LG _ _
 unfold UT at aA;go_enter func183,ntmps183
 by_cases b:0<=h<;>by_cases c:h<=1<;>by_cases d:1<=f<;>by_cases e:f<=999999000<;>first|(exfalso;omega)|(clear aA;go_wp2;go_ret;exact⟨rfl,aB _⟩)
theorem Ny(t h f l n:Int)(w:xV)(q:UT h f):Calls prog 183 #[NI t h f l,Z n] w λe w'=>e=yT (yQ (MJ 4 l t (WI h f) n))/\yX w w':=by
 obtain⟨x,y,z,C⟩:=q;obtain⟨A,c⟩:∃A,strOfNums (be 1 h)=A:=⟨_,rfl⟩;obtain⟨B,d⟩:∃B,strOfNums (be 4 f)=B:=⟨_,rfl⟩;have H:A.size=1:=by rw[<-c,CY,PA]
 have I:B.size=4:=by rw[<-d,CY,PA]
 have k:Hid (WI h f=A++B):=by show _=_;unfold WI;rw[c,d]
 have aA:=λi=>eg h 1 1 rfl i ω ω ω
 have aB:=λi=>eg f 4 4 rfl i ω ω ω
 simp only[c]at aA;simp only[d]at aB;rw[k.j];have r:(A++B).size<=1048576:=by simp only[BW];omega
 go_enter func183,ntmps183;go_wp2_with fail;have j:w.heap.size<(w.alloc (.cells #[Z t,Z h,Z f,Z l] 34)).heap.size/\(w.alloc (.cells #[Z t,Z h,Z f,Z l] 34)).cell? (yA w.heap.size 0)=some (Z t)/\(w.alloc (.cells #[Z t,Z h,Z f,Z l] 34)).cell? (yA w.heap.size 1)=some (Z h)/\(w.alloc (.cells #[Z t,Z h,Z f,Z l] 34)).cell? (yA w.heap.size 2)=some (Z f)/\(w.alloc (.cells #[Z t,Z h,Z f,Z l] 34)).cell? (yA w.heap.size 3)=some (Z l)/\yX w (w.alloc (.cells #[Z t,Z h,Z f,Z l] 34)):=⟨σ,σ,σ,σ,σ,LG _ _⟩;have m:=QB j;clear j
 go_region_held3 (λw'=>w.heap.size<w'.heap.size/\w'.cell? (yA w.heap.size 0)=some (Z t)/\w'.cell? (yA w.heap.size 1)=some (Z h)/\w'.cell? (yA w.heap.size 2)=some (Z f)/\w'.cell? (yA w.heap.size 3)=some (Z l)/\yX w w')
  (first|assumption|exact da (below_drewN (AB _ _) 1) m.j|exact da (by assumption) (by assumption))
  (first|(go_at_call_of 185 h;refine(aA _).J ?_;rintro e D ⟨rfl,s⟩)|(go_at_call_of 185 f;refine(aB _).J ?_;rintro e E ⟨rfl,u⟩)|(go_at_call 129;refine(au 4 l t (A++B) n _ r).J ?_;rintro e G ⟨rfl,v⟩))
 rename_i b;have p:=b.2.2.2.2.2;clear b;go_wp2;go_ret;exact⟨rfl,p⟩
theorem uG(t h f l n:Int)(w:xV):Calls prog 183 #[NI t h f l,Z n] w λe w'=>e=yT (yQ (OS t h f l n))/\yX w w':=by
 unfold OS
 by_cases aA:UT h f
 ·rw[AI aA];exact Ny t h f l n w aA
 rw[AF aA];exact H5 t h f l n w aA
section
structure B4(w:xV)(B:Nat)(v0 v1 v2 v3:qD):Prop where
 lt:B<w.heap.size
 c0:w.cell? (yA B 0)=some v0
 c1:w.cell? (yA B 1)=some v1
 c2:w.cell? (yA B 2)=some v2
 c3:w.cell? (yA B 3)=some v3
 f0:w.frozen? (yA B 0)=false
 f1:w.frozen? (yA B 1)=false
 f2:w.frozen? (yA B 2)=false
 f3:w.frozen? (yA B 3)=false
section
variable {w w':xV} {B:Nat} {v0 v1 v2 v3:qD}
theorem B4.past(h:B4 w B v0 v1 v2 v3)(e:B<N)(d:Below N w w'):B4 w' B v0 v1 v2 v3:=by
 have b:∀i,w'.cell? (yA B i)=w.cell? (yA B i):=λi=>d.cell (p:=(yA B i)) e
 have c:∀i,w'.frozen? (yA B i)=w.frozen? (yA B i):=λi=>d.frozen (p:=(yA B i)) e
 exact⟨AC h.lt d.size,(b _).E h.c0,(b _).E h.c1,(b _).E h.c2,(b _).E h.c3,(c _).E h.f0,(c _).E h.f1,(c _).E h.f2,(c _).E h.f3⟩
theorem B4.I(h:B4 w B v0 v1 v2 v3)(b:yX w w'):B4 w' B v0 v1 v2 v3:=h.past h.lt b
theorem B4.drew(h:B4 w B v0 v1 v2 v3):B4 w.drew B v0 v1 v2 v3:=⟨h.lt,h.c0,h.c1,h.c2,h.c3,h.f0,h.f1,h.f2,h.f3⟩
theorem B4.alloc(h:B4 w B v0 v1 v2 v3)(o:Obj):B4 (w.alloc o) B v0 v1 v2 v3:=h.I (LG _ _)
theorem B4.new(w:xV)(v0 v1 v2 v3:qD)(t:TypeId):B4 (w.alloc (.cells #[v0,v1,v2,v3] t)) w.heap.size v0 v1 v2 v3:=by
 refine⟨σ,?_,?_,?_,?_,?_,?_,?_,?_⟩<;>first|(simp;done)|(rw[EA];exact XP _ _ _ (AA _))
end
section
variable {W w w':xV} {R B:Nat} {v0 v1 v2 v3 u0 u1 u2 u3:qD}
end
end
theorem YO(b:TypeId)(x:Operand)(c:op.op=.load b x)(h:wpList P aB Q (op::aA) a w):wpList P aB Q (op::aA) a w:=h
theorem WJ(b:TypeId)(x y:Operand)(c:op.op=.store b x y)(h:wpList P aB Q (op::aA) a w):wpList P aB Q (op::aA) a w:=h
theorem NZ(w:xV)(A:Array qD)(t:TypeId)(g:Nat)(b:g=w.heap.size):Row (w.alloc (.cells A t)) g A.toList:=by subst b;exact LS w A t
theorem Mw(d x:Operand)(b:Array TypeId)(c:op.op=.call { callee:=.builtin .copy,args:=#[d,x],argTypes:=b })(h:wpList P aB Q (op::aA) a w):wpList P aB Q (op::aA) a w:=h
theorem Cn{p:Array Oper}{m:List Oper}{o:Oper}(s:o.guard=none)(d x:Operand)(l r:TypeId)
  (u:o.op=.call { callee:=.builtin .copy,args:=#[d,x],argTypes:=#[l,r] })(aB:TypeId)(D:P.underlying l=some (.slice aB))(G:∀w,(Go.sizeOf aB).run P w=.ok 1 w)
  (g n c:Nat)(z:a.eval d=yI (zY g 0) n c)(t:yZ)(E:a.eval x=yQ t)(I:t.size=n)(cs:List qD)(aA:Row w g cs)(H:cs.length=n)
  (h:∀b,Row b g ((LF t).map (Value.int .u8))->w.grownBy b (some g)->b.heap.size=w.heap.size->wpList P p Q m (a.put o.dst (goInt t.size)) b):wpList P p Q (o::m) a w:=by
 have q:∀j,j<t.size->(w.cell? (yA g (0+j))).isSome=true:=λj f=>by
  rw[BK,aA.cell j _ (AO ω)];rfl
 have A:∀j,j<t.size->w.frozen? (yA g (0+j))=false:=λj f=>by rw[BK];exact aA.froz j ω
 have j:=run_copy_string (P:=P) w l r o.type aB g 0 n c t D G ω q A;have b:=uJ w g 0 t q
 refine ID s λK y=>?_
 unfold Oper.wp;simp[execOp,u,resolve,invoke,builtin,z,E,j,Result.andThen];refine y _ _ (h _ ⟨by rw[b.size];exact aA.lt,λi v hv=>?_,λi B=>?_⟩ ⟨b.os,b.tape,b.output,Nat.le_of_eq b.size.symm,λk _ C=>b.others k (λe=>C (by rw[e]))⟩ b.size)
 ·obtain⟨f,e⟩:=DI.1 hv
  simp at f;have:=b.inside i (by simpa[MR] using f);rw[BK]at this;rw[this];simp at e;subst e;simp[List.getD,AO f]
 rw[b.frozen];exact aA.froz i (by simp[MR]at B;omega)
theorem Row.range(h:Row w g cs):w.rangeAt g 0 cs:=λj v hv=>by rw[BK];exact h.cell j v hv
theorem Row.there(h:Row w g cs)(c:n=cs.length):w.there g 0 n:=λj b=>by
 rw[BK,h.cell j _ (AO ω)];exact⟨rfl,h.froz j ω⟩
def mc:Array qD:=Array.replicate 64 (.int .u8 0)
set_option maxRecDepth 4000 in
theorem im(t:yZ)(w:xV)(c:t.size=64):Calls prog 208 #[yQ t] w λe w'=>e=yT (.agg ((LF t).map (Value.int .u8)).toArray)/\yX w w':=by
 have b:(LF t).length=64:=by rw[MR,c]
 have aA:Hid ((prog.info? 143).map (·.size)=some ((LF t).map (Value.int .u8)).length):=by show _=_;rw[BO,b];kernel_rfl
 have d:((LF t).map (Value.int .u8)).toArray.size=64:=by simp[b]
 have h:=Y c;clear c;go_enter func208,ntmps208
 go_wp2_with (first|(with_reducible refine Mw _ _ _ rfl ?_;refine Cn rfl _ _ _ _ rfl 5 underlying24 (λ_=>κ) (w.heap.size+1) 64 64 rfl t rfl h.j _ (by exact NZ _ _ _ _ σ) κ ?_;intro l i aB j;have e:=(((LS w _ _).alloc _).V aB σ);have f:=Y (((LG _ _).alloc σ _).E (MF aB τ (λg k=>by cases k;omega)));clear aB j)|(with_reducible refine YO 143 _ rfl ?_;refine AZ rfl 143 _ rfl (w.heap.size+1) 0 rfl ((LF t).map (Value.int .u8)) _ i.range underlying143 rfl aA.j ?_)|(with_reducible refine WJ 143 _ _ rfl ?_;refine BU rfl 143 _ _ rfl w.heap.size 0 ((LF t).map (Value.int .u8)).toArray rfl rfl (by rw[d];exact e.there κ) (by rw[d];kernel_rfl) (GH (VQ (LF t))) ?_))
 refine AE (v:=.agg ((LF t).map (Value.int .u8)).toArray) (yV (p:=2) results208 _ _ w.heap.size 0 rfl ((LF t).map (Value.int .u8)) _ (EE _ _ _ _ (by rw[BO,b];exact e.there κ)) underlying143 rfl aA.j) rfl ⟨rfl,?_⟩;exact Go.below_setCells (AA _) _ _ _ f.j
section
structure DepF(w:xV)(F:Nat->Prop)(P:xV->Prop):Prop where
 q:P w
 keep:∀w',Below 0 w w'->(∀b,F b->b<w.heap.size->w'.heap[b]?=w.heap[b]?)->P w'
section
variable {w w':xV} {F G:Nat->Prop} {P Q:xV->Prop}
theorem DepF.step(h:DepF w F P)(c:Below 0 w w')(e:∀b,F b->b<w.heap.size->w'.heap[b]?=w.heap[b]?):DepF w' F P :=⟨h.keep w' c e,λk i j=>h.keep k (c.E (i.J (AL _))) (λb d f=>(j b d (AC f c.size)).E (e b d f))⟩
theorem DepF.I(h:DepF w F P)(c:yX w w'):DepF w' F P:=h.step (c.J (AL _)) (λb _ d=>c.block b d)
theorem DepF.V{r:Option Nat}(h:DepF w F P)(c:w.grownBy w' r)(i:∀g,r=some g->¬F g):DepF w' F P :=h.step (MF c (AL _) (λ_ _=>AL _)) (λb d f=>c.block b f (λe=>i b e.symm d))
theorem DepF.J(h:DepF w F P)(hF:∀b,b<w.heap.size->F b->G b):DepF w G P:=⟨h.q,λw' d e=>h.keep w' d (λb f c=>e b (hF b c f) c)⟩
theorem DepF.map(h:DepF w F P)(f:∀W,P W->Q W):DepF w F Q:=⟨f _ h.q,λw' b c=>f _ (h.keep w' b c)⟩
theorem DepF.and(h:DepF w F P)(k:DepF w F Q):DepF w F (λW=>P W/\Q W):=⟨⟨h.q,k.q⟩,λw' b c=>⟨h.keep w' b c,k.keep w' b c⟩⟩
theorem sk(h:P w)(f:∀w',yX w w'->P w'):DepF w (λb=>b<w.heap.size) P :=⟨h,λw' c e=>f w' ⟨c.os,c.tape,c.output,c.size,λb d=>e b d d⟩⟩
theorem ZA{e d:Nat}(h:Dep w e d P)(hF:∀b,e<=b->b<d->F b):DepF w F P :=⟨h.q,λw' f i=>h.keep w' (λb j c=>i b (hF b j c) (AC c h.top)) (AJ h.top f.size)⟩
theorem UO(h:∀W,P W):DepF w F P:=⟨h _,λw' _ _=>h _⟩
end
theorem OU(w:xV)(b o:Nat)(c:List qD):w.grownBy (w.setCells b o c) (some b) :=⟨(zO b c o w).1,(zO b c o w).2.1,(zO b c o w).2.2,Nat.le_of_eq (SK b c o w).symm,λi f d=>jo b c o w i (λe=>d (BC some e))⟩
theorem Row.sets(h:Row w g cs)(b:List qD)(e:b.length=cs.length):Row (w.setCells g 0 b) g b:=by
 have c:w.there g 0 b.length:=h.there e;have f:=EE w g 0 b c;have aA:=World.there_setCells c g 0 b;refine⟨by rw[SK];exact h.lt,λi v hv=>?_,λi d=>?_⟩
 ·have:=f i v hv;rwa [BK]at this
 have:=(aA i d).2;rwa [BK]at this
theorem mj{b:Array Oper}(c:op.guard=none)(s:TypeId)(x:Operand)(f:Nat)(e:op.op=.fieldAddr s x f)(v:qD)(aB:(Instr.fieldAt s (a.eval x) f).run P w=.ok v w)(h:wpList P b Q aA (a.put op.dst v) w):wpList P b Q (op::aA) a w:=by
 refine ID c λK d=>?_
 unfold Oper.wp execOp;simp only[e,aB,IC,IZ,IB];exact d _ _ h
section
variable {w:xV} {g:Nat} {pre cs post:List qD}
theorem Row.rangeMid(h:Row w g (pre++cs++post)):w.rangeAt g pre.length cs:=λj v hv=>by
 have b:j<cs.length:=(DI.1 hv).1;exact h.cell (pre.length+j) v (by rw[BV,DW ω,BN ω,<-hv];congr 1;omega)
theorem Row.thereMid(h:Row w g (pre++cs++post))(c:n=cs.length):w.there g pre.length n:=λj b=>by
 subst c;exact⟨by rw[h.rangeMid j cs[j] (AO b)];rfl,h.froz (pre.length+j) τ⟩
theorem Row.setsMid(h:Row w g (pre++cs++post))(b:List qD)(d:b.length=cs.length):Row (w.setCells g pre.length b) g (pre++b++post):=by
 have e:w.there g pre.length b.length:=h.thereMid d;refine⟨by rw[SK];exact h.lt,λi v hv=>?_,λi c=>by rw[EO];exact h.froz i (by simp at c⊢;omega)⟩
 by_cases c:i<pre.length
 ·rw[ED g b _ w (yA g i) (λ_ _=>.inl c)]
  refine h.cell i v ?_;rw[BV,BN c]at hv⊢;exact hv
 by_cases f:i<pre.length+b.length
 ·have:=EE w g pre.length b e (i-pre.length) v (by rw[BV,DW ω,BN ω]at hv;exact hv)
  rwa [show pre.length+(i-pre.length)=i by omega]at this
 rw[ED g b _ w (yA g i) (λ_ _=>.inr (by show pre.length+b.length<=i;omega))]
 refine h.cell i v ?_;rw[BV,DW ω,DW ω]at hv⊢;rw[<-d];exact hv
end
theorem TP{v:xV}{b:Nat->Prop}(h:Row v g cs)(e:b g):DepF v b (λW=>Row W g cs) :=⟨h,λw' c d=>SX h (d g e h.lt) (AC h.lt c.size)⟩
theorem UK{R:Ending->xV->Prop}(k:Nat)(c:TypeId)(i:fn.results=#[.cell k c])(b:Nat)(l:a.tmps.getD k undef=zW b 0)(cs:List qD)(d:TypeDesc)(f:Row w b cs)(m:P.underlying c=some d)(aA:d.isRow=true)(j:(P.info? c).map (·.size)=some cs.length)(h:a.defers=[])(e:R (yT (.agg cs.toArray)) w):bodyPost P fn R .ret a w:=by
 refine AE (v:=.agg cs.toArray) ?_ h e;have aB:a.tmps[k]?.getD undef=zW b 0:=by simpa using l
 simp[results,i,aB,asAddr,JE w b 0 c cs d f.range m aA j]
theorem mi{R:Ending->xV->Prop}(k t:Nat)(c:TypeId)(j:fn.results=#[.cell k c,.tmp t])(b:Nat)(m:a.tmps.getD k undef=zW b 0)(u:qD)(p:a.tmps.getD t undef=u)(cs:List qD)(d:TypeDesc)(h:Row w b cs)(q:P.underlying c=some d)(aA:d.isRow=true)(l:(P.info? c).map (·.size)=some cs.length)(i:a.defers=[])(f:R (yT (.tuple #[.agg cs.toArray,u])) w):bodyPost P fn R .ret a w:=by
 refine AE (v:=.tuple #[.agg cs.toArray,u]) ?_ i f;have aB:a.tmps[k]?.getD undef=zW b 0:=by simpa using m
 have e:a.tmps[t]?.getD undef=u:=by simpa using p
 simp[results,j,aB,e,asAddr,JE w b 0 c cs d h.range q aA l]
theorem QI(c:TypeId)(x:Operand)(i:op.op=.load c x)(b o:Nat)(k:a.eval x=zW b o)(cs:List qD)(d:TypeDesc)(e:w.rangeAt b o cs)(j:P.underlying c=some d)(f:d.isRow=true)(h:(P.info? c).map (·.size)=some cs.length):(execOp a.eval op).run P w=.ok (.value (.agg cs.toArray)) w:=by
 unfold execOp;simp only[i,k,Instr.loadAt,Instr.sureAddr,IC,IZ,IB,JE w b o c cs d e j f h]
theorem dt(b:op.guard=none)(v:qD)(w':xV)(d:(execOp a.eval op).run P w=.ok (.value v) w')(h:wpList P aB Q aA (a.put op.dst v) w'):wpList P aB Q (op::aA) a w:=by
 refine ID b λK c=>?_
 unfold Oper.wp;simp only[d];exact c _ _ h
theorem SO(b:op.guard=none)(v:qD)(d:(execOp a.eval op).run P w=.ok (.value v) w)(h:wpList P aB Q aA (a.put op.dst v) w):wpList P aB Q (op::aA) a w:=by
 refine ID b λK c=>?_
 unfold Oper.wp;simp only[d];exact c _ _ h
theorem SN{o:Oper}{K:Act->xV->Prop}{E:Prop}(d:o.guard=none)(c:TypeId)(x y:Operand)(i:o.op=.store c x y)(b k:Nat)(aA:Array qD)(m:a.eval x=zW b k)(p:a.eval y=.agg aA)(j:w.there b k aA.size)(f:(P.info? c).map (·.size)=some aA.size)(e:aA.all (·.oneCell')=true)
  (h:K (a.put o.dst undef) (w.setCells b k aA.toList)):if Region.wanted o (yielded aB a.tmps)=true then Oper.wp P o a w K Q else E:=by
 have l:Region.wanted o (yielded aB a.tmps)=true:=by simp[Region.wanted,d]
 rw[AI l];exact wp_store_mid c x y i b k aA m p j f e h
theorem n7{aA:Array Oper}{o:Oper}{K:Act->xV->Prop}{E:Prop}(aB:o.guard=none)(c:TypeId)(x:Operand)(j:o.op=.load c x)(b k:Nat)(p:a.eval x=zW b k)(cs:List qD)(d:TypeDesc)(e:w.rangeAt b k cs)(l:P.underlying c=some d)(f:d.isRow=true)(i:(P.info? c).map (·.size)=some cs.length)
  (h:K (a.put o.dst (.agg cs.toArray)) w):if Region.wanted o (yielded aA a.tmps)=true then Oper.wp P o a w K Q else E:=by
 have m:Region.wanted o (yielded aA a.tmps)=true:=by simp[Region.wanted,aB]
 rw[AI m];exact wp_load_mid c x j b k p cs d e l f i h
end
section
structure RI(W w:xV)(c0 c1 c2 c3:qD):Prop where
 size:W.heap.size+2<=w.heap.size
 bel:yX W w
 b0:w.cell? (yA W.heap.size 0)=some c0
 b1:w.cell? (yA W.heap.size 1)=some c1
 b2:w.cell? (yA W.heap.size 2)=some c2
 b3:w.cell? (yA W.heap.size 3)=some c3
section
variable {W w w':xV} {c0 c1 c2 c3:qD}
theorem RI.drew(h:RI W w c0 c1 c2 c3):RI W w.drew c0 c1 c2 c3:=⟨h.size,h.bel.drew,h.b0,h.b1,h.b2,h.b3⟩
theorem RI.past(h:RI W w c0 c1 c2 c3)(b:Below (W.heap.size+1) w w'):RI W w' c0 c1 c2 c3 :=have c:=h.size
 ⟨AJ c b.size,h.bel.E (b.J ω),(b.cell (p:=⟨_,0,none⟩) (by show W.heap.size<_;omega)).E h.b0,(b.cell (p:=⟨_,1,none⟩) (by show W.heap.size<_;omega)).E h.b1,
  (b.cell (p:=⟨_,2,none⟩) (by show W.heap.size<_;omega)).E h.b2,(b.cell (p:=⟨_,3,none⟩) (by show W.heap.size<_;omega)).E h.b3⟩
theorem RI.I(h:RI W w c0 c1 c2 c3)(b:yX w w'):RI W w' c0 c1 c2 c3:=h.past (b.J (by have:=h.size;omega))
theorem RI.wrote(h:RI W w c0 c1 c2 c3)(b:Wrote w w' (W.heap.size+1) o ys):RI W w' c0 c1 c2 c3:=h.past (b.I (AA _))
theorem RI.toS(h:RI W w c0 c1 c2 c3):w.cell? (yA W.heap.size 0)=some c0/\w.cell? (yA W.heap.size 1)=some c1/\w.cell? (yA W.heap.size 2)=some c2/\w.cell? (yA W.heap.size 3)=some c3/\RI W w c0 c1 c2 c3:=⟨h.b0,h.b1,h.b2,h.b3,h⟩
theorem RI.ofS(h:w.cell? (yA W.heap.size 0)=some c0/\w.cell? (yA W.heap.size 1)=some c1/\w.cell? (yA W.heap.size 2)=some c2/\w.cell? (yA W.heap.size 3)=some c3/\RI W w c0 c1 c2 c3):RI W w c0 c1 c2 c3:=h.2.2.2.2
end
theorem Nm{c:Code}(w:xV)(d e f j:qD)(k l:TypeId)
  (h:∀b,RI w b d e f j->Fm b (w.heap.size+1) [0,0,0,0,0]->c.wp P Q a b):c.wp P Q a ((w.alloc (.cells #[d,e,f,j] k)).alloc (.cells #[.int .u8 0,.int .u8 0,.int .u8 0,.int .u8 0,.int .u8 0] l)):=by
 refine h _ ⟨σ,(LG _ _).alloc σ _,σ,σ,σ,σ⟩ ⟨λi b=>?_,λi b=>?_⟩
 ·rw[EH _ _ _ _ σ]
  have aA:i<5:=b;have:i=0\/i=1\/i=2\/i=3\/i=4:=ω
  rcases this with h|h|h|h|h<;>subst h<;>rfl
 rw[EA,EA]
 exact XP _ _ _ ω
theorem Hl(h f:Int){aA aB:List Int}(b:aA=PT [0,0,0,0,0] 0 (be 1 h))(c:aB=PT aA 1 (be 4 f)):strOfNums aB=WI h f:=by
 have d:(be 1 h).length=1:=PA _ _;have e:(be 4 f).length=4:=PA _ _;unfold WI;rw[<-TM];subst b c
 congr 1
theorem Om(t h f l n:Int)(w:xV)(aB:¬UT h f):Calls prog 275 #[NI t h f l,Z n] w λe w'=>e=yT (yQ empty)/\yX w w':=by
 have c:∀o,yX w (w.alloc o):=λo=>LG _ _
 unfold UT at aB
 by_cases b:0<=h/\h<=1
 ·have aA:decide (0<=h/\h<=1)=true:=AM b
  have d:decide (1<=f/\f<=999999000)=false:=τ
  clear aB b;go_enter func275,ntmps275
  go_wp2_with (first|(go_at_call 249;refine(vy _ _).J ?_;rw[aA];rintro e i ⟨rfl,rfl⟩)|(go_at_call 250;refine(oO _ _).J ?_;rw[d];rintro e j ⟨rfl,rfl⟩))
  go_ret;exact⟨rfl,c _⟩
 have aA:decide (0<=h/\h<=1)=false:=AH b
 clear aB b;go_enter func275,ntmps275
 go_wp2_with (first|(go_at_call 249;refine(vy _ _).J ?_;rw[aA];rintro e i ⟨rfl,rfl⟩))
 go_ret;exact⟨rfl,c _⟩
set_option maxRecDepth 4000 in
theorem Lc(t h f l n:Int)(w:xV)(O:UT h f):Calls prog 275 #[NI t h f l,Z n] w λe w'=>e=yT (yQ (MJ 4 l t (WI h f) n))/\yX w w':=by
 obtain⟨W,X,Y,h4⟩:=O;have S:decide (0<=h/\h<=1)=true:=τ
 have T:decide (1<=f/\f<=999999000)=true:=τ
 have u1:IntKind.u64.wrap h=h:=XU h ω ω;have u2:IntKind.u64.wrap f=f:=XU f ω ω;obtain⟨c,D⟩:∃c,Hid (c=WI h f):=⟨_,QB rfl⟩;rw[<-D.j];go_enter func275,ntmps275
 go_wp2_with (first|(go_at_call 249;refine(vy _ _).J ?_;rw[S];rintro e w1 ⟨rfl,rfl⟩)|(go_at_call 250;refine(oO _ _).J ?_;rw[T];rintro e w2 ⟨rfl,rfl⟩))
 refine Nm w (Z t) (Z h) (Z f) (Z l) _ _ ?_;intro wa y aB;have E:=QB y.toS;clear y
 go_region_held3 (λw'=>w'.cell? (yA w.heap.size 0)=some (Z t)/\w'.cell? (yA w.heap.size 1)=some (Z h)/\w'.cell? (yA w.heap.size 2)=some (Z f)/\w'.cell? (yA w.heap.size 3)=some (Z l)/\RI w w' (Z t) (Z h) (Z f) (Z l))
  (first|assumption|exact(RI.ofS E.j).drew.toS|exact(RI.wrote (RI.ofS (by assumption)) (by assumption)).toS)
  (first|(go_at_call 282;refine(bp (w.heap.size+1) 0 1 5 h _ ω ω ω (λi x=>⟨_,aB.drew.cell (0+i) τ⟩) (λi x=>aB.drew.froz (0+i) τ)).J ?_;rintro e V ⟨rfl,I⟩))
 have z:RI w V (Z t) (Z h) (Z f) (Z l):=RI.ofS (by assumption);have aA:=aB.drew.wrote I (by rw[PA];simp);obtain⟨p,s⟩:∃p,Hid (p=PT [0,0,0,0,0] 0 (be 1 h)):=⟨_,QB rfl⟩;have d:p.length=5:=by rw[s.j,jk _ _ _ (by rw[PA];simp)];rfl
 rw[<-s.j]at aA;clear E I aB;go_wp2_with fail;have G:=QB z.toS;clear z
 go_region_held3 (λw'=>w'.cell? (yA w.heap.size 0)=some (Z t)/\w'.cell? (yA w.heap.size 1)=some (Z h)/\w'.cell? (yA w.heap.size 2)=some (Z f)/\w'.cell? (yA w.heap.size 3)=some (Z l)/\RI w w' (Z t) (Z h) (Z f) (Z l))
  (first|assumption|exact(RI.ofS G.j).drew.toS|exact(RI.wrote (RI.ofS (by assumption)) (by assumption)).toS)
  (first|(go_at_call 282;refine(bp (w.heap.size+1) 1 4 4 f _ ω ω ω (λi x=>⟨_,aA.drew.cell (1+i) (by rw[d];omega)⟩) (λi x=>aA.drew.froz (1+i) (by rw[d];omega))).J ?_;rintro e wc ⟨rfl,J⟩))
 have A:RI w wc (Z t) (Z h) (Z f) (Z l):=RI.ofS (by assumption);have r:=aA.drew.wrote J (by rw[PA,d];omega);obtain⟨j,u⟩:∃j,Hid (j=PT p 1 (be 4 f)):=⟨_,QB rfl⟩;have M:j.length=5:=by rw[u.j,jk _ _ _ (by rw[PA,d];omega),d]
 rw[<-u.j]at r;have v:strOfNums j=WI h f:=Hl h f s.j u.j;rw[<-D.j]at v;have R:c.size<=1048576:=by rw[<-v,CY,M];omega
 have H:∀q,Fm q (w.heap.size+1) j->(convert 24 9 (yI (zY (w.heap.size+1) 0) 5 5)).run prog q=.ok (yQ c) q:=λq U=>by
  have:=U.text (P:=prog) 24 5 9 underlying24 underlying5 underlying9 0 5 5 ω;rw[FH,AR ω,v]at this;exact this
 have B:=QB H;have C:=QB r;clear G J aA r H;go_wp2_with fail;have b:=QB A.toS;clear A;have K:w.heap.size+1<wc.heap.size:=by have:=(RI.ofS b.j).size;omega
 go_region_held3 (λw'=>(convert 24 9 (yI (zY (w.heap.size+1) 0) 5 5)).run prog w'=.ok (yQ c) w'/\w'.cell? (yA w.heap.size 0)=some (Z t)/\w'.cell? (yA w.heap.size 3)=some (Z l)/\RI w w' (Z t) (Z h) (Z f) (Z l))
  (first|assumption|exact⟨B.j _ C.j.drew,(RI.ofS b.j).drew.b0,(RI.ofS b.j).drew.b3,(RI.ofS b.j).drew⟩|exact⟨B.j _ (C.j.drew.I m K),((RI.ofS b.j).drew.I m).b0,((RI.ofS b.j).drew.I m).b3,(RI.ofS b.j).drew.I m⟩)
  (first|(go_at_call 276;refine(fe 4 l t c n _ R).J ?_;rintro e w4 ⟨rfl,m⟩))
 rename_i k;have L:=k.2.2.2.bel;clear k;go_wp2;go_ret;exact⟨rfl,L⟩
theorem wM(t h f l n:Int)(w:xV):Calls prog 275 #[NI t h f l,Z n] w λe w'=>e=yT (yQ (OS t h f l n))/\yX w w':=by
 unfold OS
 by_cases aA:UT h f
 ·rw[AI aA];exact Lc t h f l n w aA
 rw[AF aA];exact Om t h f l n w aA
end
theorem oD(w:xV)(o:Obj):(w.alloc o).heap[w.heap.size]?=some o:=by
 show(w.heap.push o)[w.heap.size]?=some o;simp
theorem Kr(w:xV)(C:Array qD)(e:TypeId)(n i:Nat)(h:i<n):(w.alloc (.cells C e (n,n+1))).frozen? (yA w.heap.size i)=false:=by
 simp only[World.frozen?,oD];simp;omega
theorem Hu(w:xV)(C:Array qD)(e:TypeId)(b:Nat×Nat)(i:Nat):(w.alloc (.cells C e b)).cell? (yA w.heap.size i)=C[i]?:=by
 simp only[World.cell?,oD];simp
theorem wQ(w:xV)(p:yZ):∃b c,(convert 9 24 (yQ p)).run prog w=.ok (yI (zY w.heap.size 0) p.size b) c/\yX w c/\c.heap.size=w.heap.size+1/\Fm c w.heap.size (LF p)/\p.size<=b:=by
 refine⟨_,_,run_bytes_of_string w _ _ 5 p underlying9 underlying24 underlying5,((AB _ _).drew).alloc (AA _) _,σ,⟨λi b=>?_,λi b=>?_⟩,JL _ _ _ _⟩
 ·rw[MR]at b
  refine(Hu w.drew _ _ _ i).E ?_;rw[bytesRow_at p _ i b];have c:i<p.data.toList.length:=b;simp only[BF,LF,FL,AO c];rfl
 rw[MR]at b
 exact Kr w.drew _ _ _ i (by unfold bytesRow;simp;omega)
