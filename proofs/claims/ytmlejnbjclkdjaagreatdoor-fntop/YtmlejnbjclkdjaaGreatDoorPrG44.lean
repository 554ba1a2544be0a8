import Derived.Deep.RegionLaw
import Derived.Test.YtmlejnbjclkdjaaGreatDoorPrG43
import Derived.Deep.MidRow
import Derived.Lib.LazyBuf
set_option maxHeartbeats 16000000
set_option maxRecDepth 8000
set_option linter.all false
namespace Go.Proofs.YtmlejnbjclkdjaaGreatDoor
open _root_.ByteArray(empty)
open Tryz
open Go.RowKit
variable {Q:Exit->Act->Nb->Prop}{ws:List (Int×Y)}{ss:List Y}{xs ys:List Int}{cs:List Nc}{B F n o:Nat}{a:M6}{r:Option Nat}{P:Program}{v:Nc}{b w w':Nb}
theorem LW{d:Array Oper}{o:Oper}{a:Act}{K:Act->Nb->Prop}{E:Prop}(i:o.guard=none)(f:FuncId)(c:Array Nc)
  (g:(execOp a.eval o).run P w=.ok (.enter f c) w){C:Ending->Nb->Prop}(k:Calls P f c w C)(h:∀e w',C e w'->∃v,e=M3 v/\K (a.put o.dst v) w'):if Region.wanted o (yielded d a.tmps)=true then Oper.wp P o a w K Q else E:=by
 have p:Region.wanted o (yielded d a.tmps)=true:=by simp[Region.wanted,i]
 rw[AE p];unfold Oper.wp;rw[g,Oper.upon_enter]
 refine k.z λe j l=>?_
 obtain⟨v,rfl,m⟩:=h e j l;exact m
theorem qw(k v:Y)(w:Nb):Calls prog 166 #[.agg #[Mz k,Mz v,M0 false]] w λe w'=>e=M3 (.iface 279 (.agg #[Mz k,Mz v]))/\Below w.heap.size w w':=by
 go_enter func166,ntmps166;go_wp2;go_ret;exact⟨rfl,LO _ _⟩
theorem tg(k v:Y)(w:Nb):Calls prog 166 #[.agg #[Mz k,Mz v,M0 true]] w λe w'=>e=M3 (.iface 277 (.agg #[Mz k]))/\Below w.heap.size w w':=by
 go_enter func166,ntmps166;go_wp2;go_ret;exact⟨rfl,LO _ _⟩
theorem py{a b:Y}(h:a=b):M3 (Mz a)=M3 (Mz b):=by rw[h]
theorem qn(w:Nb)(n:Int):(convert 22 9 (.slice (Mw w.heap.size 0) 1 1)).run prog (w.alloc (.cells #[.int .u8 n] 5))=.ok (Mz (strOfNums [n])) (w.alloc (.cells #[.int .u8 n] 5)) :=FO (P:=prog) _ 22 5 underlying22 underlying5 w.heap.size 0 1 1 [n] rfl (λi c=>by
  have:i=0:=ω
  subst this;simp) 9 underlying9
theorem si:(prog.info? 9).map (λi=>(i.zero,i.size,i.bytes))=some (some (Mz empty),1,16):=κ
theorem xM(n m:Nat)(w:Nb)(h:n+m=56)(d:1<=n)(f:n<=8):Calls prog 82 #[.int .i64 (n:Int)] w λe w'=>e=M3 (.int .i64 (m:Int))/\w'=w:=by
 have c:(64-(n:Int)-8)=(m:Int):=ω
 go_enter func82,ntmps82;go_wp2;go_ret
 exact⟨by first|rfl|exact CX _ (CX _ c),rfl⟩
theorem fk{W f:Nb}{e:TypeId}{d:Nat}{xs:List Nc}(g:Below B W w)(own:w.ownsRow B e d v n xs)(c:w.grownBy f v.ownBlock)(i:B<=w.heap.size):Below B W f :=g.j ⟨c.os,c.tape,c.output,c.size,λk j=>c.block k ω (λh=>by have:=(own.lt k h.symm).1;omega)⟩
theorem lq(h:B<=w.heap.size)(o:Obj):B<=(w.alloc o).heap.size:=τ
def YK(s:Y)(m k:Nat):List Y:=(List.range k).map λi=>s.extract (i*m) (i*m+m)
theorem vH(s:Y)(m k:Nat):YK s m (k+1)=YK s m k++[s.extract (k*m) (k*m+m)]:=by simp[YK,FT]
def OG(l m:Nat):Nat:=if l=0 then 1 else (l-1) / m+1
theorem tr(s:Y){a b c:Nat}(h:min (b-a) (s.size-a)=min (c-a) (s.size-a)):s.extract a b=s.extract a c:=by
 apply EP
 simp only[EY];exact Array.extract_eq_extract_right.2 h
theorem tL(s r:Y)(a m:Nat)(h:r=s.extract a s.size):r.extract m r.size=s.extract (a+m) s.size:=by
 subst h;rw[KG]
 apply tr
 simp only[AO];omega
theorem pN(s r:Y)(a m:Nat)(h:r=s.extract a s.size):r.extract 0 m=s.extract a (a+m):=by
 subst h;rw[KG,FX]
 apply tr
 omega
theorem pE(s r:Y)(a m:Nat)(h:r=s.extract a s.size)(c:r.size<=m):r=s.extract a (a+m):=by
 subst h;simp only[AO]at c
 apply tr
 omega
theorem Ir(l m k r:Nat)(e:0<m)(g:k*m+r=l)(c:k=0\/0<r)(f:r<=m):OG l m=k+1:=by
 unfold OG
 by_cases d:l=0
 ·rw[AE d]
  rcases c with c|c
  ·omega
  omega
 rw[AG d]
 have:(l-1) / m=k:=by
  rw[Nat.div_eq_iff e];rcases c with c|c
  ·subst c;omega
  omega
 omega
theorem uh(s:Y)(n m:Nat)(w:Nb)(N:s.size<=1048576)(h:n+m=56)(I:1<=n)(J:n<=8):Calls prog 190 #[Mz s,.int .i64 (n:Int)] w λe w'=>∃g c,e=M3 (.slice (Mw g 0) (OG s.size m) c)/\w.heap.size<=g/\Row w' g ((YK s m (OG s.size m)).map Value.string)/\Below w.heap.size w w':=by
 obtain⟨O,c,d,f,i⟩:=info_parts si;have D:=Z (AH c (AH d (AH f i)));clear c d f i;go_enter func190,ntmps190;go_wp2_with (go_at_call 82;refine(xM n m _ h I J).z ?_;rintro e w' ⟨rfl,rfl⟩);go_loopw [0,5] (λx y wr=>∃(k:Nat) (r:Y),x=Mz r/\Hid (r=s.extract (k*m) s.size)/\k*m+r.size=s.size/\Hid (k=0\/0<r.size)/\wr.ownsRow w.heap.size 9 1 y k ((YK s m k).map Value.string)/\Below w.heap.size w wr) (λx _ _=>match x with | .string r=>r.size|_=>0)
 case atStart=>exact⟨0,s,rfl,by show s=_;simp,σ,.inl rfl,DT _ #[] 0 (AA _) σ σ,LO _ _⟩
 case round =>
  obtain⟨k,r,rfl,y,K,C,q,d⟩:=hrel
  by_cases M:m<r.size
  ·have E:(m:Int)<(r.size:Int):=ω
   have H:k<=1048576:=by have:k*1<=k*m:=Nat.mul_le_mul_left k ω;omega
   have c:w.heap.size<=wr.heap.size:=d.size;have x:=Z d;have f:=Z (q.alloc (.cells #[Mz (r.extract 0 m)] 9));clear d q;go_wp2_with (at_builtin;refine QY _ rfl _ _ 23 rfl w.heap.size underlying23 D.l rfl ω _ k _ rfl f.l ⟨wr.heap.size,0,none⟩ 1 1 [Mz (r.extract 0 m)] rfl rfl (World.news_of_block (AU wr _)) (by intro u p;simp at p;subst p;rfl) (lq c _) (wr.heap.size+1) σ ?_;intro g l L j i A G;have t:=Z j;have z:=Z (fk (x.l.alloc c _) f.l i (lq c _));clear j i A);refine⟨⟨k+1,r.extract m r.size,rfl,?_,?_,?_,?_,z.l⟩,?_⟩
   ·show _=_
    rw[tL s r _ m y.l,GJ,KN]
   ·rw[GJ,KN];simp only[AO];omega
   ·exact .inr (by simp only[AO];omega)
   ·have e:=t.l
    rw[pN s r _ m y.l]at e;rw[vH,DK];exact e
   simp only[AO];omega
  have H:k<=1048576:=by have:k*1<=k*m:=Nat.mul_le_mul_left k ω;omega
  have c:w.heap.size<=wr.heap.size:=d.size;have x:=Z d;have E:=Z (Ir s.size m k r.size ω K C.l ω);have f:=Z (q.alloc (.cells #[Mz r] 9));clear d q C;go_wp2_with (at_builtin;refine QY _ rfl _ _ 23 rfl w.heap.size underlying23 D.l rfl ω _ k _ rfl f.l ⟨wr.heap.size,0,none⟩ 1 1 [Mz r] rfl rfl (World.news_of_block (AU wr _)) (by intro u p;simp at p;subst p;rfl) (lq c _) (wr.heap.size+1) σ ?_;intro g l L j i A G;have t:=Z j;have z:=Z (fk (x.l.alloc c _) f.l i (lq c _));clear j i A);go_ret;refine⟨g,l,by rw[E.l];rfl,(t.l.lt g rfl).1,?_,z.l⟩;have e:=TE t.l;rw[E.l,vH,DK];rw[pE s r _ m y.l ω]at e;exact e
theorem RO(n:Int)(w:Nb):Calls prog 21 #[.int .i64 n] w λe w'=>e=M3 (M0 (decide (1<=n/\n<=8)))/\w'=w:=by
 by_cases d:1<=n
 ·by_cases c:n<=8
  ·go_enter func21,ntmps21
   go_wp2;go_ret;exact⟨by simp[d,c],rfl⟩
  go_enter func21,ntmps21
  go_wp2;go_ret;exact⟨by simp[c],rfl⟩
 go_enter func21,ntmps21
 go_wp2;go_ret;exact⟨τ,rfl⟩
theorem SZ(n:Int)(w:Nb):Calls prog 53 #[.int .i64 n] w λe w'=>e=M3 (M0 (decide (1<=n/\n<=8)))/\w'=w:=by
 by_cases d:1<=n
 ·by_cases c:n<=8
  ·go_enter func53,ntmps53
   go_wp2;go_ret;exact⟨by simp[d,c],rfl⟩
  go_enter func53,ntmps53
  go_wp2;go_ret;exact⟨by simp[c],rfl⟩
 go_enter func53,ntmps53
 go_wp2;go_ret;exact⟨τ,rfl⟩
def OR(l:Nat)(n:Int):Int:=if 1<=n/\n<=8 then (OG l (56-n).toNat:Int) else 0
theorem jf(n m:Nat)(w:Nb)(h:n+m=56)(d:1<=n)(f:n<=8):Calls prog 88 #[.int .i64 (n:Int)] w λe w'=>e=M3 (.int .i64 (m:Int))/\w'=w:=by
 have c:(64-(n:Int)-8)=(m:Int):=ω
 go_enter func88,ntmps88;go_wp2;go_ret
 exact⟨by first|rfl|exact CX _ (CX _ c),rfl⟩
theorem uo(s:Y)(n:Int)(w:Nb)(y:s.size<=1048576):Calls prog 116 #[Mz s,.int .i64 n] w λe w'=>e=M3 (.int .i64 (OR s.size n))/\Below w.heap.size w w':=by
 obtain⟨R,c⟩:∃R,Hid (R=OR s.size n):=⟨_,Z rfl⟩;rw[<-c.l]
 by_cases i:1<=n/\n<=8
 focus
  obtain⟨m,rfl⟩:∃m:Nat,n=(m:Int):=⟨n.toNat,ω⟩;obtain⟨q,t⟩:∃q:Nat,m+q=56:=⟨56-m,ω⟩;have h:decide (1<=(m:Int)/\(m:Int)<=8)=true:=τ
  by_cases j:s.size=0
  focus
   have k:s=empty:=by apply EP;exact JN j
   subst k;have f:R=1:=by rw[c.l];unfold OR OG;rw[AE i];simp
   clear c;subst f
  rotate_left
  obtain⟨l,p⟩:∃l:Nat,s.size=l+1:=⟨s.size-1,ω⟩
  have f:R=((l / q:Nat):Int)+1:=by
   rw[c.l];unfold OR OG;rw[AE i,AG j,show(56-(m:Int)).toNat=q by omega,p];simp
  obtain⟨d,g⟩:∃d:Nat,d=l / q:=⟨_,rfl⟩;have u:d<=l:=by rw[g];exact KT _ _
  have x:(l:Int) / (q:Int)=(d:Int):=by rw[g];simp
  rw[<-g]at f;clear c g;subst f;have g:s.toList.isEmpty=false:=by rw[VP];simp[j]
  go_enter func116,ntmps116
  go_wp2_with (first|(go_at_call 53;refine(SZ _ _).z ?_;rw[h];rintro e w' ⟨rfl,rfl⟩)|(go_at_call 88;refine(jf m q _ t ω ω).z ?_;rintro e w' ⟨rfl,rfl⟩))
  go_ret;exact⟨rfl,AB _ _⟩
 rotate_left
 focus
  have f:R=0:=by rw[c.l];unfold OR;exact AG i
  clear c;subst f;have h:decide (1<=n/\n<=8)=false:=τ
 rotate_left
 all_goals
  go_enter func116,ntmps116
  go_wp2_with (first|(go_at_call 53;refine(SZ _ _).z ?_;rw[h];rintro e w' ⟨rfl,rfl⟩))
  go_ret;exact⟨rfl,AB _ _⟩
theorem xB(s:Y)(n:Int)(w:Nb)(k:s.size<=1048576):Calls prog 134 #[Mz s,.int .i64 n] w λe w'=>e=M3 (.int .i64 (OR s.size n))/\Below w.heap.size w w':=by
 unfold OR
 by_cases f:1<=n/\n<=8
 ·rw[AE f]
  obtain⟨m,rfl⟩:∃m:Nat,n=(m:Int):=⟨n.toNat,ω⟩;obtain⟨q,j⟩:∃q:Nat,m+q=56:=⟨56-m,ω⟩;rw[show(56-(m:Int)).toNat=q by omega];have d:decide (1<=(m:Int)/\(m:Int)<=8)=true:=τ
  go_enter func134,ntmps134
  go_wp2_with (first|(go_at_call 21;refine(RO _ _).z ?_;rw[d];rintro e w' ⟨rfl,rfl⟩)|(go_at_call 190;refine(uh s m q _ k j ω ω).z ?_;rintro e p ⟨g,c,rfl,l,h,i⟩;clear h))
  go_ret;exact⟨rfl,i⟩
 rw[AG f]
 have d:decide (1<=n/\n<=8)=false:=τ
 go_enter func134,ntmps134
 go_wp2_with (first|(go_at_call 21;refine(RO _ _).z ?_;rw[d];rintro e w' ⟨rfl,rfl⟩))
 go_ret;exact⟨rfl,AB _ _⟩
def hv(n:Int):Int:=if 8<=n/\n<=200 then (n-2) / 2 else 0
theorem lk(n:Int)(w:Nb):Calls prog 52 #[.int .i64 n] w λe w'=>e=M3 (M0 (decide (8<=n/\n<=200)))/\w'=w:=by
 go_enter func52,ntmps52
 by_cases c:8<=n<;>by_cases d:n<=200<;>(go_wp2;go_ret;simp[c,d])
theorem dz(n:Int)(w:Nb):Calls prog 98 #[.int .i64 n] w λe w'=>e=M3 (.int .i64 (hv n))/\w'=w:=by
 by_cases h:8<=n/\n<=200
 ·have c:decide (8<=n/\n<=200)=true:=by simp[h]
  have d:hv n=(n-2) / 2:=by unfold hv;rw[AE h]
  obtain⟨g,i⟩:=h;go_enter func98,ntmps98;go_wp2_with (go_at_call 52;refine(lk _ _).z ?_;rw[c];rintro e f ⟨rfl,rfl⟩);go_ret;refine⟨?_,rfl⟩;rw[d];rfl
 have c:decide (8<=n/\n<=200)=false:=by simpa using h
 have d:hv n=0:=by unfold hv;rw[AG h]
 rw[d];go_enter func98,ntmps98;go_wp2_with (go_at_call 52;refine(lk _ _).z ?_;rw[c];rintro e f ⟨rfl,rfl⟩);go_ret;exact⟨rfl,rfl⟩
theorem WY(n:Int)(w:Nb):Calls prog 78 #[.int .i64 n] w λe w'=>e=M3 (.int .i64 (hv n))/\w'=w:=by
 by_cases d:8<=n
 ·by_cases e:n<=200
  ·have c:hv n=(n-2) / 2:=by unfold hv;rw[AE ⟨d,e⟩]
   go_enter func78,ntmps78;go_wp2;go_ret;refine⟨?_,rfl⟩;rw[c];rfl
  have c:hv n=0:=by unfold hv;rw[AG (λx=>e x.2)]
  rw[c];go_enter func78,ntmps78;go_wp2;go_ret;exact⟨rfl,rfl⟩
 have c:hv n=0:=by unfold hv;rw[AG (λx=>d x.1)]
 rw[c];go_enter func78,ntmps78;go_wp2;go_ret;exact⟨rfl,rfl⟩
def NK(W S L T H F R U O:Int)(a:M6)(n c:Nat):Nc:=.agg #[.int .i64 W,.int .i64 S,.int .i64 L,.int .i64 T,.int .i64 H,.int .i64 F,.int .i64 R,.int .i64 U,.int .i64 O,.slice a n c]
theorem Ju(s:Y)(w:Nb)(n:Nat)(y:s.size<=1048576)(t:1<=n)(u:n<=8):Calls prog 138 #[Mz s,.int .i64 (n:Int)] w λe w'=>e=M3 (Mz (UQ s n))/\Below w.heap.size w w':=by
 have p:=qn;have l:(1:Int)<=(n:Int):=ω
 have m:(n:Int)<=8:=ω
 go_enter func138,ntmps138;go_wp2;go_loop [5,6] (λv i=>∃k:Nat,k<=s.size/\i=.int .i64 k/\v=.int .u64 (QS (s.data.toList.take k))) (λ_ i=>s.size-(intOf i).toNat)
 case atStart=>exact⟨0,AM _,rfl,rfl⟩
 case round =>
  obtain⟨k,j,rfl,rfl⟩:=hrel
  by_cases e:k<s.size
  ·have c:Hid (QS (s.data.toList.take (k+1))=kq (QS (s.data.toList.take k)) s[k]):=by show _=_;rw[vn s k e,xe]
   go_wp2;go_round
   case rel=>exact⟨k+1,ω,ν,by rw[c.l];rfl⟩
   case measure=>simp[intOf];omega
  have c:s.data.toList.take k=s.data.toList:=AQ τ
  have g:Hid (QS (s.data.toList.take k)=QS s.data.toList):=by show _=_;rw[c]
  clear c;obtain⟨x,c⟩:∃x,Hid (x=QS s.data.toList):=⟨QS s.data.toList,(rfl:QS s.data.toList=QS s.data.toList)⟩;rw[g.l,<-c.l];have f:0<=x/\x<=18446744073709551615:=by rw[c.l];exact oO _
  go_wp2;go_loopw [5,7,8] (λv o i wr=>∃k:Nat,k<=n/\i=.int .i64 k/\o=Mz (strOfNums (be k x))/\v=.int .u64 (sh k x)/\Below w.heap.size w wr) (λ_ _ i _=>n-(intOf i).toNat)
  case atStart=>exact⟨0,AM _,rfl,rfl,rfl,AB _ _⟩
  case round =>
   obtain⟨k,j,rfl,rfl,rfl,d⟩:=hrel;have i:=vD k x f.1 f.2
   by_cases e:k<n
   ·have h:(strOfNums [sh k x % 256]).size<=1:=by rw[CJ];simp
    have q:(strOfNums (be k x)).size<=8:=by rw[CJ,PV];omega
    go_wp2;go_roundw
    case rel=>exact⟨k+1,ω,ν,by rw[vk,<-UJ];rfl,rfl,d.alloc d.size _⟩
    case measure=>simp[intOf];omega
   have h:k=n:=ω
   subst h;go_wp2;go_ret;exact⟨py (by unfold UQ;rw[c.l]),d⟩
theorem bk(b c n f:Nat)(x:Int)(w:Nb)(y:n<=64)(h:0<=x)(j:x<=18446744073709551615)
  (l:∀i,i<n->∃u,w.cell? ⟨b,c+i,none⟩=some (.int .u8 u))(m:∀i,i<n->w.frozen? ⟨b,c+i,none⟩=false):Calls prog 139 #[.slice (Mw b c) n f,.int .u64 x] w λe w'=>e=M3 (.tuple #[])/\Wrote w w' b c (be n x):=by
 go_enter func139,ntmps139;go_wp2;go_loopw [1,4] (λv i wr=>∃k:Nat,k<=n/\i=.int .i64 ((n:Int)-1-k)/\v=.int .u64 (sh k x)/\Wrote w wr b (c+(n-k)) (be k x)) (λ_ i _=>(intOf i+1).toNat)
 case atStart=>exact⟨0,AM _,σ,rfl,by simpa[be] using Wrote.refl w b (c+n)⟩
 case round =>
  obtain⟨k,t,rfl,rfl,d⟩:=hrel;have q:=vD k x h j
  by_cases p:k<n
  ·obtain⟨u,e⟩:=l (n-1-k) ω
   have s:wr.cell? ⟨b,c+(n-1-k),none⟩=some (.int .u8 u):=(d.outside _ (.inl ω)).j e;have i:wr.frozen? ⟨b,c+(n-1-k),none⟩=false:=(d.frozen _).j (m _ ω);go_wp2;go_roundw
   case rel =>
    have g:=Wrote.step (off:=c+(n-1-k)) (xs:=be k x) (by rw[show c+(n-1-k)+1=c+(n-k) by omega];exact d) (sh k x % 256) e;exact⟨k+1,ω,ν,rfl,by rw[vk,show n-(k+1)=n-1-k by omega];exact g⟩
   case measure=>simp[intOf];omega
  have e:k=n:=ω
  subst e;go_wp2;go_end0;exact⟨rfl,by simpa using d⟩
theorem Kc(s:Y)(w:Nb)(n:Nat)(D:s.size<=1048576)(z:1<=n)(A:n<=8):Calls prog 140 #[Mz s,.int .i64 (n:Int)] w λe w'=>e=M3 (Mz (UQ s n))/\Below w.heap.size w w':=by
 have t:(1:Int)<=(n:Int):=ω
 have u:(n:Int)<=8:=ω
 go_enter func140,ntmps140;go_wp2;go_loop [5,6] (λv i=>∃k:Nat,k<=s.size/\i=.int .i64 k/\v=.int .u64 (QS (s.data.toList.take k))) (λ_ i=>s.size-(intOf i).toNat)
 case atStart=>exact⟨0,AM _,rfl,rfl⟩
 case round =>
  obtain⟨k,C,rfl,rfl⟩:=hrel
  by_cases q:k<s.size
  ·have c:Hid (QS (s.data.toList.take (k+1))=kq (QS (s.data.toList.take k)) s[k]):=by show _=_;rw[vn s k q,xe]
   go_wp2;go_round
   case rel=>exact⟨k+1,ω,ν,by rw[c.l];rfl⟩
   case measure=>simp[intOf];omega
  have c:s.data.toList.take k=s.data.toList:=AQ τ
  have m:Hid (QS (s.data.toList.take k)=QS s.data.toList):=by show _=_;rw[c]
  clear c;obtain⟨x,c⟩:∃x,Hid (x=QS s.data.toList):=⟨QS s.data.toList,(rfl:QS s.data.toList=QS s.data.toList)⟩;rw[m.l,<-c.l];have j:0<=x/\x<=18446744073709551615:=by rw[c.l];exact oO _
  go_wp2_with fail;refine(bk w.heap.size 0 8 8 x _ ω j.1 j.2 ?hc ?hf).z ?_
  case hc =>
   intro i g;have:i=0\/i=1\/i=2\/i=3\/i=4\/i=5\/i=6\/i=7:=ω
   rcases this with rfl|rfl|rfl|rfl|rfl|rfl|rfl|rfl<;>exact⟨0,σ⟩
  case hf=>intro i g;simp
  rintro e l ⟨rfl,d⟩;have p:Below w.heap.size w l:=(LO _ _).j (d.I (AA _))
  have y:=λf=>FO (P:=prog) l 22 5 underlying22 underlying5 w.heap.size (8-n) n f (be n x) (PV n x) (λi g=>by
   have h:=d.inside (8-n+i) (by rw[PV];omega);rw[pD _ _ _ ω]at h;rw[pD _ _ _ ω,show n-1-i=8-1-(8-n+i) by omega]
   simpa using h) 9 underlying9
  clear d
  have d:=λf=>mz (P:=prog) (t:=255) underlying255 (λ_=>κ) w.heap.size 0 (8-n) ω .i64 (8-(n:Int)) ω f
  rw[show 8-(8-n)=n by omega,BG]at d;go_wp2;go_ret;exact⟨py (by unfold UQ;rw[c.l]),p⟩
theorem XY{a b:Bool}(h:a=b):M3 (M0 a)=M3 (M0 b):=by rw[h]
def NQ(k l m:Int)(p:Y)(n:Int):Bool:=decide (1<=n/\n<=8/\1<=k/\k<=4/\1<=l/\l<=60000/\1<=m/\m<=1000000000/\(p.size:Int)<=56-n/\(k=3->p.size=0))
@[reducible] def OE(k l m:Int)(p:Y):Nc:=.agg #[.int .i64 k,.int .i64 l,.int .i64 m,Mz p]
theorem Fl(v:Int)(c:Nat)(w:Nb)(f:0<=v)(g:v<=9223372036854775807)(m:c<=8):Calls prog 137 #[.int .i64 v,.int .i64 (c:Int)] w λe w'=>e=M3 (Mz (strOfNums (be c v)))/\Below w.heap.size w w':=by
 have h:=qn;go_enter func137,ntmps137;go_wp2;go_loopw [0,5,6] (λx o i wr=>∃k:Nat,k<=c/\i=.int .i64 k/\o=Mz (strOfNums (be k v))/\x=.int .i64 (sh k v)/\Below w.heap.size w wr) (λ_ _ i _=>c-(intOf i).toNat)
 case atStart=>exact⟨0,AM _,rfl,rfl,rfl,AB _ _⟩
 case round =>
  obtain⟨k,p,rfl,rfl,rfl,d⟩:=hrel;have j:=yL k v f g
  by_cases i:k<c
  ·have e:(strOfNums [sh k v % 256]).size<=1:=by rw[CJ];simp
   have l:(strOfNums (be k v)).size<=8:=by rw[CJ,PV];omega
   go_wp2;go_roundw
   case rel=>exact⟨k+1,ω,ν,by rw[vk,<-UJ];rfl,rfl,d.alloc d.size _⟩
   case measure=>simp[intOf];omega
  have e:k=c:=ω
  subst e;go_wp2;go_ret;exact⟨rfl,d⟩
theorem fw(n:Int)(w:Nb)(c:1<=n)(d:n<=8):Calls prog 82 #[.int .i64 n] w λe w'=>e=M3 (.int .i64 (64-n-8))/\w'=w:=by
 go_enter func82,ntmps82;go_wp2;go_ret;exact⟨rfl,rfl⟩
theorem um(n:Int)(w:Nb)(c:1<=n)(d:n<=8):Calls prog 88 #[.int .i64 n] w λe w'=>e=M3 (.int .i64 (64-n-8))/\w'=w:=by
 go_enter func88,ntmps88;go_wp2;go_ret;exact⟨rfl,rfl⟩
theorem ko(k l m:Int)(p:Y)(n:Int)(w:Nb)(i:p.size<=1048576):Calls prog 89 #[OE k l m p,.int .i64 n] w λe w'=>e=M3 (M0 (NQ k l m p n))/\Below w.heap.size w w':=by
 by_cases d:1<=n/\n<=8
 ·obtain⟨f,g⟩:=d
  go_enter func89,ntmps89;go_wp2
  all_goals first
   | (go_ret;refine⟨XY ?_,LO _ _⟩;unfold NQ;symm;apply AI;intro h;omega)
   | (go_ret;refine⟨XY ?_,LO _ _⟩;have c:(k == 3)=true:=(by assumption);rw[VP];unfold NQ;simp at c;apply JQ.2;constructor<;>intro h<;>omega)
   | (go_quiet ((go_at_call 88;exact Calls.quiet_of_same (um _ _ f g)));go_wp2;go_ret;refine⟨XY ?_,below_drewN (LO _ _) _⟩;have c:(k == 3)=false:=(by assumption);unfold NQ;simp at c;apply JQ.2;constructor<;>intro h<;>omega)
 have c:decide (1<=n/\n<=8)=false:=by simpa using d
 go_enter func89,ntmps89;go_wp2_with (go_at_call 53;refine(SZ _ _).z ?_;rw[c];rintro e w' ⟨rfl,rfl⟩);go_ret;refine⟨XY ?_,LO _ _⟩;unfold NQ;symm;apply AI;intro h;omega
theorem m4(k l m:Int)(p:Y)(n:Int)(w:Nb)(C:p.size<=1048576):Calls prog 136 #[OE k l m p,.int .i64 n] w λe w'=>e=M3 (M0 (NQ k l m p n))/\Below w.heap.size w w':=by
 by_cases g:1<=n/\n<=8
 ·obtain⟨d,f⟩:=g
  by_cases q:1<=k/\k<=4/\1<=l/\l<=60000/\1<=m/\m<=1000000000
  ·obtain⟨t,u,x,y,z,A⟩:=q
   by_cases s:(p.size:Int)<=64-n-8
   ·by_cases c:k=3
    ·have j:(k != 3)=false:=by simp[c]
     have i:Hid (k=3):=c;clear c;go_enter func136,ntmps136;go_wp2;go_quiet ((go_at_call 82;exact Calls.quiet_of_same (fw _ _ d f)));go_wp2;go_ret;refine⟨XY ?_,below_drewN (LO _ _) _⟩;rw[VP];unfold NQ;have c:=i.l;apply JQ.2;constructor<;>intro h<;>omega
    have j:(k != 3)=true:=by simp[c]
    go_enter func136,ntmps136;go_wp2;go_quiet ((go_at_call 82;exact Calls.quiet_of_same (fw _ _ d f)));go_wp2;go_ret;refine⟨XY ?_,below_drewN (LO _ _) _⟩;unfold NQ;symm;apply AL;omega
   have c:decide ((p.size:Int)<=64-n-8)=false:=by simpa using s
   go_enter func136,ntmps136;go_wp2;go_quiet ((go_at_call 82;exact Calls.quiet_of_same (fw _ _ d f)));go_wp2;go_ret;refine⟨XY ?_,below_drewN (LO _ _) _⟩;unfold NQ;symm;apply AI;intro h;omega
  have c:NQ k l m p n=false:=by unfold NQ;apply AI;intro h;omega
  have i:Hid (NQ k l m p n=false):=c;clear c;go_enter func136,ntmps136;go_wp2
  all_goals (go_ret;exact⟨XY i.l.symm,LO _ _⟩)
 have c:decide (1<=n/\n<=8)=false:=by simpa using g
 go_enter func136,ntmps136;go_wp2_with (go_at_call 21;refine(RO _ _).z ?_;rw[c];rintro e w' ⟨rfl,rfl⟩);go_ret;refine⟨XY ?_,LO _ _⟩;unfold NQ;symm;apply AI;intro h;omega
theorem QV{p:Prop}(h:p):Hid p:=h
def zm:Nc->Y
 | .string s=>s
 | _=>empty
theorem yG(k l m:Int)(p:Y):strOfNums (be 1 k)++strOfNums (be 2 l)++strOfNums (be 4 m)++strOfNums (be 1 (p.size:Int))++p=strOfNums (WD k l m p++List.replicate 0 0):=by
 rw[List.replicate_zero,DZ];unfold WD;rw[UJ,UJ,UJ,UJ,TM]
theorem vZ(xs:List Int)(j:Nat):strOfNums (xs++List.replicate j 0)++⟨#[0]⟩=strOfNums (xs++List.replicate (j+1) 0):=by
 rw[KX,<-BT,UJ _ [0]];rfl
theorem ef(v:Int)(c:Nat)(d:Int)(f:d=(c:Int))(w:Nb)(g:0<=v)(h:v<=9223372036854775807)(i:c<=8):Calls prog 137 #[.int .i64 v,.int .i64 d] w λe w'=>e=M3 (Mz (strOfNums (be c v)))/\Below w.heap.size w w':=by
 subst f;exact Fl v c w g h i
theorem cz{W:Nb}{v0 v1 v2 v3:Nc}(c:Below w.heap.size w w')
  (h:W.heap.size<w.heap.size/\w.cell? ⟨W.heap.size,0,none⟩=some v0/\w.cell? ⟨W.heap.size,1,none⟩=some v1/\w.cell? ⟨W.heap.size,2,none⟩=some v2/\w.cell? ⟨W.heap.size,3,none⟩=some v3/\Below W.heap.size W w):W.heap.size<w'.heap.size/\w'.cell? ⟨W.heap.size,0,none⟩=some v0/\w'.cell? ⟨W.heap.size,1,none⟩=some v1/\w'.cell? ⟨W.heap.size,2,none⟩=some v2/\w'.cell? ⟨W.heap.size,3,none⟩=some v3/\Below W.heap.size W w' :=⟨AD h.1 c.size,(c.cell (p:=⟨_,0,none⟩) h.1).j h.2.1,(c.cell (p:=⟨_,1,none⟩) h.1).j h.2.2.1,(c.cell (p:=⟨_,2,none⟩) h.1).j h.2.2.2.1,(c.cell (p:=⟨_,3,none⟩) h.1).j h.2.2.2.2.1,
  h.2.2.2.2.2.j (c.z (LA h.1))⟩
theorem Gl(k l m:Int)(p:Y)(n:Nat)(w:Nb)(f:NQ k l m p n=true):Calls prog 84 #[OE k l m p,.int .i64 (n:Int)] w λe w'=>e=M3 (Mz (SL k l m p n))/\Below w.heap.size w w':=by
 have s:=AV (by unfold NQ at f;exact f);obtain⟨L,M,D,E,G,H,J,K,S,_⟩:=s;have z1:(strOfNums (be 1 k)).size=1:=by rw[CJ,PV]
 have z2:(strOfNums (be 2 l)).size=2:=by rw[CJ,PV]
 have z3:(strOfNums (be 4 m)).size=4:=by rw[CJ,PV]
 have z4:(strOfNums (be 1 (p.size:Int))).size=1:=by rw[CJ,PV]
 have z5:¬(9223372036854775807<8+p.size):=ω
 go_enter func84,ntmps84;go_wp2_with (go_at_call 136;refine(m4 k l m p n _ ω).z ?_;rw[f];rintro e c ⟨rfl,h⟩)
 have q:w.heap.size<c.heap.size/\c.cell? ⟨w.heap.size,0,none⟩=some (.int .i64 k)/\c.cell? ⟨w.heap.size,1,none⟩=some (.int .i64 l)/\c.cell? ⟨w.heap.size,2,none⟩=some (.int .i64 m)/\c.cell? ⟨w.heap.size,3,none⟩=some (Mz p)/\Below w.heap.size w c :=cz (v0:=.int .i64 k) (v1:=.int .i64 l) (v2:=.int .i64 m) (v3:=Mz p) h ⟨σ,σ,σ,σ,σ,LO _ _⟩
 have g:=QV q;clear q h
 go_region_held3 (λw'=>w.heap.size<w'.heap.size/\w'.cell? ⟨w.heap.size,0,none⟩=some (.int .i64 k)/\w'.cell? ⟨w.heap.size,1,none⟩=some (.int .i64 l)/\w'.cell? ⟨w.heap.size,2,none⟩=some (.int .i64 m)/\w'.cell? ⟨w.heap.size,3,none⟩=some (Mz p)/\Below w.heap.size w w')
  (first|assumption|exact cz (below_drewN (AB _ _) 1) g.l|exact cz (by assumption) (by assumption))
  (first|(go_at_call_of 137 k;refine(ef k 1 _ rfl _ ω ω ω).z ?_;rintro e T ⟨rfl,y⟩)|(go_at_call_of 137 l;refine(ef l 2 _ rfl _ ω ω ω).z ?_;rintro e U ⟨rfl,z⟩)|(go_at_call_of 137 m;refine(ef m 4 _ rfl _ ω ω ω).z ?_;rintro e V ⟨rfl,A⟩)|(go_at_call_of 137 (p.size:Int);refine(ef (p.size:Int) 1 _ rfl _ ω ω ω).z ?_;rintro e W ⟨rfl,C⟩))
 clear g;rename_i d;have i:=d.2.2.2.2.2;clear d;go_wp2;go_loop [5] (λb=>∃j:Nat,j<=56-n-p.size/\b=Mz (strOfNums (WD k l m p++List.replicate j 0))) (λb=>64-(zm b).size)
 case atStart=>exact⟨0,AM _,by rw[yG]⟩
 case round =>
  obtain⟨j,R,rfl⟩:=hrel;have x:(strOfNums (WD k l m p++List.replicate j 0)).size=8+p.size+j:=by rw[CJ,AF,qu,DI]
  by_cases I:j<56-n-p.size
  ·go_wp2
   go_round
   case rel=>exact⟨j+1,ω,by rw[vZ]⟩
   case measure =>
    rw[vZ];simp only[zm,CJ,AF,qu,DI];omega
  have u:j=56-n-p.size:=ω
  subst u;have N:(UQ (strOfNums (WD k l m p++List.replicate (56-n-p.size) 0)) n).size=n:=gp _ _;have O:¬(9223372036854775807<n+(8+p.size+(56-n-p.size))):=ω
  go_wp2_with (go_at_call 138;refine(Ju _ _ n (by rw[x];omega) ω ω).z ?_;rintro e X ⟨rfl,t⟩);go_ret;exact⟨rfl,i.j (t.z i.size)⟩
theorem Di(k l m:Int)(p:Y)(n:Int)(w:Nb)(f:p.size<=1048576)(d:NQ k l m p n=false):Calls prog 84 #[OE k l m p,.int .i64 n] w λe w'=>e=M3 (Mz empty)/\Below w.heap.size w w':=by
 go_enter func84,ntmps84;go_wp2_with (go_at_call 136;refine(m4 k l m p n _ f).z ?_;rw[d];rintro e g ⟨rfl,c⟩);go_ret;exact⟨rfl,(LO _ _).j (c.z σ)⟩
section
def QP(xs:List Int)(o:Nat)(ys:List Int):List Int:=xs.take o++ys++xs.drop (o+ys.length)
theorem je(xs:List Int)(o:Nat)(ys:List Int)(h:o+ys.length<=xs.length):(QP xs o ys).length=xs.length:=by
 simp[QP];omega
theorem Ku(xs:List Int)(o:Nat)(ys:List Int)(h:o+ys.length<=xs.length)(i:Nat)(c:i<ys.length):(QP xs o ys).getD (o+i) 0=ys.getD i 0:=by
 have d:(xs.take o).length=o:=τ
 unfold QP;rw[AZ,BT,DG ω,d,show o+i-o=i by omega,BC c,AZ]
theorem Ly(xs:List Int)(o:Nat)(ys:List Int)(h:o+ys.length<=xs.length)(i:Nat)(c:i<o\/o+ys.length<=i):(QP xs o ys).getD i 0=xs.getD i 0:=by
 have d:(xs.take o).length=o:=τ
 unfold QP;rcases c with c|c
 ·rw[AZ,BT,BC ω,GN c,AZ]
 rw[AZ,DG τ,AF,d,FQ,show o+ys.length+(i-(o+ys.length))=i by omega,AZ]
structure Fm(w:Nb)(F:Nat)(xs:List Int):Prop where
 cell:∀i,i<xs.length->w.cell? ⟨F,i,none⟩=some (.int .u8 (xs.getD i 0))
 froz:∀i,i<xs.length->w.frozen? ⟨F,i,none⟩=false
theorem Fm.drew(h:Fm w F xs):Fm w.drew F xs:=⟨h.cell,h.froz⟩
theorem Fm.wrote(h:Fm w F xs)(d:Wrote w w' F o ys)(c:o+ys.length<=xs.length):Fm w' F (QP xs o ys):=by
 have g:=je xs o ys c;refine⟨λi e=>?_,λi e=>(d.frozen _).j (h.froz i ω)⟩
 by_cases f:o<=i/\i<o+ys.length
 ·have:=d.inside (i-o) ω
  rw[show o+(i-o)=i by omega]at this;rw[this];have e:=Ku xs o ys c (i-o) ω;rw[show o+(i-o)=i by omega]at e;rw[e]
 rw[d.outside i ω,h.cell i ω,Ly xs o ys c i ω]
theorem Fm.I(h:Fm w F xs)(d:Below w.heap.size w w')(hF:F<w.heap.size):Fm w' F xs :=⟨λi c=>(d.cell (p:=⟨F,i,none⟩) hF).j (h.cell i c),λi c=>(d.frozen (p:=⟨F,i,none⟩) hF).j (h.froz i c)⟩
theorem VW(b:Nat):∀(vs:List Nc) (o:Nat) (w:Nb),(w.setCells b o vs).heap.size=w.heap.size
 | [],_,_=>rfl
 | v::r,o,w=>by rw[World.setCells,VW b r];simp[World.setCell]
theorem jg(b:Nat):∀(vs:List Nc) (o:Nat) (w:Nb) (k:Nat),k≠b->(w.setCells b o vs).heap[k]?=w.heap[k]?
 | [],_,_,_,_=>rfl
 | v::r,o,w,k,h=>by rw[World.setCells,jg b r _ _ _ h,BF _ _ _ _ h]
theorem YG(b:Nat):∀(vs:List Nc) (o:Nat) (w:Nb),(w.setCells b o vs).os=w.os/\(w.setCells b o vs).tape=w.tape/\(w.setCells b o vs).output=w.output
 | [],_,_=>⟨rfl,rfl,rfl⟩
 | v::r,o,w=>by rw[World.setCells];exact YG b r (o+1) _
theorem sA(w:Nb)(b o:Nat)(t:Y)(l:∀j,j<t.size->(w.cell? ⟨b,o+j,none⟩).isSome=true):Wrote w (w.setCells b o (t.data.toList.map λx=>Value.int .u8 (x.toNat:Int))) b o (LI t):=by
 have d:(t.data.toList.map λx=>Value.int .u8 (x.toNat:Int)).length=t.size:=σ
 obtain⟨f,g,h⟩:=YG b (t.data.toList.map λx=>Value.int .u8 (x.toNat:Int)) o w;refine⟨f,g,h,VW _ _ _ _,λk m=>jg _ _ _ _ _ m,λi c=>?_,λx e=>?_,λa=>FC _ _ _ _ _⟩
 ·rw[NH]at c
  rw[JF b _ o w (by rw[d];exact l) i (by rw[d];exact c)];have j:i<t.data.toList.length:=by simpa using c
  simp[LI,List.getD,BQ j]
 rw[NH]at e
 exact EC b _ o w ⟨b,x,none⟩ (λ_ _=>by rw[d];simpa using e)
theorem Fm.text(h:Fm w F xs)(f e d:TypeId)(l:P.underlying f=some (.slice e))(j:P.underlying e=some (.int .u8))(g:P.underlying d=some .string)(o n c:Nat)(m:o+n<=xs.length):(convert f d (.slice (Mw F o) n c)).run P w=.ok (Mz (strOfNums ((xs.drop o).take n))) w :=FO (P:=P) w f e l j F o n c ((xs.drop o).take n) τ (λi k=>by
  rw[h.cell (o+i) ω]
  simp[List.getD,GN k,FQ]) d g
theorem Fm.step(h:Fm w F xs)(e:xs.length=64)(d:Wrote w w' F o ys)(f:o+ys.length<=64):∃c,Hid (c=QP xs o ys)/\c.length=64/\Fm w' F c :=⟨QP xs o ys,(rfl:QP xs o ys=QP xs o ys),by rw[je _ _ _ ω,e],h.wrote d ω⟩
theorem Fm.range(h:Fm w F xs):w.rangeAt F 0 (xs.map (Value.int .u8)):=λj v hv=>by
 obtain⟨c,e⟩:=DJ.1 hv;simp at c;rw[BG,h.cell j c];simp at e;subst e;simp[List.getD,BQ c]
structure PI(W w:Nb)(c0 c1 c2 c3:Nc):Prop where
 size:W.heap.size+3<=w.heap.size
 bel:Below W.heap.size W w
 b0:w.cell? ⟨W.heap.size,0,none⟩=some c0
 b1:w.cell? ⟨W.heap.size,1,none⟩=some c1
 b2:w.cell? ⟨W.heap.size,2,none⟩=some c2
 b3:w.cell? ⟨W.heap.size,3,none⟩=some c3
 there:w.there (W.heap.size+1) 0 64
section
variable {W w w':Nb} {c0 c1 c2 c3:Nc}
theorem PI.drew(h:PI W w c0 c1 c2 c3):PI W w.drew c0 c1 c2 c3:=⟨h.size,h.bel.drew,h.b0,h.b1,h.b2,h.b3,h.there⟩
theorem PI.I(h:PI W w c0 c1 c2 c3)(c:Below w.heap.size w w'):PI W w' c0 c1 c2 c3 :=have e:=h.size
 ⟨AK e c.size,h.bel.j (c.z ω),(c.cell (p:=⟨_,0,none⟩) (by show W.heap.size<_;omega)).j h.b0,(c.cell (p:=⟨_,1,none⟩) (by show W.heap.size<_;omega)).j h.b1,
  (c.cell (p:=⟨_,2,none⟩) (by show W.heap.size<_;omega)).j h.b2,(c.cell (p:=⟨_,3,none⟩) (by show W.heap.size<_;omega)).j h.b3,
  λj d=>by rw[c.cell (p:=⟨_,_,none⟩) (by show W.heap.size+1<_;omega),c.frozen (p:=⟨_,_,none⟩) (by show W.heap.size+1<_;omega)];exact h.there j d⟩
theorem PI.wrote(h:PI W w c0 c1 c2 c3)(f:Wrote w w' (W.heap.size+1+1) o ys):PI W w' c0 c1 c2 c3 :=have e:=h.size;have c:Below (W.heap.size+1+1) w w':=f.I (AA _)
 ⟨AK e c.size,h.bel.j (c.z ω),(c.cell (p:=⟨_,0,none⟩) (by show W.heap.size<_;omega)).j h.b0,(c.cell (p:=⟨_,1,none⟩) (by show W.heap.size<_;omega)).j h.b1,
  (c.cell (p:=⟨_,2,none⟩) (by show W.heap.size<_;omega)).j h.b2,(c.cell (p:=⟨_,3,none⟩) (by show W.heap.size<_;omega)).j h.b3,
  λj d=>by rw[c.cell (p:=⟨_,_,none⟩) (by show W.heap.size+1<_;omega),c.frozen (p:=⟨_,_,none⟩) (by show W.heap.size+1<_;omega)];exact h.there j d⟩
theorem PI.toS(h:PI W w c0 c1 c2 c3):w.cell? ⟨W.heap.size,0,none⟩=some c0/\w.cell? ⟨W.heap.size,1,none⟩=some c1/\w.cell? ⟨W.heap.size,2,none⟩=some c2/\w.cell? ⟨W.heap.size,3,none⟩=some c3/\PI W w c0 c1 c2 c3:=⟨h.b0,h.b1,h.b2,h.b3,h⟩
theorem PI.ofS(h:w.cell? ⟨W.heap.size,0,none⟩=some c0/\w.cell? ⟨W.heap.size,1,none⟩=some c1/\w.cell? ⟨W.heap.size,2,none⟩=some c2/\w.cell? ⟨W.heap.size,3,none⟩=some c3/\PI W w c0 c1 c2 c3):PI W w c0 c1 c2 c3:=h.2.2.2.2
end
theorem XR(w:Nb)(b o:Nat)(h:w.heap.size<=b):w.frozen? ⟨b,o,none⟩=false:=by
 have e:w.heap[b]?=none:=by simp[h]
 simp[World.frozen?,e]
theorem Hd{c:Code}{a:Act}(w:Nb)(e f g k:Nc)(p q s:TypeId)(A B:Array Nc)(t:A=Array.replicate 64 (.int .u8 0))(u:B=Array.replicate 64 (.int .u8 0))
  (h:∀d,PI w d e f g k->Fm d (w.heap.size+1+1) (List.replicate 64 0)->c.wp P Q a d):c.wp P Q a (((w.alloc (.cells #[e,f,g,k] p)).alloc (.cells A q)).alloc (.cells B s)):=by
 subst t u
 have d:∀(i:Nat) {v:Nc},#[e,f,g,k][i]?=some v->(((w.alloc (.cells #[e,f,g,k] p)).alloc (.cells (Array.replicate 64 (.int .u8 0)) q)).alloc (.cells (Array.replicate 64 (.int .u8 0)) s)).cell? ⟨w.heap.size,i,none⟩=some v:=λi v hv=>by
  rw[FA _ _ _ τ,FA _ _ _ σ,EL _ _ _ _ rfl];exact hv
 refine h _ ⟨σ,((LO _ _).alloc σ _).alloc τ _,d _ rfl,d _ rfl,d _ rfl,d _ rfl,λj x=>?_⟩ ⟨λi m=>?_,λi m=>?_⟩
 ·rw[BG,FA _ _ _ σ,EL _ _ _ _ σ,DQ,DQ,DQ]
  simp[x,XR]
 ·rw[EL _ _ _ _ σ]
  have l:i<64:=by simpa only[DI] using m
  rw[Array.getElem?_replicate,AE l,AZ,EM,AE l];rfl
 rw[DQ,DQ,DQ]
 exact XR _ _ _ ω
theorem wH{f:Func}{p:Tmp}{e:TypeId}(h:f.results=#[.cell p e])(c:Array Nc)(w:Nb)(b o:Nat)(g:c.getD p undef=Mv b o)
  (cs:List Nc)(d:TypeDesc)(i:w.rangeAt b o cs)(m:P.underlying e=some d)(j:d.isRow=true)(k:(P.info? e).map (·.size)=some cs.length):(results f c).run P w=.ok (.agg cs.toArray) w:=by
 have l:=JA (P:=P) w b o e cs d i m j k;simp only[results,h];rw[Array.getD_eq_getD_getElem?]at g;simp[g,asAddr,l]
theorem WB(xs:List Int):∀v∈xs.map (Value.int .u8),v.oneCell'=true:=λv hv=>by
 obtain⟨x,_,rfl⟩:=DS.1 hv;rfl
theorem Hp(xs ys:List Int)(n:Nat)(c:ys.length=n):(QP xs 0 ys).drop n=xs.drop n:=by
 unfold QP;rw[ES,DW,BG,<-c,List.drop_left]
theorem Fm.isSome(h:Fm w F xs)(o m:Nat)(d:o+m<=xs.length):∀j,j<m->(w.cell? ⟨F,o+j,none⟩).isSome=true:=λj c=>by
 rw[h.cell (o+j) ω];rfl
theorem Fm.frozen(h:Fm w F xs)(o m:Nat)(d:o+m<=xs.length):∀j,j<m->w.frozen? ⟨F,o+j,none⟩=false:=λj c=>h.froz (o+j) ω
theorem Fm.copied(h:Fm w F xs)(o:Nat)(t:Y)(c:o+t.size<=xs.length):Wrote w (w.setCells F o (t.data.toList.map λx=>Value.int .u8 (x.toNat:Int))) F o (LI t) :=sA w F o t (h.isSome o t.size c)
theorem jc(A ys:List Int)(j o:Nat)(c:A.length=o):QP (A++List.replicate j 0) o ys=A++ys++List.replicate (j-ys.length) 0:=by
 unfold QP;rw[ID ω,AQ ω,<-c,List.drop_length_add_append,List.drop_replicate]
theorem xI(k l m:Int)(p:Y)(n:Nat)(h:n<=64){c d e f g i:List Int}(y:c=List.replicate 64 0)(j:d=QP c n (be 1 k))(q:e=QP d (n+1) (be 2 l))(s:f=QP e (n+3) (be 4 m))
  (t:g=QP f (n+7) (be 1 (p.size:Int)))(u:i=QP g (n+8) (LI p)):i=List.replicate n 0++QO k l m p n:=by
 have x:c=List.replicate n 0++List.replicate (64-n) 0:=by rw[y,List.replicate_append_replicate];congr 1;omega
 rw[x,jc _ _ _ n σ]at j;rw[j,jc _ _ _ (n+1) (by simp[PV])]at q;rw[q,jc _ _ _ (n+3) (by simp[PV])]at s;rw[s,jc _ _ _ (n+7) (by simp[PV])]at t;rw[t]at u;rw[u,jc _ _ _ (n+8) (by simp[PV])];unfold QO WD;simp only[BT,PV,NH]
 congr 7
 omega
theorem qm(a b:Y):LI (a++b)=LI a++LI b:=by simp[LI]
theorem kh(xs:List Int)(h:∀x∈xs,0<=x/\x<256):LI (strOfNums xs)=xs:=by
 unfold LI;rw[strOfNums_data,IE]
 conv=>rhs;rw[<-List.map_id xs]
 apply IX
 intro x c;have:=h x c;simp only[Function.comp,id];rw[UInt8.toNat_ofNat'];omega
theorem dm(n:Nat)(v:Int):∀x∈be n v,0<=x/\x<256:=λx c=>by
 unfold be at c;obtain⟨i,_,rfl⟩:=DS.1 c;omega
theorem C8(p:Y):∀x∈LI p,0<=x/\x<256:=λx d=>by
 unfold LI at d;obtain⟨c,_,rfl⟩:=DS.1 d;have:=c.toNat_lt;omega
theorem m8(k l m:Int)(p:Y)(n:Nat):∀x∈QO k l m p n,0<=x/\x<256:=λx c=>by
 unfold QO WD at c;simp only[BJ,List.mem_replicate]at c;rcases c with ((((h|h)|h)|h)|h)|h
 ·exact dm _ _ x h
 ·exact dm _ _ x h
 ·exact dm _ _ x h
 ·exact dm _ _ x h
 ·exact C8 _ x h
 omega
theorem zT(k l m:Int)(p:Y)(n:Nat)(h:p.size+n<=56){d:List Int}{c:Y}{M:Nat}(i:M=64-n)(f:d=List.replicate n 0++QO k l m p n)(g:c=strOfNums ((d.drop n).take M)):c=strOfNums (QO k l m p n)/\QP d 0 (LI (UQ c n))=LI (SL k l m p n):=by
 have j:=rH k l m p n h
 have e:c=strOfNums (QO k l m p n):=by
  rw[g,f,FJ σ,AQ ω]
 refine⟨e,?_⟩;unfold QP SL;rw[<-e,qm,NH,gp,f,ES,DW,BG,FJ σ]
 congr 1
 rw[e,kh _ (m8 k l m p n)]
theorem Dn(w:Nb)(A:Array Nc)(t:TypeId)(n:Nat)(v:Nc)(c:A=Array.replicate n v):(w.alloc (.cells A t)).there w.heap.size 0 n:=λj d=>by
 subst c;rw[BG,EL _ _ _ _ rfl,DQ];exact⟨by simp[d],XR _ _ _ (AA _)⟩
theorem tk{j:Array Oper}{g:List Oper}{d:Oper}{a:Act}(l:d.guard=none)(f:TypeId)(x y:Operand)(p:d.op=.store f x y)
  (xs:List Int)(s:a.eval x=Mv w.heap.size 0)(u:a.eval y=.agg (xs.map (Value.int .u8)).toArray)(A:Array Nc)(t:TypeId)(v:Nc)(m:A=Array.replicate xs.length v)
  (c:(P.info? f).map (·.size)=some xs.length)
  (h:∀e,Fm e w.heap.size xs->Below w.heap.size w e->e.heap.size=w.heap.size+1->wpList P j Q g (a.put d.dst undef) e):wpList P j Q (d::g) a (w.alloc (.cells A t)):=by
 have e:=Dn w A t xs.length v m;have k:(xs.map (Value.int .u8)).toArray.size=xs.length:=σ
 refine BI l f x y p w.heap.size 0 _ s u (by rw[k];exact e) (by rw[k];exact c) (GH (WB xs)) ?_;have q:=EG (w.alloc (.cells A t)) w.heap.size 0 (xs.map (Value.int .u8)) (by rw[BU];exact e);refine h _ ⟨λi c=>?_,λi c=>?_⟩ (Go.below_setCells (AA _) _ _ _ (LO _ _)) (by rw[VW];simp)
 ·have:=q i (.int .u8 (xs.getD i 0)) (by simp[List.getD,BQ c])
  simpa using this
 rw[FC,DQ];exact XR _ _ _ (AA _)
end
set_option maxRecDepth 4000 in
theorem oG(k l m:Int)(p:Y)(n:Nat)(w:Nb)(H:NQ k l m p n=true):Calls prog 90 #[OE k l m p,.int .i64 (n:Int)] w λe w'=>e=M3 (.agg ((LI (SL k l m p n)).map (Value.int .u8)).toArray)/\Below w.heap.size w w':=by
 have O:=AV (by unfold NQ at H;exact H);obtain⟨eH,eI,dV,dZ,eB,eC,eF,eG,K,_⟩:=O
 have I:=λf=>mz (P:=prog) (t:=142) underlying142 (λ_=>κ) (w.heap.size+1+1) 0 n ω .i64 (n:Int) rfl f
 rw[BG]at I;obtain⟨M,q⟩:∃M,Hid (M=64-n):=⟨64-n,QV rfl⟩;rw[<-q.l]at I;have cW:(56:Int)<=(M:Int):=by have:=q.l;omega
 have cZ:(M:Int)<=63:=by have:=q.l;omega
 have dL:(1:Int)<=(M:Int):=ω
 have dM:(3:Int)<=(M:Int):=ω
 have dN:(7:Int)<=(M:Int):=ω
 have dP:(8:Int)<=(M:Int):=ω
 have eK:IntKind.u64.wrap k=k:=XU k ω ω;have eL:IntKind.u64.wrap l=l:=XU l ω ω;have eM:IntKind.u64.wrap m=m:=XU m ω ω;have eN:IntKind.u64.wrap (p.size:Int)=(p.size:Int):=XU _ ω ω;have dQ:¬(M=1):=ω
 have dR:¬(M=3):=ω
 have dU:¬(M=7):=ω
 go_enter func90,ntmps90;go_wp2_with fail;refine Hd w (.int .i64 k) (.int .i64 l) (.int .i64 m) (Mz p) _ _ _ _ _ rfl rfl ?_;intro wa i c;have d:(List.replicate 64 (0:Int)).length=64:=σ
 obtain⟨J,G⟩:∃J,Hid (J=List.replicate 64 (0:Int)):=⟨_,QV rfl⟩;rw[<-G.l]at c d;have g:=c;have h:=i;clear c i;have t:=QV h.toS;clear h
 go_region_held3 (λw'=>w'.cell? ⟨w.heap.size,0,none⟩=some (.int .i64 k)/\w'.cell? ⟨w.heap.size,1,none⟩=some (.int .i64 l)/\w'.cell? ⟨w.heap.size,2,none⟩=some (.int .i64 m)/\w'.cell? ⟨w.heap.size,3,none⟩=some (Mz p)/\PI w w' (.int .i64 k) (.int .i64 l) (.int .i64 m) (Mz p))
  (first|assumption|exact(PI.ofS t.l).drew.toS|exact(PI.wrote (PI.ofS (by assumption)) (by assumption)).toS)
  (first|(go_at_call 139;refine(bk (w.heap.size+1+1) n 1 M k _ ω ω ω (λi c=>⟨_,g.drew.cell (n+i) (by rw[d];omega)⟩) (λi c=>g.drew.froz (n+i) (by rw[d];omega))).z ?_;rintro e wb ⟨rfl,u⟩))
 have s:PI w wb (.int .i64 k) (.int .i64 l) (.int .i64 m) (Mz p):=PI.ofS (by assumption);obtain⟨eO,R,j,h⟩:=g.drew.step d u (by rw[PV];omega);clear t u g d;go_wp2_with fail;have t:=QV s.toS;clear s
 go_region_held3 (λw'=>w'.cell? ⟨w.heap.size,0,none⟩=some (.int .i64 k)/\w'.cell? ⟨w.heap.size,1,none⟩=some (.int .i64 l)/\w'.cell? ⟨w.heap.size,2,none⟩=some (.int .i64 m)/\w'.cell? ⟨w.heap.size,3,none⟩=some (Mz p)/\PI w w' (.int .i64 k) (.int .i64 l) (.int .i64 m) (Mz p))
  (first|assumption|exact(PI.ofS t.l).drew.toS|exact(PI.wrote (PI.ofS (by assumption)) (by assumption)).toS)
  (first|(go_at_call 139;refine(bk (w.heap.size+1+1) (n+1) 2 (M-1) l _ ω ω ω (λi c=>⟨_,h.drew.cell (n+1+i) (by rw[j];omega)⟩) (λi c=>h.drew.froz (n+1+i) (by rw[j];omega))).z ?_;rintro e wc ⟨rfl,u⟩))
 have g:PI w wc (.int .i64 k) (.int .i64 l) (.int .i64 m) (Mz p):=PI.ofS (by assumption);obtain⟨eP,S,s,d⟩:=h.drew.step j u (by rw[PV];omega);clear t u h j;go_wp2_with fail;have t:=QV g.toS;clear g
 go_region_held3 (λw'=>w'.cell? ⟨w.heap.size,0,none⟩=some (.int .i64 k)/\w'.cell? ⟨w.heap.size,1,none⟩=some (.int .i64 l)/\w'.cell? ⟨w.heap.size,2,none⟩=some (.int .i64 m)/\w'.cell? ⟨w.heap.size,3,none⟩=some (Mz p)/\PI w w' (.int .i64 k) (.int .i64 l) (.int .i64 m) (Mz p))
  (first|assumption|exact(PI.ofS t.l).drew.toS|exact(PI.wrote (PI.ofS (by assumption)) (by assumption)).toS)
  (first|(go_at_call 139;refine(bk (w.heap.size+1+1) (n+3) 4 (M-3) m _ ω ω ω (λi c=>⟨_,d.drew.cell (n+3+i) (by rw[s];omega)⟩) (λi c=>d.drew.froz (n+3+i) (by rw[s];omega))).z ?_;rintro e wd ⟨rfl,u⟩))
 have j:PI w wd (.int .i64 k) (.int .i64 l) (.int .i64 m) (Mz p):=PI.ofS (by assumption);obtain⟨eQ,T,h,g⟩:=d.drew.step s u (by rw[PV];omega);clear t u d s;go_wp2_with fail;have s:=QV j.toS;clear j
 go_region_held3 (λw'=>w'.cell? ⟨w.heap.size,0,none⟩=some (.int .i64 k)/\w'.cell? ⟨w.heap.size,1,none⟩=some (.int .i64 l)/\w'.cell? ⟨w.heap.size,2,none⟩=some (.int .i64 m)/\w'.cell? ⟨w.heap.size,3,none⟩=some (Mz p)/\PI w w' (.int .i64 k) (.int .i64 l) (.int .i64 m) (Mz p))
  (first|assumption|exact(PI.ofS s.l).drew.toS|exact(PI.wrote (PI.ofS (by assumption)) (by assumption)).toS)
  (first|(go_at_call 139;refine(bk (w.heap.size+1+1) (n+7) 1 (M-7) (p.size:Int) _ ω ω ω (λi c=>⟨_,g.drew.cell (n+7+i) (by rw[h];omega)⟩) (λi c=>g.drew.froz (n+7+i) (by rw[h];omega))).z ?_;rintro e L ⟨rfl,t⟩))
 have j:PI w L (.int .i64 k) (.int .i64 l) (.int .i64 m) (Mz p):=PI.ofS (by assumption);obtain⟨eT,U,d,c⟩:=g.drew.step h t (by rw[PV];omega);clear s t g h;go_wp2_with fail;have dH:¬(M=8):=ω
 have cV:p.size<=M-8:=by have:=q.l;omega
 have i:=QV (c.drew.copied (n+8) p (by rw[d];omega));have t:=QV (c.drew.isSome (n+8) p.size (by rw[d];omega));have u:=QV (c.drew.frozen (n+8) p.size (by rw[d];omega));have g:=QV j.toS;clear j
 go_region_held3 (λw'=>w'.cell? ⟨w.heap.size,0,none⟩=some (.int .i64 k)/\w'.cell? ⟨w.heap.size,1,none⟩=some (.int .i64 l)/\w'.cell? ⟨w.heap.size,2,none⟩=some (.int .i64 m)/\w'.cell? ⟨w.heap.size,3,none⟩=some (Mz p)/\PI w w' (.int .i64 k) (.int .i64 l) (.int .i64 m) (Mz p))
  (first|assumption|exact(PI.ofS g.l).drew.toS|exact(PI.wrote (PI.ofS g.l).drew i.l).toS)
  (first|(refine step_copy_string ρ _ _ _ _ ρ 5 underlying22 (λ_=>κ) (w.heap.size+1+1) (n+8) (M-8) (M-8) ρ p ρ cV t.l u.l ?_))
 have h:=PI.wrote (PI.ofS g.l).drew i.l;obtain⟨y,V,s,z⟩:=c.drew.step d i.l (by rw[NH];omega);clear g i t u c d;obtain⟨A,c⟩:∃A,A=L.drew.setCells (w.heap.size+1+1) (n+8) (List.map (λx=>Value.int IntKind.u8 (x.toNat:Int)) p.data.toList):=⟨_,rfl⟩;rw[<-c]at z h⊢;clear c;go_wp2_with fail
 have eJ:=λf=>qo (P:=prog) (t:=142) underlying142 (λ_=>κ) (w.heap.size+1+1) 0 n ω ω .i64 (n:Int) rfl f
 obtain⟨d,C⟩:∃d,Hid (d=strOfNums ((y.drop n).take M)):=⟨_,QV rfl⟩;have X:d.size=M:=by rw[C.l,CJ,AP,CU,s];have:=q.l;omega
 have hF:w.heap.size+1+1<A.drew.heap.size:=by have:=h.size;show _<A.heap.size;omega
 have D:∀(f:Nb) (xs:List Int),xs.length=64->(xs.drop n).take M=(y.drop n).take M->Fm f (w.heap.size+1+1) xs->PI w f (.int .i64 k) (.int .i64 l) (.int .i64 m) (Mz p) ->
   (convert 22 9 (.slice (Mw (w.heap.size+1+1) n) M M)).run prog f=.ok (Mz d) f/\f.there (w.heap.size+1+1) 0 64/\PI w f (.int .i64 k) (.int .i64 l) (.int .i64 m) (Mz p):=λf xs i g c K=>by
  refine⟨?_,λj i=>⟨?_,?_⟩,K⟩
  ·rw[c.text 22 5 9 underlying22 underlying5 underlying9 n M M (by have:=q.l;omega),g,C.l]
  ·exact c.isSome 0 64 ω j i
  exact c.frozen 0 64 ω j i
 have u:=QV D;have g:=QV z;have t:=QV h;clear D z h;have h:(UQ d n).size=n:=gp _ _
 go_region_held3 (λw'=>(convert 22 9 (.slice (Mw (w.heap.size+1+1) n) M M)).run prog w'=.ok (Mz d) w'/\w'.there (w.heap.size+1+1) 0 64/\PI w w' (.int .i64 k) (.int .i64 l) (.int .i64 m) (Mz p))
  (first|assumption|exact u.l _ y s rfl g.l.drew t.l.drew|exact u.l _ y s rfl (g.l.drew.I c hF) (t.l.drew.I c)|exact u.l _ _ (by rw[je _ _ _ (by rw[NH,h];omega)];exact s) (by rw[Hp _ _ n (by rw[NH,h])]) ((g.l.drew.I c hF).wrote ((g.l.drew.I c hF).copied 0 (UQ d n) (by rw[h];omega)) (by rw[NH,h];omega)) (PI.wrote (t.l.drew.I c) ((g.l.drew.I c hF).copied 0 (UQ d n) (by rw[h];omega))))
  (first|(go_at_call 140;refine(Kc d _ n (by rw[X];omega) ω ω).z ?_;rintro e D ⟨rfl,c⟩)|(refine step_copy_string ρ _ _ _ _ ρ 5 underlying22 (λ_=>κ) (w.heap.size+1+1) 0 n 64 ρ (UQ d n) ρ (by rw[h];omega) (λj i=>((u.l _ y s rfl (g.l.drew.I c hF) (t.l.drew.I c)).2.1 j (by rw[h]at i;omega)).1) (λj i=>((u.l _ y s rfl (g.l.drew.I c hF) (t.l.drew.I c)).2.1 j (by rw[h]at i;omega)).2) ?_))
 have D:=(g.l.drew.I c hF).copied 0 (UQ d n) (by rw[h];omega);have z:=PI.wrote (t.l.drew.I c) D;obtain⟨i,W,j,E⟩:=(g.l.drew.I c hF).step s D (by rw[NH,h];omega)
 have N:Hid (i=LI (SL k l m p n)):=by
  have h5:=xI k l m p n ω G.l R.l S.l T.l U.l V.l;show i=_;rw[W.l,(zT k l m p n ω q.l h5 C.l).2]
 clear D g t u c hF;obtain⟨g,c⟩:∃g,g=D.setCells (w.heap.size+1+1) 0 (List.map (λx=>Value.int IntKind.u8 (x.toNat:Int)) (UQ d n).data.toList):=⟨_,rfl⟩;rw[<-c]at E z⊢;clear c;have c:(i.map (Value.int .u8)).toArray.size=64:=by simp[j]
 go_wp2_with (first
  | (refine AS rfl 142 _ rfl (w.heap.size+1+1) 0 rfl (i.map (Value.int .u8)) _ E.range underlying142 rfl (by rw[BU,j];kernel_rfl) ?_)
  | (refine BI rfl 142 _ _ rfl (w.heap.size+1) 0 (i.map (Value.int .u8)).toArray rfl rfl (by rw[c];exact z.there) (by rw[c];kernel_rfl) (GH (WB i)) ?_))
 refine AJ (v:=.agg (i.map (Value.int .u8)).toArray) (wH (p:=4) results90 _ _ (w.heap.size+1) 0 rfl (i.map (Value.int .u8)) _ (EG _ _ _ _ (by rw[BU,j];exact z.there)) underlying142 rfl (by rw[BU,j];kernel_rfl)) rfl ⟨by rw[N.l],?_⟩;exact below_setCells ω _ _ _ z.bel
def MM(k l m:Int)(p:Y)(n:Int):Y:=if NQ k l m p n=true then SL k l m p n.toNat else empty
theorem aq(k l m:Int)(p:Y)(n:Int)(w:Nb)(d:p.size<=1048576):Calls prog 84 #[OE k l m p,.int .i64 n] w λe w'=>e=M3 (Mz (MM k l m p n))/\Below w.heap.size w w':=by
 unfold MM
 cases h:NQ k l m p n with
 | true =>
  have c:=AV (by unfold NQ at h;exact h);have e:1<=n:=c.1;obtain⟨j,rfl⟩:∃j:Nat,n=(j:Int):=⟨n.toNat,ω⟩;rw[AE rfl,BM];exact Gl k l m p j w h
 | false=>rw[AG σ];exact Di k l m p n w d h
theorem QG{a c:Nb}(h:a.grownBy b r)(k:b.grownBy c r):a.grownBy c r :=⟨k.os.j h.os,k.tape.j h.tape,k.output.j h.output,AK h.size k.size,λi d e=>(k.block i (AD d h.size) e).j (h.block i d e)⟩
theorem UA{a:Nb}(r:Option Nat)(h:Below a.heap.size a b):a.grownBy b r:=⟨h.os,h.tape,h.output,h.size,λi c _=>h.block i c⟩
theorem QC{a:Nb}{g:Nat}(h:a.grownBy b (some g))(i:Nat)(v:Nc):a.grownBy (b.setCell ⟨g,i,none⟩ v) (some g) :=QG h ⟨rfl,rfl,rfl,by simp[World.setCell],λj _ c=>BF _ _ _ _ (λe=>c (by rw[e]))⟩
theorem NR{a:Nb}(h:a.grownBy b r)(d:B<=a.heap.size)(c:∀g,r=some g->B<=g):Below B a b :=⟨h.os,h.tape,h.output,h.size,λk f=>h.block k ω (λe=>by have:=c k e.symm;omega)⟩
theorem Row.J{g:Nat}(h:Row w g cs)(c:w.grownBy w' r)(d:some g≠r):Row w' g cs :=⟨AD h.lt c.size,λi v hv=>(DH (a:=⟨g,i,none⟩) (c.block g h.lt d)).j (h.cell i v hv),λi e=>(GT (a:=⟨g,i,none⟩) (c.block g h.lt d)).j (h.froz i e)⟩
def OwnS(w:Nb)(a:M6)(cs:List Nc):Prop:=cs=[]\/∃g,a=Mw g 0/\Row w g cs
def blk(a:M6)(n:Nat):Option Nat:=if n=0 then none else a.map (·.block)
theorem NT(b o:Nat)(n:Nat)(h:n≠0):blk (Mw b o) n=some b:=by simp[blk,h]
structure OwnD(w:Nb)(a:M6)(ss:List Y)(a':M6)(ws:List (Int×Y)):Prop where
 s:OwnS w a (ss.map Value.string)
 p:OwnS w a' (NP ws)
 ne:blk a ss.length=none\/blk a' ws.length=none\/blk a ss.length≠blk a' ws.length
theorem OwnS.I(h:OwnS w a cs)(e:Below w.heap.size w w'):OwnS w' a cs:=by
 rcases h with h|⟨g,c,d⟩
 ·exact .inl h
 exact .inr ⟨g,c,d.I e⟩
theorem OwnS.J(h:OwnS w a cs)(f:w.grownBy w' r)(i:∀g,a=Mw g 0->cs≠[]->some g≠r):OwnS w' a cs:=by
 by_cases c:cs=[]
 ·exact .inl c
 obtain⟨g,d,e⟩:=h.resolve_left c
 exact .inr ⟨g,d,e.J f (i g d c)⟩
theorem OwnS.lt(h:OwnS w a cs)(n:Nat)(i:n≠0->cs≠[]):∀g,blk a n=some g->g<w.heap.size:=λg d=>by
 by_cases c:n=0
 ·subst c;cases d
 obtain⟨e,rfl,f⟩:=h.resolve_left (i c)
 rw[NT e 0 n c]at d
 cases d
 exact f.lt
theorem OwnD.I{c:M6}(h:OwnD w a ss c ws)(d:Below w.heap.size w w'):OwnD w' a ss c ws:=⟨h.s.I d,h.p.I d,h.ne⟩
theorem OwnS.strs(h:OwnS w a (ss.map Value.string)):Strs w a ss:=by
 rcases h with h|⟨g,rfl,c⟩
 ·exact .inl (by simpa using h)
 exact c.strs
theorem OwnS.wrs(h:OwnS w a (NP ws)):Wrs w a ws:=by
 rcases h with h|⟨g,rfl,c⟩
 ·exact .inl (by have:=CX List.length h;rw[ca,AR]at this;exact AC ω)
 exact c.wrs
theorem ig(h:ss.length≠0):ss.map Value.string≠[]:=λe=>h (by have:=CX List.length e;simpa using this)
theorem VE(h:ss.map Value.string≠[]):ss.length≠0:=λe=>h (by rw[AC e];rfl)
theorem ac(h:NP ws≠[]):ws.length≠0:=λe=>h (by rw[AC e];rfl)
def RY(s:Y)(l f:Int)(n m N i:Nat):Y:=MM (if i+1=N then 2 else 1) l (f+(i:Int)) (s.extract (i*m) (i*m+m)) (n:Int)
def qh(l f:Int)(N:Nat):Bool:=decide (1<=l/\l<=60000/\1<=f/\f+(N:Int)<=1000000001)
def QH(s:Y)(l f:Int)(n m N k:Nat):List Y:=(List.range k).map (RY s l f n m N)
theorem sb(s:Y)(l f:Int)(n m N k:Nat):QH s l f n m N (k+1)=QH s l f n m N k++[RY s l f n m N k]:=by simp[QH,FT]
theorem WW(s:Y)(l f:Int)(n m N k:Nat):(QH s l f n m N k).length=k:=by simp[QH]
def PG(s:Y)(l f:Int)(n m:Nat):List Y:=if qh l f (OG s.size m)=true then QH s l f n m (OG s.size m) (OG s.size m) else []
theorem oA(l m:Nat):OG l m<=l+1:=by
 unfold OG
 split
 ·omega
 have:=KT (l-1) m;omega
theorem ub(l m:Nat):0<OG l m:=by
 unfold OG
 split
 ·omega
 exact Nat.succ_pos _
theorem Bj(l m k:Nat)(e:0<m)(c:k<OG l m):l<=(k+1)*m<->k+1=OG l m:=by
 unfold OG at c⊢
 by_cases d:l=0
 ·rw[AE d]at c⊢
  omega
 rw[AG d]at c⊢
 constructor
 ·intro h
  have:(l-1) / m<k+1:=(KV e).2 ω;omega
 intro h
 have f:(l-1) / m<k+1:=ω
 have:=(KV e).1 f;omega
theorem Fq(s:Y)(a m:Nat):(s.extract a (a+m)).size<=m:=by simp only[AO];omega
theorem XZ{s:Y}{l f:Int}{m N:Nat}(c:N=OG s.size m)(h:1<=l/\l<=60000/\1<=f/\f+(N:Int)<=1000000001):PG s l f n m=QH s l f n m N N:=by
 unfold PG qh;rw[<-c,AE (by simpa using h)]
theorem ZB{s:Y}{l f:Int}{m N:Nat}(c:N=OG s.size m)(h:¬(1<=l/\l<=60000/\1<=f/\f+(N:Int)<=1000000001)):PG s l f n m=[]:=by
 unfold PG qh;rw[<-c,AG (by simpa using h)]
def nu(w w':Nb)(e:Ending)(ss:List Y):Prop:=∃a c,e=M3 (.slice a ss.length c)/\OwnS w' a (ss.map Value.string)/\(∀g,blk a ss.length=some g->w.heap.size<=g)/\Below w.heap.size w w'
theorem gd{c:Nat}(hv:v=.slice a 0 c)(d:Below w.heap.size w w'):nu w w' (M3 v) []:=⟨a,c,by rw[hv];rfl,.inl rfl,λg h=>(by cases h),d⟩
theorem nU{k:Nat}{e:TypeId}(h:w'.ownsRow w.heap.size e 1 v k (ss.map Value.string))(p:k=ss.length)(l:Below w.heap.size w w'):nu w w' (M3 v) ss:=by
 rcases NU h with ⟨f,j⟩|⟨g,d,f,j,_,m⟩
 ·have:ss=[]:=AC ω
  subst this;exact gd f l
 subst p
 refine⟨_,d,by rw[f],.inr ⟨g,rfl,m⟩,λq c=>?_,l⟩
 by_cases i:ss.length=0
 ·rw[i]at c;cases c
 rw[NT g 0 _ i]at c;cases c;exact j
set_option maxRecDepth 4000 in
theorem uZ(s:Y)(l f:Int)(n m:Nat)(w:Nb)(hs:s.size<=1048576)(hm:n+m=56)(h1:1<=n)(h2:n<=8):Calls prog 189 #[Mz s,.int .i64 l,.int .i64 f,.int .i64 (n:Int)] w λe w'=>nu w w' e (PG s l f n m):=by
 have V:decide (1<=(n:Int)/\(n:Int)<=8)=true:=τ
 have U:∀o,Below w.heap.size w (w.alloc o):=λo=>LO _ _
 obtain⟨N,j⟩:∃N,Hid (N=OG s.size m):=⟨_,Z rfl⟩;have bV:N<=1048577:=by have:=oA s.size m;rw[j.l];omega
 have bU:0<N:=by rw[j.l];exact ub _ _
 obtain⟨R,q⟩:∃R,Hid (R=PG s l f n m):=⟨_,Z rfl⟩;rw[<-q.l]
 by_cases bY:1<=l
 focus
  by_cases bZ:l<=60000
  focus
   by_cases b7:1<=f
   focus
    by_cases cA:f<=1000000000
    ·by_cases bW:(N:Int)<=1000000000-f+1
     ·have z:Hid (R=QH s l f n m N N):=by show _=_;rw[q.l];exact XZ j.l ω
      clear q;obtain⟨i0,c,d,g,h⟩:=info_parts si;have HI:=Z (AH c (AH d (AH g h)));clear c d g h;go_enter func189,ntmps189
      go_wp2_with (first|(go_at_call 21;refine(RO _ _).z ?_;rw[V];rintro e A ⟨rfl,rfl⟩)|(go_at_call 190;refine(uh s n m _ hs hm h1 h2).z ?_;rw[<-j.l];rintro e A ⟨g,c,rfl,hg,t,d⟩;have aQ:=Z t;clear t))
      simp only[BD]at hg;have bI:Below w.heap.size w A:=(U _).j (d.z σ);have aM:A.ownsRow w.heap.size 9 1 (.slice (Mw w.heap.size 0) 0 0) 0 []:=NC (DT w #[] 0 (AA _) σ σ) d;clear d;go_loopw [9,11,12] (λy i _ wr=>∃k:Nat,k<=N/\i=.int .i64 k/\wr.ownsRow w.heap.size 9 1 y k ((QH s l f n m N k).map Value.string)/\y.ownBlock≠some g/\Row wr g ((YK s m N).map Value.string)/\Below w.heap.size w wr) (λ_ i _ _=>N-(intOf i).toNat)
      case atStart =>
       exact⟨0,AM _,rfl,aM,by simp[Value.ownBlock];omega,aQ.l,bI⟩
      case round =>
       obtain⟨k,hk,rfl,K,aX,t,J⟩:=hrel
       by_cases bQ:k<N
       ·have hc:=t.cell k (Mz (s.extract (k*m) (k*m+m))) (by simp[YK,bQ])
        obtain⟨p,M⟩:∃p,Hid (p=s.extract (k*m) (k*m+m)):=⟨_,Z rfl⟩;rw[<-M.l]at hc;have aY:p.size<=1048576:=by rw[M.l];have:=Fq s (k*m) m;omega
        have bT:w.heap.size<=wr.heap.size:=J.size;have bJ:=t.lt;have HB:=Z J;have bH:=Z t;have O:=Z K;clear J t K;obtain⟨F,X⟩:∃F,Hid (F=RY s l f n m N k):=⟨_,Z rfl⟩;obtain⟨W,H⟩:∃W:Int,W=if k+1=N then 2 else 1:=⟨_,rfl⟩;have aT:Hid (MM W l (f+(k:Int)) p (n:Int)=F):=by show _=_;rw[X.l,M.l,H];rfl
        have C:∀(h:Nb),Below wr.heap.size wr h->∀(y:Nb) (x d:Nat),y.ownsRow w.heap.size 9 1 (.slice (Mw x 0) (k+1) d) (k+1) ((QH s l f n m N k).map Value.string++[Mz F])->(h.alloc (.cells #[Mz F] 9)).grownBy y u9.ownBlock->(u9.ownBlock=some x\/x=h.heap.size+1)->(∃u:Nat,u<=N/\Value.int .i64 ((k:Int)+1)=.int .i64 u/\y.ownsRow w.heap.size 9 1 (.slice (Mw x 0) (k+1) d) u ((QH s l f n m N u).map Value.string)/\(Value.slice (Mw x 0) (k+1) d).ownBlock≠some g/\Row y g ((YK s m N).map Value.string)/\Below w.heap.size w y):=λh i y x d E D L=>by
         have aZ:=i.size;refine⟨k+1,ω,ν,?_,?_,?_,?_⟩
         ·rw[sb,DK,<-X.l];exact E
         ·rcases L with L|L
          ·intro u;exact aX (L.j (by simpa[Value.ownBlock] using u))
          simp[Value.ownBlock];omega
         ·exact((bH.l.I i).alloc _).J D (λu=>aX u.symm)
         exact fk ((HB.l.j (i.z bT)).alloc ω _) ((NC O.l i).alloc _) D τ
        have aJ:=Z C;clear C
        by_cases G:k+1=N
        ·have hq:((k:Int) == (N:Int)-1)=true:=τ
         rw[AE G]at H;subst H;clear G
         go_wp2_with (first|(go_at_call 84;refine(aq 2 l (f+(k:Int)) p (n:Int) _ aY).z ?_;rw[aT.l];rintro e h ⟨rfl,i⟩;have aZ:=i.size;have T:=Z ((NC O.l i).alloc (.cells #[Mz F] 9)))|(at_builtin;refine QY _ rfl _ _ 23 rfl w.heap.size underlying23 HI.l rfl ω _ k _ rfl T.l ⟨h.heap.size,0,none⟩ 1 1 [Mz F] rfl rfl (World.news_of_block (AU h _)) (by intro u I;simp at I;subst I;rfl) τ (h.heap.size+1) σ ?_;intro x d y D C E aS;have S:=Z (aJ.l h i y x d D C E);clear D C E))
         exact⟨S.l,by simp[intOf];omega⟩
        have hq:((k:Int) == (N:Int)-1)=false:=τ
        rw[AG G]at H;subst H
        go_wp2_with (first|(go_at_call 84;refine(aq 1 l (f+(k:Int)) p (n:Int) _ aY).z ?_;rw[aT.l];rintro e h ⟨rfl,i⟩;have aZ:=i.size;have T:=Z ((NC O.l i).alloc (.cells #[Mz F] 9)))|(at_builtin;refine QY _ rfl _ _ 23 rfl w.heap.size underlying23 HI.l rfl ω _ k _ rfl T.l ⟨h.heap.size,0,none⟩ 1 1 [Mz F] rfl rfl (World.news_of_block (AU h _)) (by intro u I;simp at I;subst I;rfl) τ (h.heap.size+1) σ ?_;intro x d y D C E aS;have S:=Z (aJ.l h i y x d D C E);clear D C E))
        exact⟨S.l,by simp[intOf];omega⟩
       have G:k=N:=ω
       subst G;have d:=Z K;clear K t;go_wp2;go_ret;rw[z.l];exact nU d.l (WW _ _ _ _ _ _ _).symm J
     have z:Hid (R=[]):=by show _=_;rw[q.l];exact ZB j.l ω
     clear q;go_enter func189,ntmps189
     go_wp2_with (first|(go_at_call 21;refine(RO _ _).z ?_;rw[V];rintro e A ⟨rfl,rfl⟩)|(go_at_call 190;refine(uh s n m _ hs hm h1 h2).z ?_;rw[<-j.l];rintro e A ⟨g,c,rfl,hg,t,d⟩;clear t))
     go_ret;rw[z.l];exact gd rfl ((U _).j (d.z σ))
    focus
     have z:Hid (R=[]):=by show _=_;rw[q.l];exact ZB j.l ω
    rotate_left
   rotate_left
   focus
    have z:Hid (R=[]):=by show _=_;rw[q.l];exact ZB j.l ω
   rotate_left
  rotate_left 2
  focus
   have z:Hid (R=[]):=by show _=_;rw[q.l];exact ZB j.l ω
  rotate_left
 rotate_left 3
 focus
  have z:Hid (R=[]):=by show _=_;rw[q.l];exact ZB j.l ω
 rotate_left
 all_goals
  clear q;go_enter func189,ntmps189
  go_wp2_with (first|(go_at_call 21;refine(RO _ _).z ?_;rw[V];rintro e A ⟨rfl,rfl⟩))
  go_ret;rw[z.l];exact gd rfl (U _)
theorem Aa(k l m:Int)(p:Y)(n:Int)(w:Nb)(f:p.size<=1048576)(d:NQ k l m p n=false):Calls prog 202 #[OE k l m p,.int .i64 n] w λe w'=>e=M3 (Mz empty)/\Below w.heap.size w w':=by
 go_enter func202,ntmps202;go_wp2_with (go_at_call 89;refine(ko k l m p n _ f).z ?_;rw[d];rintro e g ⟨rfl,c⟩);go_ret;exact⟨rfl,(LO _ _).j (c.z σ)⟩
set_option maxRecDepth 4000 in
theorem zU(k l m:Int)(p:Y)(n:Nat)(w:Nb)(c:NQ k l m p n=true):Calls prog 202 #[OE k l m p,.int .i64 (n:Int)] w λe w'=>e=M3 (Mz (SL k l m p n))/\Below w.heap.size w w':=by
 have i:=AV (by unfold NQ at c;exact c);obtain⟨C,D,t,u,x,y,z,A,E,_⟩:=i;go_enter func202,ntmps202;go_wp2_with (go_at_call 89;refine(ko k l m p n _ ω).z ?_;rw[c];rintro e G ⟨rfl,f⟩;obtain⟨q,g,h,j,s,d⟩:=cz (W:=w) (v0:=.int .i64 k) (v1:=.int .i64 l) (v2:=.int .i64 m) (v3:=Mz p) f ⟨σ,σ,σ,σ,σ,LO _ _⟩;clear f);refine(oG k l m p n _ c).z ?_;rintro e H ⟨rfl,f⟩;clear q g h j s;have g:=d.j (f.z d.size);clear d f;obtain⟨xs,d⟩:∃xs,Hid (xs=LI (SL k l m p n)):=⟨_,QV rfl⟩;have f:xs.length=64:=by rw[d.l,NH];exact ZN k l m p n ω
 have s:(xs.map (Value.int .u8)).toArray.size=64:=by simp[f]
 rw[<-d.l];go_wp2_with (refine tk rfl 142 _ _ rfl xs rfl rfl _ _ (.int .u8 0) (by rw[f];rfl) (by rw[f];kernel_rfl) ?_;intro I h j _;have q:=h.text (P:=prog) 22 5 9 underlying22 underlying5 underlying9 0 64 64 ω;rw[FD,AQ ω]at q;clear h);go_ret;refine⟨py ?_,g.j (j.z g.size)⟩;rw[d.l,TM]
theorem eo(k l m:Int)(p:Y)(n:Int)(w:Nb)(d:p.size<=1048576):Calls prog 202 #[OE k l m p,.int .i64 n] w λe w'=>e=M3 (Mz (MM k l m p n))/\Below w.heap.size w w':=by
 unfold MM
 cases h:NQ k l m p n with
 | true =>
  have c:=AV (by unfold NQ at h;exact h);have e:1<=n:=c.1;obtain⟨j,rfl⟩:∃j:Nat,n=(j:Int):=⟨n.toNat,ω⟩;rw[AE rfl,BM];exact zU k l m p j w h
 | false=>rw[AG σ];exact Aa k l m p n w d h
@[reducible] def ON(t h f l:Int):Nc:=.agg #[.int .i64 t,.int .i64 h,.int .i64 f,.int .i64 l]
abbrev UL(h f:Int):Prop:=0<=h/\h<=1/\1<=f/\f<=999999000
def SU(h f:Int):Y:=strOfNums (be 1 h)++strOfNums (be 4 f)
def MZ(t h f l n:Int):Y:=if UL h f then MM 4 l t (SU h f) n else empty
theorem uw(h:Int)(w:Nb):Calls prog 197 #[.int .i64 h] w λe w'=>e=M3 (M0 (decide (0<=h/\h<=1)))/\w'=w:=by
 have e:decide (0<=h/\h<=1)=(decide (h=0) || decide (h=1)):=by rw[IY];simp;omega
 rw[e];go_enter func197,ntmps197
 by_cases c:h=0
 ·subst c;go_wp2;go_ret;exact⟨rfl,rfl⟩
 by_cases d:h=1
 ·subst d;go_wp2;go_ret;exact⟨rfl,rfl⟩
 go_wp2;go_ret;simp[c,d]
theorem m5(f:Int)(w:Nb):Calls prog 198 #[.int .i64 f] w λe w'=>e=M3 (M0 (decide (1<=f/\f<=999999000)))/\w'=w:=by
 go_enter func198,ntmps198
 by_cases c:1<=f<;>by_cases d:f<=999999000<;>(go_wp2;go_ret;simp[c,d])
theorem Ez(t h f l n:Int)(w:Nb)(c:¬UL h f):Calls prog 216 #[ON t h f l,.int .i64 n] w λe w'=>e=M3 (Mz empty)/\Below w.heap.size w w':=by
 have d:∀o,Below w.heap.size w (w.alloc o):=λo=>LO _ _
 unfold UL at c;go_enter func216,ntmps216
 by_cases e:0<=h<;>by_cases g:h<=1<;>by_cases i:1<=f<;>by_cases j:f<=999999000<;>first|(exfalso;omega)|(clear c;go_wp2;go_ret;exact⟨rfl,d _⟩)
theorem Lq(t h f l n:Int)(w:Nb)(u:UL h f):Calls prog 216 #[ON t h f l,.int .i64 n] w λe w'=>e=M3 (Mz (MM 4 l t (SU h f) n))/\Below w.heap.size w w':=by
 obtain⟨D,E,G,H⟩:=u;obtain⟨A,d⟩:∃A,strOfNums (be 1 h)=A:=⟨_,rfl⟩;obtain⟨B,g⟩:∃B,strOfNums (be 4 f)=B:=⟨_,rfl⟩;have L:A.size=1:=by rw[<-d,CJ,PV]
 have M:B.size=4:=by rw[<-g,CJ,PV]
 have p:Hid (SU h f=A++B):=by show _=_;unfold SU;rw[d,g]
 have j:=λi=>ef h 1 1 rfl i ω ω ω
 have k:=λi=>ef f 4 4 rfl i ω ω ω
 simp only[d]at j;simp only[g]at k;rw[p.l];have x:(A++B).size<=1048576:=by simp only[BN];omega
 go_enter func216,ntmps216;go_wp2_with fail;have m:w.heap.size<(w.alloc (.cells #[.int .i64 t,.int .i64 h,.int .i64 f,.int .i64 l] 28)).heap.size/\(w.alloc (.cells #[.int .i64 t,.int .i64 h,.int .i64 f,.int .i64 l] 28)).cell? ⟨w.heap.size,0,none⟩=some (.int .i64 t)/\(w.alloc (.cells #[.int .i64 t,.int .i64 h,.int .i64 f,.int .i64 l] 28)).cell? ⟨w.heap.size,1,none⟩=some (.int .i64 h)/\(w.alloc (.cells #[.int .i64 t,.int .i64 h,.int .i64 f,.int .i64 l] 28)).cell? ⟨w.heap.size,2,none⟩=some (.int .i64 f)/\(w.alloc (.cells #[.int .i64 t,.int .i64 h,.int .i64 f,.int .i64 l] 28)).cell? ⟨w.heap.size,3,none⟩=some (.int .i64 l)/\Below w.heap.size w (w.alloc (.cells #[.int .i64 t,.int .i64 h,.int .i64 f,.int .i64 l] 28)):=⟨σ,σ,σ,σ,σ,LO _ _⟩;have q:=QV m;clear m
 go_region_held3 (λw'=>w.heap.size<w'.heap.size/\w'.cell? ⟨w.heap.size,0,none⟩=some (.int .i64 t)/\w'.cell? ⟨w.heap.size,1,none⟩=some (.int .i64 h)/\w'.cell? ⟨w.heap.size,2,none⟩=some (.int .i64 f)/\w'.cell? ⟨w.heap.size,3,none⟩=some (.int .i64 l)/\Below w.heap.size w w')
  (first|assumption|exact cz (below_drewN (AB _ _) 1) q.l|exact cz (by assumption) (by assumption))
  (first|(go_at_call_of 137 h;refine(j _).z ?_;rintro e I ⟨rfl,y⟩)|(go_at_call_of 137 f;refine(k _).z ?_;rintro e J ⟨rfl,z⟩)|(go_at_call 84;refine(aq 4 l t (A++B) n _ x).z ?_;rintro e K ⟨rfl,C⟩))
 rename_i c;have s:=c.2.2.2.2.2;clear c;go_wp2;go_ret;exact⟨rfl,s⟩
theorem rU(t h f l n:Int)(w:Nb):Calls prog 216 #[ON t h f l,.int .i64 n] w λe w'=>e=M3 (Mz (MZ t h f l n))/\Below w.heap.size w w':=by
 unfold MZ
 by_cases c:UL h f
 ·rw[AE c];exact Lq t h f l n w c
 rw[AG c];exact Ez t h f l n w c
