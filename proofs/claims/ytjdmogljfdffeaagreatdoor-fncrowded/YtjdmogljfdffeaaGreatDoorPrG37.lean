import Derived.Deep.RegionLaw
import Derived.Test.YtjdmogljfdffeaaGreatDoorPrG35
import Derived.Deep.MidRow
import Derived.Lib.LazyBuf
set_option maxHeartbeats 16000000
set_option maxRecDepth 8000
set_option linter.all false
namespace Go.Proofs.YtjdmogljfdffeaaGreatDoor
open _root_.ByteArray(empty)
open Tryz
open Go.RowKit
variable {a:Act}{K:Act->World->Prop}{aB:Array Oper}{s:ByteArray}{Q:Exit->Act->World->Prop}{fn:Func}{ws:List (Int×ByteArray)}{ss:List ByteArray}{xs ys:List Int}{aA:List Oper}{cs:List Value}{F N g n:Nat}{o op:Oper}{P:Program}{E:Prop}{e:TypeId}{v:Value}{W w w':World}
theorem LC(c:o.guard=none)(f:FuncId)(b:Array Value)
  (aA:(execOp a.eval o).run P w=.ok (.enter f b) w){C:Ending->World->Prop}(i:Calls P f b w C)(h:∀e w',C e w'->∃v,e=.returned v/\K (a.put o.dst v) w'):if Region.wanted o (yielded aB a.tmps)=true then Oper.wp P o a w K Q else E:=by
 have l:Region.wanted o (yielded aB a.tmps)=true:=by simp[Region.wanted,c]
 rw[AF l];unfold Oper.wp;rw[aA,Oper.upon_enter]
 refine i.A λe d j=>?_
 obtain⟨v,rfl,k⟩:=h e d j;exact k
theorem rm(k v:ByteArray)(w:World):Calls prog 76 #[.agg #[.string k,.string v,.bool false]] w λe w'=>e=.returned (.iface 170 (.agg #[.string k,.string v]))/\Below w.heap.size w w':=by
 go_enter func76,ntmps76;go_wp2;go_ret;exact⟨rfl,KW _ _⟩
theorem tk(k v:ByteArray)(w:World):Calls prog 76 #[.agg #[.string k,.string v,.bool true]] w λe w'=>e=.returned (.iface 168 (.agg #[.string k]))/\Below w.heap.size w w':=by
 go_enter func76,ntmps76;go_wp2;go_ret;exact⟨rfl,KW _ _⟩
theorem sq:(prog.info? 9).map (λi=>(i.zero,i.size,i.bytes))=some (some (.string empty),1,16):=κ
theorem wP(n m:Nat)(w:World)(h:n+m=56)(c:1<=n)(d:n<=8):Calls prog 106 #[.int .i64 (n:Int)] w λe w'=>e=.returned (.int .i64 (m:Int))/\w'=w:=by
 have b:(64-(n:Int)-8)=(m:Int):=ω
 go_enter func106,ntmps106;go_wp2;go_ret
 exact⟨by first|rfl|exact BY _ (BY _ b),rfl⟩
theorem gh{d:World}{c:Nat}{B:Nat}{xs:List Value}(f:Below B W w)(own:w.ownsRow B e c v n xs)(b:w.grownBy d v.ownBlock)(i:B<=w.heap.size):Below B W d :=f.j ⟨b.os,b.tape,b.output,b.size,λk j=>b.block k ω (λh=>by have:=(own.lt k h.symm).1;omega)⟩
theorem mq{B:Nat}(h:B<=w.heap.size)(o:Obj):B<=(w.alloc o).heap.size:=τ
def YT(s:ByteArray)(m k:Nat):List ByteArray:=(List.range k).map λi=>s.extract (i*m) (i*m+m)
theorem uL(s:ByteArray)(m k:Nat):YT s m (k+1)=YT s m k++[s.extract (k*m) (k*m+m)]:=by simp[YT,FA]
def NA(l m:Nat):Nat:=if l=0 then 1 else (l-1) / m+1
theorem uc(s:ByteArray){a b c:Nat}(h:min (b-a) (s.size-a)=min (c-a) (s.size-a)):s.extract a b=s.extract a c:=by
 apply EP
 simp only[EL];exact Array.extract_eq_extract_right.2 h
theorem tC(s r:ByteArray)(a m:Nat)(h:r=s.extract a s.size):r.extract m r.size=s.extract (a+m) s.size:=by
 subst h;rw[JZ]
 apply uc
 simp only[AK];omega
theorem pR(s r:ByteArray)(a m:Nat)(h:r=s.extract a s.size):r.extract 0 m=s.extract a (a+m):=by
 subst h;rw[JZ,FX]
 apply uc
 omega
theorem pI(s r:ByteArray)(a m:Nat)(h:r=s.extract a s.size)(b:r.size<=m):r=s.extract a (a+m):=by
 subst h;simp only[AK]at b
 apply uc
 omega
theorem Gn(l m k r:Nat)(d:0<m)(h:k*m+r=l)(b:k=0\/0<r)(f:r<=m):NA l m=k+1:=by
 unfold NA
 by_cases c:l=0
 ·rw[AF c]
  rcases b with b|b
  ·omega
  omega
 rw[AG c]
 have:(l-1) / m=k:=by
  rw[Nat.div_eq_iff d];rcases b with b|b
  ·subst b;omega
  omega
 omega
theorem ut(s:ByteArray)(n m:Nat)(w:World)(M:s.size<=1048576)(h:n+m=56)(D:1<=n)(G:n<=8):Calls prog 67 #[.string s,.int .i64 (n:Int)] w λe w'=>∃g c,e=.returned (.slice (some ⟨g,0,none⟩) (NA s.size m) c)/\w.heap.size<=g/\Row w' g ((YT s m (NA s.size m)).map Value.string)/\Below w.heap.size w w':=by
 obtain⟨O,b,c,d,f⟩:=info_parts sq;have z:=Z (AH b (AH c (AH d f)));clear b c d f;go_enter func67,ntmps67;go_wp2_with (go_at_call 106;refine(wP n m _ h D G).A ?_;rintro e w' ⟨rfl,rfl⟩);go_loopw [0,5] (λx y wr=>∃(k:Nat) (r:ByteArray),x=.string r/\Hid (r=s.extract (k*m) s.size)/\k*m+r.size=s.size/\Hid (k=0\/0<r.size)/\wr.ownsRow w.heap.size 9 1 y k ((YT s m k).map Value.string)/\Below w.heap.size w wr) (λx _ _=>match x with | .string r=>r.size|_=>0)
 case atStart=>exact⟨0,s,rfl,by show s=_;simp,σ,.inl rfl,CJ _ #[] 0 (Y _) σ σ,KW _ _⟩
 case round =>
  obtain⟨k,r,rfl,q,H,y,j,c⟩:=hrel
  by_cases L:m<r.size
  ·have A:(m:Int)<(r.size:Int):=ω
   have C:k<=1048576:=by have:k*1<=k*m:=Nat.mul_le_mul_left k ω;omega
   have b:w.heap.size<=wr.heap.size:=c.size;have p:=Z c;have d:=Z (j.alloc (.cells #[.string (r.extract 0 m)] 9));clear c j;go_wp2_with (at_builtin;refine QN _ rfl _ _ 23 rfl w.heap.size underlying23 z.l rfl ω _ k _ rfl d.l ⟨wr.heap.size,0,none⟩ 1 1 [.string (r.extract 0 m)] rfl rfl (World.news_of_block (AW wr _)) (by intro u i;simp at i;subst i;rfl) (mq b _) (wr.heap.size+1) σ ?_;intro g f I aB aA x B;have l:=Z aB;have t:=Z (gh (p.l.alloc b _) d.l aA (mq b _));clear aB aA x);refine⟨⟨k+1,r.extract m r.size,rfl,?_,?_,?_,?_,t.l⟩,?_⟩
   ·show _=_
    rw[tC s r _ m q.l,GD,KF]
   ·rw[GD,KF];simp only[AK];omega
   ·exact .inr (by simp only[AK];omega)
   ·have e:=l.l
    rw[pR s r _ m q.l]at e;rw[uL,CY];exact e
   simp only[AK];omega
  have C:k<=1048576:=by have:k*1<=k*m:=Nat.mul_le_mul_left k ω;omega
  have b:w.heap.size<=wr.heap.size:=c.size;have p:=Z c;have A:=Z (Gn s.size m k r.size ω H y.l ω);have d:=Z (j.alloc (.cells #[.string r] 9));clear c j y;go_wp2_with (at_builtin;refine QN _ rfl _ _ 23 rfl w.heap.size underlying23 z.l rfl ω _ k _ rfl d.l ⟨wr.heap.size,0,none⟩ 1 1 [.string r] rfl rfl (World.news_of_block (AW wr _)) (by intro u i;simp at i;subst i;rfl) (mq b _) (wr.heap.size+1) σ ?_;intro g f I aB aA x B;have l:=Z aB;have t:=Z (gh (p.l.alloc b _) d.l aA (mq b _));clear aB aA x);go_ret;refine⟨g,f,by rw[A.l];rfl,(l.l.lt g rfl).1,?_,t.l⟩;have e:=SA l.l;rw[A.l,uL,CY];rw[pI s r _ m q.l ω]at e;exact e
theorem QO(n:Int)(w:World):Calls prog 37 #[.int .i64 n] w λe w'=>e=.returned (.bool (decide (1<=n/\n<=8)))/\w'=w:=by
 by_cases c:1<=n
 ·by_cases b:n<=8
  ·go_enter func37,ntmps37
   go_wp2;go_ret;exact⟨by simp[c,b],rfl⟩
  go_enter func37,ntmps37
  go_wp2;go_ret;exact⟨by simp[b],rfl⟩
 go_enter func37,ntmps37
 go_wp2;go_ret;exact⟨τ,rfl⟩
theorem RX(n:Int)(w:World):Calls prog 45 #[.int .i64 n] w λe w'=>e=.returned (.bool (decide (1<=n/\n<=8)))/\w'=w:=by
 by_cases c:1<=n
 ·by_cases b:n<=8
  ·go_enter func45,ntmps45
   go_wp2;go_ret;exact⟨by simp[c,b],rfl⟩
  go_enter func45,ntmps45
  go_wp2;go_ret;exact⟨by simp[b],rfl⟩
 go_enter func45,ntmps45
 go_wp2;go_ret;exact⟨τ,rfl⟩
def MY(l:Nat)(n:Int):Int:=if 1<=n/\n<=8 then (NA l (56-n).toNat:Int) else 0
theorem jk(n m:Nat)(w:World)(h:n+m=56)(c:1<=n)(d:n<=8):Calls prog 78 #[.int .i64 (n:Int)] w λe w'=>e=.returned (.int .i64 (m:Int))/\w'=w:=by
 have b:(64-(n:Int)-8)=(m:Int):=ω
 go_enter func78,ntmps78;go_wp2;go_ret
 exact⟨by first|rfl|exact BY _ (BY _ b),rfl⟩
theorem uy(s:ByteArray)(n:Int)(w:World)(u:s.size<=1048576):Calls prog 32 #[.string s,.int .i64 n] w λe w'=>e=.returned (.int .i64 (MY s.size n))/\Below w.heap.size w w':=by
 obtain⟨R,b⟩:∃R,Hid (R=MY s.size n):=⟨_,Z rfl⟩;rw[<-b.l]
 by_cases h:1<=n/\n<=8
 focus
  obtain⟨m,rfl⟩:∃m:Nat,n=(m:Int):=⟨n.toNat,ω⟩;obtain⟨q,k⟩:∃q:Nat,m+q=56:=⟨56-m,ω⟩;have f:decide (1<=(m:Int)/\(m:Int)<=8)=true:=τ
  by_cases i:s.size=0
  focus
   have aB:s=empty:=by apply EP;exact JG i
   subst aB;have c:R=1:=by rw[b.l];unfold MY NA;rw[AF h];simp
   clear b;subst c
  rotate_left
  obtain⟨l,j⟩:∃l:Nat,s.size=l+1:=⟨s.size-1,ω⟩
  have c:R=((l / q:Nat):Int)+1:=by
   rw[b.l];unfold MY NA;rw[AF h,AG i,show(56-(m:Int)).toNat=q by omega,j];simp
  obtain⟨d,aA⟩:∃d:Nat,d=l / q:=⟨_,rfl⟩;have r:d<=l:=by rw[aA];exact KJ _ _
  have t:(l:Int) / (q:Int)=(d:Int):=by rw[aA];simp
  rw[<-aA]at c;clear b aA;subst c;have p:s.toList.isEmpty=false:=by rw[VF];simp[i]
  go_enter func32,ntmps32
  go_wp2_with (first|(go_at_call 45;refine(RX _ _).A ?_;rw[f];rintro e w' ⟨rfl,rfl⟩)|(go_at_call 78;refine(jk m q _ k ω ω).A ?_;rintro e w' ⟨rfl,rfl⟩))
  go_ret;exact⟨rfl,AC _ _⟩
 rotate_left
 focus
  have c:R=0:=by rw[b.l];unfold MY;exact AG h
  clear b;subst c;have f:decide (1<=n/\n<=8)=false:=τ
 rotate_left
 all_goals
  go_enter func32,ntmps32
  go_wp2_with (first|(go_at_call 45;refine(RX _ _).A ?_;rw[f];rintro e w' ⟨rfl,rfl⟩))
  go_ret;exact⟨rfl,AC _ _⟩
theorem wC(s:ByteArray)(n:Int)(w:World)(i:s.size<=1048576):Calls prog 66 #[.string s,.int .i64 n] w λe w'=>e=.returned (.int .i64 (MY s.size n))/\Below w.heap.size w w':=by
 unfold MY
 by_cases d:1<=n/\n<=8
 ·rw[AF d]
  obtain⟨m,rfl⟩:∃m:Nat,n=(m:Int):=⟨n.toNat,ω⟩;obtain⟨q,h⟩:∃q:Nat,m+q=56:=⟨56-m,ω⟩;rw[show(56-(m:Int)).toNat=q by omega];have b:decide (1<=(m:Int)/\(m:Int)<=8)=true:=τ
  go_enter func66,ntmps66
  go_wp2_with (first|(go_at_call 37;refine(QO _ _).A ?_;rw[b];rintro e w' ⟨rfl,rfl⟩)|(go_at_call 67;refine(ut s m q _ i h ω ω).A ?_;rintro e k ⟨g,c,rfl,j,aA,f⟩;clear aA))
  go_ret;exact⟨rfl,f⟩
 rw[AG d]
 have b:decide (1<=n/\n<=8)=false:=τ
 go_enter func66,ntmps66
 go_wp2_with (first|(go_at_call 37;refine(QO _ _).A ?_;rw[b];rintro e w' ⟨rfl,rfl⟩))
 go_ret;exact⟨rfl,AC _ _⟩
@[reducible] def LE(a:Option Addr)(n c:Nat)(b:Option Addr)(f d:Nat):Value:=.agg #[.slice a n c,.slice b f d]
theorem mn:(prog.info? 9).map (λi=>(i.zero,i.size,i.bytes))=some (some (.string empty),1,16):=κ
theorem pe:(prog.info? 134).map (λi=>(i.zero,i.size,i.bytes))=some (some (.agg #[.int .i64 0,.string empty]),2,24):=κ
theorem ox{c:World}(d:Below W.heap.size W c):(∀b o,b<W.heap.size->c.cell? ⟨b,o,none⟩=W.cell? ⟨b,o,none⟩)/\(∀b o,b<W.heap.size->c.frozen? ⟨b,o,none⟩=W.frozen? ⟨b,o,none⟩) :=⟨λb o h=>d.cell (p:=⟨b,o,none⟩) h,λb o h=>d.frozen (p:=⟨b,o,none⟩) h⟩
theorem RO{a b:Bool}(h:a=b):Ending.returned (.bool a)=.returned (.bool b):=by rw[h]
def OP(n:Nat)(x:Int×ByteArray):Bool:=decide (0<=x.1/\x.1<(n:Int)/\(x.2.size:Int)=64)
def LG(ss:List ByteArray)(ws:List (Int×ByteArray)):Bool:=decide (8<=ss.length/\ss.length<=200/\ws.length<=300) && ss.all (λs=>decide ((s.size:Int)=64)) && ws.all (OP ss.length)
theorem nj(h:¬(8<=ss.length/\ss.length<=200/\ws.length<=300)):LG ss ws=false:=by simp[LG,h]
theorem oJ(b:s∈ss)(h:¬(s.size:Int)=64):LG ss ws=false:=by
 have:ss.all (λs=>decide ((s.size:Int)=64))=false:=FW.2 ⟨s,b,by simpa using h⟩;simp[LG,this]
theorem sG{x:Int×ByteArray}(b:x∈ws)(h:OP ss.length x=false):LG ss ws=false:=by
 have:ws.all (OP ss.length)=false:=FW.2 ⟨x,b,by simp[h]⟩;simp[LG,this]
theorem ai(h:8<=ss.length/\ss.length<=200/\ws.length<=300)(b:∀s∈ss,(s.size:Int)=64)(c:∀x∈ws,OP ss.length x=true):LG ss ws=true:=by
 simp only[LG,BE,BC,DO];exact⟨⟨h,b⟩,c⟩
theorem PA(h:LG ss ws=true):(8<=ss.length/\ss.length<=200/\ws.length<=300)/\(∀s∈ss,(s.size:Int)=64)/\∀x∈ws,OP ss.length x=true:=by
 simp only[LG,BE,BC,DO]at h;exact⟨h.1.1,h.1.2,h.2⟩
theorem nX{x:Int}(b:0<=x)(c:x<(n:Int)):((s.size:Int) == 64)=OP n (x,s):=by
 rw[IQ];simp[OP,b,c]
theorem mh(n:Nat)(x:Int)(s:ByteArray)(w:World)(f:s.size<=1048576)(d:n<=1048576):Calls prog 90 #[.int .i64 (n:Int),.int .i64 x,.string s] w λe w'=>e=.returned (.bool (OP n (x,s)))/\w'=w:=by
 by_cases b:0<=x
 ·by_cases c:x<(n:Int)
  ·go_enter func90,ntmps90
   go_wp2;go_ret;exact⟨RO (nX b c),rfl⟩
  go_enter func90,ntmps90
  go_wp2;go_ret;exact⟨RO (by simp[OP];omega),rfl⟩
 go_enter func90,ntmps90
 go_wp2;go_ret;exact⟨RO (by simp[OP];omega),rfl⟩
theorem uY(a:Option Addr)(n c:Nat)(b:Option Addr)(i d:Nat)(x:Int)(s:ByteArray)(w:World)(k:s.size<=1048576)(j:n<=1048576):Calls prog 83 #[LE a n c b i d,.int .i64 x,.string s] w λe w'=>e=.returned (.bool (OP n (x,s)))/\Below w.heap.size w w':=by
 by_cases f:0<=x
 ·by_cases h:x<(n:Int)
  ·go_enter func83,ntmps83
   go_wp2;go_ret;exact⟨RO (nX f h),KW _ _⟩
  go_enter func83,ntmps83
  go_wp2;go_ret;exact⟨RO (by simp[OP];omega),KW _ _⟩
 go_enter func83,ntmps83
 go_wp2;go_ret;exact⟨RO (by simp[OP];omega),KW _ _⟩
theorem jj(n:Int)(w:World):Calls prog 44 #[.int .i64 n] w λe w'=>e=.returned (.bool (decide (8<=n/\n<=200)))/\w'=w:=by
 by_cases c:8<=n
 ·by_cases b:n<=200
  ·go_enter func44,ntmps44
   go_wp2;go_ret;exact⟨RO (by simp[c,b]),rfl⟩
  go_enter func44,ntmps44
  go_wp2;go_ret;exact⟨RO (by simp[b]),rfl⟩
 go_enter func44,ntmps44
 go_wp2;go_ret;exact⟨RO τ,rfl⟩
theorem WD(a:Option Addr)(ss:List ByteArray)(c:Nat)(l:Option Addr)(ws:List (Int×ByteArray))(q:Nat)(w:World)(h:Strs w a ss)(H:Wrs w l ws)(hl:ss.length<=1048576)(S:ws.length<=1048576)(hs:∀s∈ss,s.size<=1048576)(G:∀x∈ws,x.2.size<=1048576):Calls prog 47 #[LE a ss.length c l ws.length q] w λe w'=>e=.returned (.bool (LG ss ws))/\Below w.heap.size w w':=by
 have m:∀b,Below w.heap.size w (w.alloc b):=λb=>KW _ _
 obtain⟨R,f⟩:∃R,Hid (R=LG ss ws):=⟨_,Z rfl⟩;rw[<-f.l]
 by_cases y:8<=(ss.length:Int)/\(ss.length:Int)<=200
 focus
  have u:decide (8<=(ss.length:Int)/\(ss.length:Int)<=200)=true:=AM y;obtain⟨T,U⟩:=y
  by_cases hp:(ws.length:Int)<=300
  ·go_enter func47,ntmps47
   go_wp2_with (go_at_call 44;refine(jj _ _).A ?_;rw[u];rintro e w' ⟨rfl,rfl⟩);go_loop [4,21] (λ_ i=>∃k:Nat,k<=ss.length/\i=.int .i64 k/\Hid (∀s∈ss.take k,(s.size:Int)=64)) (λ_ i=>ss.length-(intOf i).toNat)
   case atStart =>
    exact⟨0,AO _,rfl,by show ∀s∈ss.take 0,_;simp⟩
   case round =>
    obtain⟨k,hk,rfl,t⟩:=hrel
    by_cases p:k<ss.length
    ·obtain⟨b,o,s,rfl,I,j⟩:=(h.z (m (.cells #[.slice a ss.length c,.slice l ws.length q] 26))).at p
     have r:Hid (s∈ss):=by show _∈_;rw[j.l];simp[List.getD,p]
     by_cases d:((s.size:Int) != 64)=true
     ·go_wp2
      go_ret;exact⟨RO (by rw[f.l];exact(oJ r.l (by simpa using d)).symm),m _⟩
     have A:((s.size:Int) != 64)=false:=by simpa using d
     have z:Hid ((s.size:Int)=64):=by show _=_;simpa using d
     clear d;go_wp2;go_round
     case rel =>
      exact⟨k+1,ω,ν,λx d=>by
            rw[AX p]at d;rcases BS.1 d with d|d
            ·exact t.l x d
            simp at d;have e:=j.l;simp[List.getD,p]at e;rw[d,<-e];exact z.l⟩
     case measure =>
      simp[intOf];omega
    go_wp2
    have b:∀s∈ss,(s.size:Int)=64:=by have:=t.l;rwa [AV ω]at this
    have C:=Z b;clear b t;go_loopw [6,32] (λ_ i wr=>∃k:Nat,k<=ws.length/\i=.int .i64 k/\Hid (∀x∈ws.take k,OP ss.length x=true)/\Below (w.heap.size+1) (w.alloc (.cells #[.slice a ss.length c,.slice l ws.length q] 26)) wr) (λ_ i _=>ws.length-(intOf i).toNat)
    case atStart =>
     exact⟨0,AO _,rfl,by show ∀s∈ws.take 0,_;simp,AC _ _⟩
    case round =>
     obtain⟨B,O,rfl,z,aA⟩:=hrel;have q0:wr.cell? ⟨w.heap.size,0,none⟩=some (.slice a ss.length c):=(aA.cell (p:=⟨w.heap.size,0,none⟩) (by show w.heap.size<_;omega)).j γ;have q1:wr.cell? ⟨w.heap.size,1,none⟩=some (.slice l ws.length q):=(aA.cell (p:=⟨w.heap.size,1,none⟩) (by show w.heap.size<_;omega)).j γ;have i:Below w.heap.size w wr:=(m _).j (aA.A ω);have D:=Z aA;have t:=Z i
     by_cases aB:B<ws.length
     ·obtain⟨b,o,n,s,rfl,I,M,j⟩:=(H.z i).at aB
      have r:Hid ((n,s)∈ws):=by show _∈_;rw[j.l];simp[List.getD,aB]
      have A:s.size<=1048576:=G (n,s) r.l;have X:w.heap.size+1<=wr.heap.size:=by have:=aA.size;simpa using this
      have L:w.heap.size<wr.heap.size:=ω
      clear aA i
      cases hok:OP ss.length (n,s) with
      | false =>
       go_wp2_with (go_at_call 90;refine(mh ss.length n s _ A ω).A ?_;rw[hok];rintro e w' ⟨rfl,rfl⟩);go_ret;exact⟨RO (by rw[f.l];exact(sG r.l hok).symm),t.l.alloc t.l.size _⟩
      | true =>
       go_wp2_with (go_at_call 90;refine(mh ss.length n s _ A ω).A ?_;rw[hok];rintro e w' ⟨rfl,rfl⟩);go_roundw
       case rel =>
        exact⟨B+1,ω,ν,λx d=>by
              rw[AX aB]at d;rcases BS.1 d with d|d
              ·exact z.l x d
              simp at d;have e:=j.l;simp[List.getD,aB]at e;rw[d,<-e];exact hok,D.l.alloc ω _⟩
       case measure =>
        simp[intOf];omega
     clear aA i
     go_wp2;go_ret;refine⟨RO ?_,t.l⟩;rw[f.l];have b:=z.l;rw[AV ω]at b;exact(ai ω C.l b).symm
  focus
  rotate_left
 rotate_left
 focus
  have u:decide (8<=(ss.length:Int)/\(ss.length:Int)<=200)=false:=AJ y
 rotate_left
 all_goals
  go_enter func47,ntmps47;go_wp2_with (go_at_call 44;refine(jj _ _).A ?_;rw[u];rintro e w' ⟨rfl,rfl⟩);go_ret;exact⟨RO (by rw[f.l];exact(nj ω).symm),m _⟩
theorem WW(a:Option Addr)(ss:List ByteArray)(c:Nat)(r:Option Addr)(ws:List (Int×ByteArray))(l:Nat)(w:World)(h:Strs w a ss)(T:Wrs w r ws)(hl:ss.length<=1048576)(aX:ws.length<=1048576)(hs:∀s∈ss,s.size<=1048576)(M:∀x∈ws,x.2.size<=1048576):Calls prog 38 #[LE a ss.length c r ws.length l] w λe w'=>e=.returned (.bool (LG ss ws))/\Below w.heap.size w w':=by
 have j:∀b,Below w.heap.size w (w.alloc b):=λb=>KW _ _
 obtain⟨R,f⟩:∃R,Hid (R=LG ss ws):=⟨_,Z rfl⟩;rw[<-f.l]
 by_cases aY:8<=(ss.length:Int)
 ·by_cases aZ:(ss.length:Int)<=200
  ·by_cases hp:(ws.length:Int)<=300
   ·go_enter func38,ntmps38
    go_wp2;go_loop [3] (λi=>∃k:Nat,k<=ss.length/\i=.int .i64 k/\Hid (∀s∈ss.take k,(s.size:Int)=64)) (λi=>ss.length-(intOf i).toNat)
    case atStart=>exact⟨0,AO _,rfl,by show ∀s∈ss.take 0,_;simp⟩
    case round =>
     obtain⟨k,hk,rfl,m⟩:=hrel
     by_cases u:k<ss.length
     ·obtain⟨b,o,s,rfl,y,q⟩:=(h.z (j (.cells #[.slice a ss.length c,.slice r ws.length l] 26))).at u
      have z:Hid (s∈ss):=by show _∈_;rw[q.l];simp[List.getD,u]
      by_cases d:((s.size:Int) != 64)=true
      ·go_wp2
       go_ret;exact⟨RO (by rw[f.l];exact(oJ z.l (by simpa using d)).symm),j _⟩
      have t:((s.size:Int) != 64)=false:=by simpa using d
      have p:Hid ((s.size:Int)=64):=by show _=_;simpa using d
      clear d;go_wp2;go_round
      case rel=>exact⟨k+1,ω,ν,λx d=>by
             rw[AX u]at d;rcases BS.1 d with d|d
             ·exact m.l x d
             simp at d;have e:=q.l;simp[List.getD,u]at e;rw[d,<-e];exact p.l⟩
      case measure=>simp[intOf];omega
     go_wp2
     have b:∀s∈ss,(s.size:Int)=64:=by have:=m.l;rwa [AV ω]at this
     have I:=Z b;clear b m;go_loopw [4] (λi wr=>∃k:Nat,k<=ws.length/\i=.int .i64 k/\Hid (∀x∈ws.take k,OP ss.length x=true)/\Below (w.heap.size+1) (w.alloc (.cells #[.slice a ss.length c,.slice r ws.length l] 26)) wr) (λi _=>ws.length-(intOf i).toNat)
     case atStart=>exact⟨0,AO _,rfl,by show ∀s∈ws.take 0,_;simp,AC _ _⟩
     case round =>
      obtain⟨m,aW,rfl,C,aA⟩:=hrel;have G:wr.cell? ⟨w.heap.size,0,none⟩=some (.slice a ss.length c):=(aA.cell (p:=⟨w.heap.size,0,none⟩) (by show w.heap.size<_;omega)).j γ;have H:wr.cell? ⟨w.heap.size,1,none⟩=some (.slice r ws.length l):=(aA.cell (p:=⟨w.heap.size,1,none⟩) (by show w.heap.size<_;omega)).j γ;have t:Below w.heap.size w wr:=(j _).j (aA.A ω);have L:=Z aA;have A:=Z t
      by_cases aB:m<ws.length
      ·obtain⟨b,o,n,s,rfl,y,d,q⟩:=(T.z t).at aB
       have z:Hid ((n,s)∈ws):=by show _∈_;rw[q.l];simp[List.getD,aB]
       have O:s.size<=1048576:=M (n,s) z.l;have S:w.heap.size+1<=wr.heap.size:=by have:=aA.size;simpa using this
       have B:w.heap.size<wr.heap.size:=ω
       have D:b<wr.heap.size:=by have:=DI wr _ y;simpa using this
       have X:(m:Int)<(ws.length:Int):=ω
       have U:(0:Int)<=(m:Int):=ω
       have p:=Z (AH G (AH H (AH y d)));go_wp2_with fail;clear aA t G H y d
       go_region_held3 (λw'=>w'.cell? ⟨w.heap.size,0,none⟩=some (.slice a ss.length c)/\w'.cell? ⟨w.heap.size,1,none⟩=some (.slice (some ⟨b,o,none⟩) ws.length l)/\w'.cell? ⟨b,o+m*2,none⟩=some (.int .i64 n)/\w'.cell? ⟨b,o+m*2+1,none⟩=some (.string s))
        (first|assumption|exact p.l|exact⟨(i.cell (p:=⟨_,_,none⟩) B).j p.l.1,(i.cell (p:=⟨_,_,none⟩) B).j p.l.2.1,(i.cell (p:=⟨b,_,none⟩) D).j p.l.2.2.1,(i.cell (p:=⟨b,_,none⟩) D).j p.l.2.2.2⟩)
        (first|(go_at_call 83;refine(uY a ss.length c (some ⟨b,o,none⟩) ws.length l n s _ O ω).A ?_;rintro e d ⟨rfl,i⟩))
       cases hok:OP ss.length (n,s) with
       | false =>
        go_wp2;go_ret;exact⟨RO (by rw[f.l];exact(sG z.l hok).symm),A.l.drew.j (i.A A.l.size)⟩
       | true =>
        go_wp2;go_roundw
        case rel=>exact⟨m+1,ω,ν,λx d=>by
               rw[AX aB]at d;rcases BS.1 d with d|d
               ·exact C.l x d
               simp at d;have e:=q.l;simp[List.getD,aB]at e;rw[d,<-e];exact hok,L.l.drew.j (i.A S)⟩
        case measure=>simp[intOf];omega
      clear aA t
      go_wp2;go_ret;refine⟨RO ?_,A.l⟩;rw[f.l];have b:=C.l;rw[AV ω]at b;exact(ai ω I.l b).symm
   go_enter func38,ntmps38
   go_wp2;go_ret;exact⟨RO (by rw[f.l];exact(nj ω).symm),j _⟩
  go_enter func38,ntmps38
  go_wp2;go_ret;exact⟨RO (by rw[f.l];exact(nj ω).symm),j _⟩
 go_enter func38,ntmps38
 go_wp2;go_ret;exact⟨RO (by rw[f.l];exact(nj ω).symm),j _⟩
theorem Hn(s:ByteArray)(w:World)(n:Nat)(u:s.size<=1048576)(r:1<=n)(t:n<=8):Calls prog 109 #[.string s,.int .i64 (n:Int)] w λe w'=>e=.returned (.string (UH s n))/\Below w.heap.size w w':=by
 have p:=ri;have l:(1:Int)<=(n:Int):=ω
 have m:(n:Int)<=8:=ω
 go_enter func109,ntmps109;go_wp2;go_loop [5,6] (λv i=>∃k:Nat,k<=s.size/\i=.int .i64 k/\v=.int .u64 (PV (s.data.toList.take k))) (λ_ i=>s.size-(intOf i).toNat)
 case atStart=>exact⟨0,AO _,rfl,rfl⟩
 case round =>
  obtain⟨k,j,rfl,rfl⟩:=hrel
  by_cases c:k<s.size
  ·have b:Hid (PV (s.data.toList.take (k+1))=lm (PV (s.data.toList.take k)) s[k]):=by show _=_;rw[wi s k c,xy]
   go_wp2;go_round
   case rel=>exact⟨k+1,ω,ν,by rw[b.l];rfl⟩
   case measure=>simp[intOf];omega
  have aB:s.data.toList.take k=s.data.toList:=AV τ
  have f:Hid (PV (s.data.toList.take k)=PV s.data.toList):=by show _=_;rw[aB]
  clear aB;obtain⟨x,b⟩:∃x,Hid (x=PV s.data.toList):=⟨PV s.data.toList,(rfl:PV s.data.toList=PV s.data.toList)⟩;rw[f.l,<-b.l];have d:0<=x/\x<=18446744073709551615:=by rw[b.l];exact oR _
  go_wp2;go_loopw [5,7,8] (λv o i wr=>∃k:Nat,k<=n/\i=.int .i64 k/\o=.string (strOfNums (be k x))/\v=.int .u64 (sh k x)/\Below w.heap.size w wr) (λ_ _ i _=>n-(intOf i).toNat)
  case atStart=>exact⟨0,AO _,rfl,rfl,rfl,AC _ _⟩
  case round =>
   obtain⟨k,j,rfl,rfl,rfl,aA⟩:=hrel;have i:=uJ k x d.1 d.2
   by_cases c:k<n
   ·have h:(strOfNums [sh k x % 256]).size<=1:=by rw[BU];simp
    have q:(strOfNums (be k x)).size<=8:=by rw[BU,OL];omega
    go_wp2;go_roundw
    case rel=>exact⟨k+1,ω,ν,by rw[vx,<-TT];rfl,rfl,aA.alloc aA.size _⟩
    case measure=>simp[intOf];omega
   have h:k=n:=ω
   subst h;go_wp2;go_ret;exact⟨qt (by unfold UH;rw[b.l]),aA⟩
theorem cn(b c n d:Nat)(x:Int)(w:World)(z:n<=64)(j:0<=x)(l:x<=18446744073709551615)
  (m:∀i,i<n->∃u,w.cell? ⟨b,c+i,none⟩=some (.int .u8 u))(p:∀i,i<n->w.frozen? ⟨b,c+i,none⟩=false):Calls prog 178 #[.slice (some ⟨b,c,none⟩) n d,.int .u64 x] w λe w'=>e=.returned (.tuple #[])/\Wrote w w' b c (be n x):=by
 go_enter func178,ntmps178;go_wp2;go_loopw [1,4] (λv i wr=>∃k:Nat,k<=n/\i=.int .i64 ((n:Int)-1-k)/\v=.int .u64 (sh k x)/\Wrote w wr b (c+(n-k)) (be k x)) (λ_ i _=>(intOf i+1).toNat)
 case atStart=>exact⟨0,AO _,σ,rfl,by simpa[be] using Wrote.refl w b (c+n)⟩
 case round =>
  obtain⟨k,y,rfl,rfl,aA⟩:=hrel;have r:=uJ k x j l
  by_cases q:k<n
  ·obtain⟨u,f⟩:=m (n-1-k) ω
   have t:wr.cell? ⟨b,c+(n-1-k),none⟩=some (.int .u8 u):=(aA.outside _ (.inl ω)).j f;have i:wr.frozen? ⟨b,c+(n-1-k),none⟩=false:=(aA.frozen _).j (p _ ω);go_wp2;go_roundw
   case rel =>
    have h:=Wrote.step (off:=c+(n-1-k)) (xs:=be k x) (by rw[show c+(n-1-k)+1=c+(n-k) by omega];exact aA) (sh k x % 256) f;exact⟨k+1,ω,ν,rfl,by rw[vx,show n-(k+1)=n-1-k by omega];exact h⟩
   case measure=>simp[intOf];omega
  have aB:k=n:=ω
  subst aB;go_wp2;go_end0;exact⟨rfl,by simpa using aA⟩
theorem Hu(s:ByteArray)(w:World)(n:Nat)(B:s.size<=1048576)(y:1<=n)(z:n<=8):Calls prog 179 #[.string s,.int .i64 (n:Int)] w λe w'=>e=.returned (.string (UH s n))/\Below w.heap.size w w':=by
 have r:(1:Int)<=(n:Int):=ω
 have t:(n:Int)<=8:=ω
 go_enter func179,ntmps179;go_wp2;go_loop [5,6] (λv i=>∃k:Nat,k<=s.size/\i=.int .i64 k/\v=.int .u64 (PV (s.data.toList.take k))) (λ_ i=>s.size-(intOf i).toNat)
 case atStart=>exact⟨0,AO _,rfl,rfl⟩
 case round =>
  obtain⟨k,A,rfl,rfl⟩:=hrel
  by_cases p:k<s.size
  ·have b:Hid (PV (s.data.toList.take (k+1))=lm (PV (s.data.toList.take k)) s[k]):=by show _=_;rw[wi s k p,xy]
   go_wp2;go_round
   case rel=>exact⟨k+1,ω,ν,by rw[b.l];rfl⟩
   case measure=>simp[intOf];omega
  have aB:s.data.toList.take k=s.data.toList:=AV τ
  have l:Hid (PV (s.data.toList.take k)=PV s.data.toList):=by show _=_;rw[aB]
  clear aB;obtain⟨x,b⟩:∃x,Hid (x=PV s.data.toList):=⟨PV s.data.toList,(rfl:PV s.data.toList=PV s.data.toList)⟩;rw[l.l,<-b.l];have f:0<=x/\x<=18446744073709551615:=by rw[b.l];exact oR _
  go_wp2_with fail;refine(cn w.heap.size 0 8 8 x _ ω f.1 f.2 ?hc ?hf).A ?_
  case hc =>
   intro i d;have:i=0\/i=1\/i=2\/i=3\/i=4\/i=5\/i=6\/i=7:=ω
   rcases this with rfl|rfl|rfl|rfl|rfl|rfl|rfl|rfl<;>exact⟨0,σ⟩
  case hf=>intro i d;simp
  rintro e j ⟨rfl,aA⟩;have m:Below w.heap.size w j:=(KW _ _).j (aA.z (Y _))
  have u:=λc=>ES (P:=prog) j 22 5 underlying22 underlying5 w.heap.size (8-n) n c (be n x) (OL n x) (λi d=>by
   have h:=aA.inside (8-n+i) (by rw[OL];omega);rw[pH _ _ _ ω]at h;rw[pH _ _ _ ω,show n-1-i=8-1-(8-n+i) by omega]
   simpa using h) 9 underlying9
  clear aA
  have c:=λq=>og (P:=prog) (t:=240) underlying240 (λ_=>κ) w.heap.size 0 (8-n) ω .i64 (8-(n:Int)) ω q
  rw[show 8-(8-n)=n by omega,BH]at c;go_wp2;go_ret;exact⟨qt (by unfold UH;rw[b.l]),m⟩
theorem YF{a b:Bool}(h:a=b):Ending.returned (.bool a)=.returned (.bool b):=by rw[h]
def MN(k l m:Int)(p:ByteArray)(n:Int):Bool:=decide (1<=n/\n<=8/\1<=k/\k<=4/\1<=l/\l<=60000/\1<=m/\m<=1000000000/\(p.size:Int)<=56-n/\(k=3->p.size=0))
@[reducible] def NK(k l m:Int)(p:ByteArray):Value:=.agg #[.int .i64 k,.int .i64 l,.int .i64 m,.string p]
theorem Dn(v:Int)(c:Nat)(w:World)(b:0<=v)(d:v<=9223372036854775807)(m:c<=8):Calls prog 108 #[.int .i64 v,.int .i64 (c:Int)] w λe w'=>e=.returned (.string (strOfNums (be c v)))/\Below w.heap.size w w':=by
 have f:=ri;go_enter func108,ntmps108;go_wp2;go_loopw [0,5,6] (λx o i wr=>∃k:Nat,k<=c/\i=.int .i64 k/\o=.string (strOfNums (be k v))/\x=.int .i64 (sh k v)/\Below w.heap.size w wr) (λ_ _ i _=>c-(intOf i).toNat)
 case atStart=>exact⟨0,AO _,rfl,rfl,rfl,AC _ _⟩
 case round =>
  obtain⟨k,p,rfl,rfl,rfl,aA⟩:=hrel;have i:=xK k v b d
  by_cases h:k<c
  ·have j:(strOfNums [sh k v % 256]).size<=1:=by rw[BU];simp
   have l:(strOfNums (be k v)).size<=8:=by rw[BU,OL];omega
   go_wp2;go_roundw
   case rel=>exact⟨k+1,ω,ν,by rw[vx,<-TT];rfl,rfl,aA.alloc aA.size _⟩
   case measure=>simp[intOf];omega
  have aB:k=c:=ω
  subst aB;go_wp2;go_ret;exact⟨rfl,aA⟩
theorem gm(n:Int)(w:World)(b:1<=n)(c:n<=8):Calls prog 106 #[.int .i64 n] w λe w'=>e=.returned (.int .i64 (64-n-8))/\w'=w:=by
 go_enter func106,ntmps106;go_wp2;go_ret;exact⟨rfl,rfl⟩
theorem uw(n:Int)(w:World)(b:1<=n)(c:n<=8):Calls prog 78 #[.int .i64 n] w λe w'=>e=.returned (.int .i64 (64-n-8))/\w'=w:=by
 go_enter func78,ntmps78;go_wp2;go_ret;exact⟨rfl,rfl⟩
theorem la(k l m:Int)(p:ByteArray)(n:Int)(w:World)(d:p.size<=1048576):Calls prog 152 #[NK k l m p,.int .i64 n] w λe w'=>e=.returned (.bool (MN k l m p n))/\Below w.heap.size w w':=by
 by_cases b:1<=n/\n<=8
 ·obtain⟨aB,c⟩:=b
  go_enter func152,ntmps152;go_wp2
  all_goals first
   | (go_ret;refine⟨YF ?_,KW _ _⟩;unfold MN;symm;apply AJ;intro h;omega)
   | (go_ret;refine⟨YF ?_,KW _ _⟩;have aA:(k == 3)=true:=(by assumption);rw[VF];unfold MN;simp at aA;apply JK.2;constructor<;>intro h<;>omega)
   | (go_quiet ((go_at_call 78;exact Calls.quiet_of_same (uw _ _ aB c)));go_wp2;go_ret;refine⟨YF ?_,below_drewN (KW _ _) _⟩;have aA:(k == 3)=false:=(by assumption);unfold MN;simp at aA;apply JK.2;constructor<;>intro h<;>omega)
 have c:decide (1<=n/\n<=8)=false:=by simpa using b
 go_enter func152,ntmps152;go_wp2_with (go_at_call 45;refine(RX _ _).A ?_;rw[c];rintro e w' ⟨rfl,rfl⟩);go_ret;refine⟨YF ?_,KW _ _⟩;unfold MN;symm;apply AJ;intro h;omega
theorem m7(k l m:Int)(p:ByteArray)(n:Int)(w:World)(z:p.size<=1048576):Calls prog 107 #[NK k l m p,.int .i64 n] w λe w'=>e=.returned (.bool (MN k l m p n))/\Below w.heap.size w w':=by
 by_cases c:1<=n/\n<=8
 ·obtain⟨aA,aB⟩:=c
  by_cases i:1<=k/\k<=4/\1<=l/\l<=60000/\1<=m/\m<=1000000000
  ·obtain⟨q,r,t,u,x,y⟩:=i
   by_cases j:(p.size:Int)<=64-n-8
   ·by_cases b:k=3
    ·have f:(k != 3)=false:=by simp[b]
     have d:Hid (k=3):=b;clear b;go_enter func107,ntmps107;go_wp2;go_quiet ((go_at_call 106;exact Calls.quiet_of_same (gm _ _ aA aB)));go_wp2;go_ret;refine⟨YF ?_,below_drewN (KW _ _) _⟩;rw[VF];unfold MN;have b:=d.l;apply JK.2;constructor<;>intro h<;>omega
    have f:(k != 3)=true:=by simp[b]
    go_enter func107,ntmps107;go_wp2;go_quiet ((go_at_call 106;exact Calls.quiet_of_same (gm _ _ aA aB)));go_wp2;go_ret;refine⟨YF ?_,below_drewN (KW _ _) _⟩;unfold MN;symm;apply AM;omega
   have b:decide ((p.size:Int)<=64-n-8)=false:=by simpa using j
   go_enter func107,ntmps107;go_wp2;go_quiet ((go_at_call 106;exact Calls.quiet_of_same (gm _ _ aA aB)));go_wp2;go_ret;refine⟨YF ?_,below_drewN (KW _ _) _⟩;unfold MN;symm;apply AJ;intro h;omega
  have b:MN k l m p n=false:=by unfold MN;apply AJ;intro h;omega
  have d:Hid (MN k l m p n=false):=b;clear b;go_enter func107,ntmps107;go_wp2
  all_goals (go_ret;exact⟨YF d.l.symm,KW _ _⟩)
 have b:decide (1<=n/\n<=8)=false:=by simpa using c
 go_enter func107,ntmps107;go_wp2_with (go_at_call 37;refine(QO _ _).A ?_;rw[b];rintro e w' ⟨rfl,rfl⟩);go_ret;refine⟨YF ?_,KW _ _⟩;unfold MN;symm;apply AJ;intro h;omega
theorem PY{p:Prop}(h:p):Hid p:=h
def zq:Value->ByteArray
 | .string s=>s
 | _=>empty
theorem xG(k l m:Int)(p:ByteArray):strOfNums (be 1 k)++strOfNums (be 2 l)++strOfNums (be 4 m)++strOfNums (be 1 (p.size:Int))++p=strOfNums (VT k l m p++List.replicate 0 0):=by
 rw[List.replicate_zero,EA];unfold VT;rw[TT,TT,TT,TT,TI]
theorem vA(xs:List Int)(j:Nat):strOfNums (xs++List.replicate j 0)++⟨#[0]⟩=strOfNums (xs++List.replicate (j+1) 0):=by
 rw[KN,<-BN,TT _ [0]];rfl
theorem ey(v:Int)(c:Nat)(b:Int)(aA:b=(c:Int))(w:World)(d:0<=v)(f:v<=9223372036854775807)(h:c<=8):Calls prog 108 #[.int .i64 v,.int .i64 b] w λe w'=>e=.returned (.string (strOfNums (be c v)))/\Below w.heap.size w w':=by
 subst aA;exact Dn v c w d f h
theorem dj{v0 v1 v2 v3:Value}(b:Below w.heap.size w w')
  (h:W.heap.size<w.heap.size/\w.cell? ⟨W.heap.size,0,none⟩=some v0/\w.cell? ⟨W.heap.size,1,none⟩=some v1/\w.cell? ⟨W.heap.size,2,none⟩=some v2/\w.cell? ⟨W.heap.size,3,none⟩=some v3/\Below W.heap.size W w):W.heap.size<w'.heap.size/\w'.cell? ⟨W.heap.size,0,none⟩=some v0/\w'.cell? ⟨W.heap.size,1,none⟩=some v1/\w'.cell? ⟨W.heap.size,2,none⟩=some v2/\w'.cell? ⟨W.heap.size,3,none⟩=some v3/\Below W.heap.size W w' :=⟨AD h.1 b.size,(b.cell (p:=⟨_,0,none⟩) h.1).j h.2.1,(b.cell (p:=⟨_,1,none⟩) h.1).j h.2.2.1,(b.cell (p:=⟨_,2,none⟩) h.1).j h.2.2.2.1,(b.cell (p:=⟨_,3,none⟩) h.1).j h.2.2.2.2.1,
  h.2.2.2.2.2.j (b.A (KQ h.1))⟩
theorem Ej(k l m:Int)(p:ByteArray)(n:Nat)(w:World)(aA:MN k l m p n=true):Calls prog 68 #[NK k l m p,.int .i64 (n:Int)] w λe w'=>e=.returned (.string (RJ k l m p n))/\Below w.heap.size w w':=by
 have aB:=AU (by unfold MN at aA;exact aA);obtain⟨M,O,B,C,D,G,I,L,U,_⟩:=aB;have z1:(strOfNums (be 1 k)).size=1:=by rw[BU,OL]
 have z2:(strOfNums (be 2 l)).size=2:=by rw[BU,OL]
 have z3:(strOfNums (be 4 m)).size=4:=by rw[BU,OL]
 have z4:(strOfNums (be 1 (p.size:Int))).size=1:=by rw[BU,OL]
 have z5:¬(9223372036854775807<8+p.size):=ω
 go_enter func68,ntmps68;go_wp2_with (go_at_call 107;refine(m7 k l m p n _ ω).A ?_;rw[aA];rintro e c ⟨rfl,h⟩)
 have q:w.heap.size<c.heap.size/\c.cell? ⟨w.heap.size,0,none⟩=some (.int .i64 k)/\c.cell? ⟨w.heap.size,1,none⟩=some (.int .i64 l)/\c.cell? ⟨w.heap.size,2,none⟩=some (.int .i64 m)/\c.cell? ⟨w.heap.size,3,none⟩=some (.string p)/\Below w.heap.size w c :=dj (v0:=.int .i64 k) (v1:=.int .i64 l) (v2:=.int .i64 m) (v3:=.string p) h ⟨σ,σ,σ,σ,σ,KW _ _⟩
 have f:=PY q;clear q h
 go_region_held3 (λw'=>w.heap.size<w'.heap.size/\w'.cell? ⟨w.heap.size,0,none⟩=some (.int .i64 k)/\w'.cell? ⟨w.heap.size,1,none⟩=some (.int .i64 l)/\w'.cell? ⟨w.heap.size,2,none⟩=some (.int .i64 m)/\w'.cell? ⟨w.heap.size,3,none⟩=some (.string p)/\Below w.heap.size w w')
  (first|assumption|exact dj (below_drewN (AC _ _) 1) f.l|exact dj (by assumption) (by assumption))
  (first|(go_at_call_of 108 k;refine(ey k 1 _ rfl _ ω ω ω).A ?_;rintro e X ⟨rfl,x⟩)|(go_at_call_of 108 l;refine(ey l 2 _ rfl _ ω ω ω).A ?_;rintro e w3 ⟨rfl,y⟩)|(go_at_call_of 108 m;refine(ey m 4 _ rfl _ ω ω ω).A ?_;rintro e w4 ⟨rfl,z⟩)|(go_at_call_of 108 (p.size:Int);refine(ey (p.size:Int) 1 _ rfl _ ω ω ω).A ?_;rintro e w5 ⟨rfl,A⟩))
 clear f;rename_i d;have i:=d.2.2.2.2.2;clear d;go_wp2;go_loop [5] (λb=>∃j:Nat,j<=56-n-p.size/\b=.string (strOfNums (VT k l m p++List.replicate j 0))) (λb=>64-(zq b).size)
 case atStart=>exact⟨0,AO _,by rw[xG]⟩
 case round =>
  obtain⟨j,T,rfl⟩:=hrel;have u:(strOfNums (VT k l m p++List.replicate j 0)).size=8+p.size+j:=by rw[BU,AE,rl,CU]
  by_cases H:j<56-n-p.size
  ·go_wp2
   go_round
   case rel=>exact⟨j+1,ω,by rw[vA]⟩
   case measure =>
    rw[vA];simp only[zq,BU,AE,rl,CU];omega
  have t:j=56-n-p.size:=ω
  subst t;have R:(UH (strOfNums (VT k l m p++List.replicate (56-n-p.size) 0)) n).size=n:=ia _ _;have S:¬(9223372036854775807<n+(8+p.size+(56-n-p.size))):=ω
  go_wp2_with (go_at_call 109;refine(Hn _ _ n (by rw[u];omega) ω ω).A ?_;rintro e w6 ⟨rfl,r⟩);go_ret;exact⟨rfl,i.j (r.A i.size)⟩
theorem B6(k l m:Int)(p:ByteArray)(n:Int)(w:World)(b:p.size<=1048576)(aB:MN k l m p n=false):Calls prog 68 #[NK k l m p,.int .i64 n] w λe w'=>e=.returned (.string empty)/\Below w.heap.size w w':=by
 go_enter func68,ntmps68;go_wp2_with (go_at_call 107;refine(m7 k l m p n _ b).A ?_;rw[aB];rintro e c ⟨rfl,aA⟩);go_ret;exact⟨rfl,(KW _ _).j (aA.A σ)⟩
section
def PM(xs:List Int)(o:Nat)(ys:List Int):List Int:=xs.take o++ys++xs.drop (o+ys.length)
theorem jh(xs:List Int)(o:Nat)(ys:List Int)(h:o+ys.length<=xs.length):(PM xs o ys).length=xs.length:=by
 simp[PM];omega
theorem Ih(xs:List Int)(o:Nat)(ys:List Int)(h:o+ys.length<=xs.length)(i:Nat)(b:i<ys.length):(PM xs o ys).getD (o+i) 0=ys.getD i 0:=by
 have c:(xs.take o).length=o:=τ
 unfold PM;rw[AZ,BN,CX ω,c,show o+i-o=i by omega,BA b,AZ]
theorem Jb(xs:List Int)(o:Nat)(ys:List Int)(h:o+ys.length<=xs.length)(i:Nat)(b:i<o\/o+ys.length<=i):(PM xs o ys).getD i 0=xs.getD i 0:=by
 have c:(xs.take o).length=o:=τ
 unfold PM;rcases b with b|b
 ·rw[AZ,BN,BA ω,GG b,AZ]
 rw[AZ,CX τ,AE,c,FK,show o+ys.length+(i-(o+ys.length))=i by omega,AZ]
structure Fm(w:World)(F:Nat)(xs:List Int):Prop where
 cell:∀i,i<xs.length->w.cell? ⟨F,i,none⟩=some (.int .u8 (xs.getD i 0))
 froz:∀i,i<xs.length->w.frozen? ⟨F,i,none⟩=false
theorem Fm.drew(h:Fm w F xs):Fm w.drew F xs:=⟨h.cell,h.froz⟩
theorem Fm.wrote{o:Nat}(h:Fm w F xs)(c:Wrote w w' F o ys)(b:o+ys.length<=xs.length):Fm w' F (PM xs o ys):=by
 have aB:=jh xs o ys b;refine⟨λi d=>?_,λi d=>(c.frozen _).j (h.froz i ω)⟩
 by_cases aA:o<=i/\i<o+ys.length
 ·have:=c.inside (i-o) ω
  rw[show o+(i-o)=i by omega]at this;rw[this];have e:=Ih xs o ys b (i-o) ω;rw[show o+(i-o)=i by omega]at e;rw[e]
 rw[c.outside i ω,h.cell i ω,Jb xs o ys b i ω]
theorem Fm.z(h:Fm w F xs)(c:Below w.heap.size w w')(hF:F<w.heap.size):Fm w' F xs :=⟨λi b=>(c.cell (p:=⟨F,i,none⟩) hF).j (h.cell i b),λi b=>(c.frozen (p:=⟨F,i,none⟩) hF).j (h.froz i b)⟩
theorem VJ(b:Nat):∀(vs:List Value) (o:Nat) (w:World),(w.setCells b o vs).heap.size=w.heap.size
 | [],_,_=>rfl
 | v::r,o,w=>by rw[World.setCells,VJ b r];simp[World.setCell]
theorem jl(b:Nat):∀(vs:List Value) (o:Nat) (w:World) (k:Nat),k≠b->(w.setCells b o vs).heap[k]?=w.heap[k]?
 | [],_,_,_,_=>rfl
 | v::r,o,w,k,h=>by rw[World.setCells,jl b r _ _ _ h,BD _ _ _ _ h]
theorem YN(b:Nat):∀(vs:List Value) (o:Nat) (w:World),(w.setCells b o vs).os=w.os/\(w.setCells b o vs).tape=w.tape/\(w.setCells b o vs).output=w.output
 | [],_,_=>⟨rfl,rfl,rfl⟩
 | v::r,o,w=>by rw[World.setCells];exact YN b r (o+1) _
theorem rV(w:World)(b o:Nat)(t:ByteArray)(m:∀j,j<t.size->(w.cell? ⟨b,o+j,none⟩).isSome=true):Wrote w (w.setCells b o (t.data.toList.map λx=>Value.int .u8 (x.toNat:Int))) b o (KU t):=by
 have d:(t.data.toList.map λx=>Value.int .u8 (x.toNat:Int)).length=t.size:=σ
 obtain⟨h,j,l⟩:=YN b (t.data.toList.map λx=>Value.int .u8 (x.toNat:Int)) o w;refine⟨h,j,l,VJ _ _ _ _,λk q=>jl _ _ _ _ _ q,λi c=>?_,λx f=>?_,λa=>EO _ _ _ _ _⟩
 ·rw[ME]at c
  rw[IZ b _ o w (by rw[d];exact m) i (by rw[d];exact c)];have p:i<t.data.toList.length:=by simpa using c
  simp[KU,List.getD,BQ p]
 rw[ME]at f
 exact DU b _ o w ⟨b,x,none⟩ (λ_ _=>by rw[d];simpa using f)
theorem Fm.text(h:Fm w F xs)(aB e aA:TypeId)(j:P.underlying aB=some (.slice e))(d:P.underlying e=some (.int .u8))(c:P.underlying aA=some .string)(o n b:Nat)(k:o+n<=xs.length):(convert aB aA (.slice (some ⟨F,o,none⟩) n b)).run P w=.ok (.string (strOfNums ((xs.drop o).take n))) w :=ES (P:=P) w aB e j d F o n b ((xs.drop o).take n) τ (λi f=>by
  rw[h.cell (o+i) ω]
  simp[List.getD,GG f,FK]) aA c
theorem Fm.step{o:Nat}(h:Fm w F xs)(c:xs.length=64)(b:Wrote w w' F o ys)(d:o+ys.length<=64):∃aA,Hid (aA=PM xs o ys)/\aA.length=64/\Fm w' F aA :=⟨PM xs o ys,(rfl:PM xs o ys=PM xs o ys),by rw[jh _ _ _ ω,c],h.wrote b ω⟩
theorem Fm.range(h:Fm w F xs):w.rangeAt F 0 (xs.map (Value.int .u8)):=λj v hv=>by
 obtain⟨b,e⟩:=CW.1 hv;simp at b;rw[BH,h.cell j b];simp at e;subst e;simp[List.getD,BQ b]
structure PI(W w:World)(c0 c1 c2 c3:Value):Prop where
 size:W.heap.size+3<=w.heap.size
 bel:Below W.heap.size W w
 b0:w.cell? ⟨W.heap.size,0,none⟩=some c0
 b1:w.cell? ⟨W.heap.size,1,none⟩=some c1
 b2:w.cell? ⟨W.heap.size,2,none⟩=some c2
 b3:w.cell? ⟨W.heap.size,3,none⟩=some c3
 there:w.there (W.heap.size+1) 0 64
section
variable {W w w':World} {c0 c1 c2 c3:Value}
theorem PI.drew(h:PI W w c0 c1 c2 c3):PI W w.drew c0 c1 c2 c3:=⟨h.size,h.bel.drew,h.b0,h.b1,h.b2,h.b3,h.there⟩
theorem PI.z(h:PI W w c0 c1 c2 c3)(b:Below w.heap.size w w'):PI W w' c0 c1 c2 c3 :=have d:=h.size
 ⟨AL d b.size,h.bel.j (b.A ω),(b.cell (p:=⟨_,0,none⟩) (by show W.heap.size<_;omega)).j h.b0,(b.cell (p:=⟨_,1,none⟩) (by show W.heap.size<_;omega)).j h.b1,
  (b.cell (p:=⟨_,2,none⟩) (by show W.heap.size<_;omega)).j h.b2,(b.cell (p:=⟨_,3,none⟩) (by show W.heap.size<_;omega)).j h.b3,
  λj c=>by rw[b.cell (p:=⟨_,_,none⟩) (by show W.heap.size+1<_;omega),b.frozen (p:=⟨_,_,none⟩) (by show W.heap.size+1<_;omega)];exact h.there j c⟩
theorem PI.wrote{o:Nat}(h:PI W w c0 c1 c2 c3)(f:Wrote w w' (W.heap.size+1+1) o ys):PI W w' c0 c1 c2 c3 :=have d:=h.size;have b:Below (W.heap.size+1+1) w w':=f.z (Y _)
 ⟨AL d b.size,h.bel.j (b.A ω),(b.cell (p:=⟨_,0,none⟩) (by show W.heap.size<_;omega)).j h.b0,(b.cell (p:=⟨_,1,none⟩) (by show W.heap.size<_;omega)).j h.b1,
  (b.cell (p:=⟨_,2,none⟩) (by show W.heap.size<_;omega)).j h.b2,(b.cell (p:=⟨_,3,none⟩) (by show W.heap.size<_;omega)).j h.b3,
  λj c=>by rw[b.cell (p:=⟨_,_,none⟩) (by show W.heap.size+1<_;omega),b.frozen (p:=⟨_,_,none⟩) (by show W.heap.size+1<_;omega)];exact h.there j c⟩
theorem PI.toS(h:PI W w c0 c1 c2 c3):w.cell? ⟨W.heap.size,0,none⟩=some c0/\w.cell? ⟨W.heap.size,1,none⟩=some c1/\w.cell? ⟨W.heap.size,2,none⟩=some c2/\w.cell? ⟨W.heap.size,3,none⟩=some c3/\PI W w c0 c1 c2 c3:=⟨h.b0,h.b1,h.b2,h.b3,h⟩
theorem PI.ofS(h:w.cell? ⟨W.heap.size,0,none⟩=some c0/\w.cell? ⟨W.heap.size,1,none⟩=some c1/\w.cell? ⟨W.heap.size,2,none⟩=some c2/\w.cell? ⟨W.heap.size,3,none⟩=some c3/\PI W w c0 c1 c2 c3):PI W w c0 c1 c2 c3:=h.2.2.2.2
end
theorem XT(w:World)(b o:Nat)(h:w.heap.size<=b):w.frozen? ⟨b,o,none⟩=false:=by
 have e:w.heap[b]?=none:=by simp[h]
 simp[World.frozen?,e]
theorem E9{c:Code}(w:World)(b d f k:Value)(m p q:TypeId)(A B:Array Value)(r:A=Array.replicate 64 (.int .u8 0))(t:B=Array.replicate 64 (.int .u8 0))
  (h:∀i,PI w i b d f k->Fm i (w.heap.size+1+1) (List.replicate 64 0)->c.wp P Q a i):c.wp P Q a (((w.alloc (.cells #[b,d,f,k] m)).alloc (.cells A p)).alloc (.cells B q)):=by
 subst r t
 have aA:∀(i:Nat) {v:Value},#[b,d,f,k][i]?=some v->(((w.alloc (.cells #[b,d,f,k] m)).alloc (.cells (Array.replicate 64 (.int .u8 0)) p)).alloc (.cells (Array.replicate 64 (.int .u8 0)) q)).cell? ⟨w.heap.size,i,none⟩=some v:=λi v hv=>by
  rw[EN _ _ _ τ,EN _ _ _ σ,EC _ _ _ _ rfl];exact hv
 refine h _ ⟨σ,((KW _ _).alloc σ _).alloc τ _,aA _ rfl,aA _ rfl,aA _ rfl,aA _ rfl,λj u=>?_⟩ ⟨λi l=>?_,λi l=>?_⟩
 ·rw[BH,EN _ _ _ σ,EC _ _ _ _ σ,DK,DK,DK]
  simp[u,XT]
 ·rw[EC _ _ _ _ σ]
  have aB:i<64:=by simpa only[CU] using l
  rw[Array.getElem?_replicate,AF aB,AZ,ED,AF aB];rfl
 rw[DK,DK,DK]
 exact XT _ _ _ ω
theorem vI{p:Tmp}{f:TypeId}(h:fn.results=#[.cell p f])(c:Array Value)(w:World)(b o:Nat)(i:c.getD p undef=.pointer (some ⟨b,o,none⟩))
  (cs:List Value)(d:TypeDesc)(j:w.rangeAt b o cs)(q:P.underlying f=some d)(k:d.isRow=true)(l:(P.info? f).map (·.size)=some cs.length):(results fn c).run P w=.ok (.agg cs.toArray) w:=by
 have m:=IT (P:=P) w b o f cs d j q k l;simp only[results,h];rw[Array.getD_eq_getD_getElem?]at i;simp[i,asAddr,m]
theorem VR(xs:List Int):∀v∈xs.map (Value.int .u8),v.oneCell'=true:=λv hv=>by
 obtain⟨x,_,rfl⟩:=DL.1 hv;rfl
theorem Fl(xs ys:List Int)(n:Nat)(b:ys.length=n):(PM xs 0 ys).drop n=xs.drop n:=by
 unfold PM;rw[FQ,DQ,BH,<-b,List.drop_left]
theorem Fm.isSome(h:Fm w F xs)(o m:Nat)(c:o+m<=xs.length):∀j,j<m->(w.cell? ⟨F,o+j,none⟩).isSome=true:=λj b=>by
 rw[h.cell (o+j) ω];rfl
theorem Fm.frozen(h:Fm w F xs)(o m:Nat)(c:o+m<=xs.length):∀j,j<m->w.frozen? ⟨F,o+j,none⟩=false:=λj b=>h.froz (o+j) ω
theorem Fm.copied(h:Fm w F xs)(o:Nat)(t:ByteArray)(b:o+t.size<=xs.length):Wrote w (w.setCells F o (t.data.toList.map λx=>Value.int .u8 (x.toNat:Int))) F o (KU t) :=rV w F o t (h.isSome o t.size b)
theorem jf(A ys:List Int)(j o:Nat)(b:A.length=o):PM (A++List.replicate j 0) o ys=A++ys++List.replicate (j-ys.length) 0:=by
 unfold PM;rw[JO ω,AV ω,<-b,List.drop_length_add_append,List.drop_replicate]
theorem wK(k l m:Int)(p:ByteArray)(n:Nat)(h:n<=64){aA aB b c d f:List Int}(x:aA=List.replicate 64 0)(i:aB=PM aA n (be 1 k))(j:b=PM aB (n+1) (be 2 l))(q:c=PM b (n+3) (be 4 m))
  (r:d=PM c (n+7) (be 1 (p.size:Int)))(t:f=PM d (n+8) (KU p)):f=List.replicate n 0++PK k l m p n:=by
 have u:aA=List.replicate n 0++List.replicate (64-n) 0:=by rw[x,List.replicate_append_replicate];congr 1;omega
 rw[u,jf _ _ _ n σ]at i;rw[i,jf _ _ _ (n+1) (by simp[OL])]at j;rw[j,jf _ _ _ (n+3) (by simp[OL])]at q;rw[q,jf _ _ _ (n+7) (by simp[OL])]at r;rw[r]at t;rw[t,jf _ _ _ (n+8) (by simp[OL])];unfold PK VT;simp only[BN,OL,ME]
 congr 7
 omega
theorem rh(a b:ByteArray):KU (a++b)=KU a++KU b:=by simp[KU]
theorem kp(xs:List Int)(h:∀x∈xs,0<=x/\x<256):KU (strOfNums xs)=xs:=by
 unfold KU;rw[strOfNums_data,GW]
 conv=>rhs;rw[<-List.map_id xs]
 apply IP
 intro x b;have:=h x b;simp only[Function.comp,id];rw[UInt8.toNat_ofNat'];omega
theorem dw(n:Nat)(v:Int):∀x∈be n v,0<=x/\x<256:=λx b=>by
 unfold be at b;obtain⟨i,_,rfl⟩:=DL.1 b;omega
theorem Bu(p:ByteArray):∀x∈KU p,0<=x/\x<256:=λx b=>by
 unfold KU at b;obtain⟨c,_,rfl⟩:=DL.1 b;have:=c.toNat_lt;omega
theorem nB(k l m:Int)(p:ByteArray)(n:Nat):∀x∈PK k l m p n,0<=x/\x<256:=λx b=>by
 unfold PK VT at b;simp only[BS,List.mem_replicate]at b;rcases b with ((((h|h)|h)|h)|h)|h
 ·exact dw _ _ x h
 ·exact dw _ _ x h
 ·exact dw _ _ x h
 ·exact dw _ _ x h
 ·exact Bu _ x h
 omega
theorem yL(k l m:Int)(p:ByteArray)(n:Nat)(h:p.size+n<=56){aA:List Int}{b:ByteArray}{M:Nat}(i:M=64-n)(d:aA=List.replicate n 0++PK k l m p n)(f:b=strOfNums ((aA.drop n).take M)):b=strOfNums (PK k l m p n)/\PM aA 0 (KU (UH b n))=KU (RJ k l m p n):=by
 have j:=rC k l m p n h
 have c:b=strOfNums (PK k l m p n):=by
  rw[f,d,EY σ,AV ω]
 refine⟨c,?_⟩;unfold PM RJ;rw[<-c,rh,ME,ia,d,FQ,DQ,BH,EY σ]
 congr 1
 rw[c,kp _ (nB k l m p n)]
theorem Ce(w:World)(A:Array Value)(t:TypeId)(n:Nat)(v:Value)(b:A=Array.replicate n v):(w.alloc (.cells A t)).there w.heap.size 0 n:=λj c=>by
 subst b;rw[BH,EC _ _ _ _ rfl,DK];exact⟨by simp[c],XT _ _ _ (Y _)⟩
theorem tr{f:Array Oper}(j:op.guard=none)(d:TypeId)(x y:Operand)(l:op.op=.store d x y)
  (xs:List Int)(p:a.eval x=.pointer (some ⟨w.heap.size,0,none⟩))(q:a.eval y=.agg (xs.map (Value.int .u8)).toArray)(A:Array Value)(t:TypeId)(v:Value)(k:A=Array.replicate xs.length v)
  (b:(P.info? d).map (·.size)=some xs.length)
  (h:∀c,Fm c w.heap.size xs->Below w.heap.size w c->c.heap.size=w.heap.size+1->wpList P f Q aA (a.put op.dst undef) c):wpList P f Q (op::aA) a (w.alloc (.cells A t)):=by
 have aB:=Ce w A t xs.length v k;have c:(xs.map (Value.int .u8)).toArray.size=xs.length:=σ
 refine BI j d x y l w.heap.size 0 _ p q (by rw[c];exact aB) (by rw[c];exact b) (GA (VR xs)) ?_;have m:=DY (w.alloc (.cells A t)) w.heap.size 0 (xs.map (Value.int .u8)) (by rw[BP];exact aB);refine h _ ⟨λi b=>?_,λi b=>?_⟩ (Go.below_setCells (Y _) _ _ _ (KW _ _)) (by rw[VJ];simp)
 ·have:=m i (.int .u8 (xs.getD i 0)) (by simp[List.getD,BQ b])
  simpa using this
 rw[EO,DK];exact XT _ _ _ (Y _)
end
set_option maxRecDepth 4000 in
theorem oH(k l m:Int)(p:ByteArray)(n:Nat)(w:World)(D:MN k l m p n=true):Calls prog 153 #[NK k l m p,.int .i64 (n:Int)] w λe w'=>e=.returned (.agg ((KU (RJ k l m p n)).map (Value.int .u8)).toArray)/\Below w.heap.size w w':=by
 have R:=AU (by unfold MN at D;exact D);obtain⟨eN,eO,eH,eI,eJ,eK,eL,eM,I,_⟩:=R
 have G:=λc=>og (P:=prog) (t:=142) underlying142 (λ_=>κ) (w.heap.size+1+1) 0 n ω .i64 (n:Int) rfl c
 rw[BH]at G;obtain⟨M,q⟩:∃M,Hid (M=64-n):=⟨64-n,PY rfl⟩;rw[<-q.l]at G;have dN:(56:Int)<=(M:Int):=by have:=q.l;omega
 have dQ:(M:Int)<=63:=by have:=q.l;omega
 have dU:(1:Int)<=(M:Int):=ω
 have dV:(3:Int)<=(M:Int):=ω
 have dZ:(7:Int)<=(M:Int):=ω
 have eB:(8:Int)<=(M:Int):=ω
 have eQ:IntKind.u64.wrap k=k:=XW k ω ω;have eT:IntKind.u64.wrap l=l:=XW l ω ω;have eU:IntKind.u64.wrap m=m:=XW m ω ω;have eV:IntKind.u64.wrap (p.size:Int)=(p.size:Int):=XW _ ω ω;have eC:¬(M=1):=ω
 have eF:¬(M=3):=ω
 have eG:¬(M=7):=ω
 go_enter func153,ntmps153;go_wp2_with fail;refine E9 w (.int .i64 k) (.int .i64 l) (.int .i64 m) (.string p) _ _ _ _ _ rfl rfl ?_;intro wa i b;have d:(List.replicate 64 (0:Int)).length=64:=σ
 obtain⟨H,C⟩:∃H,Hid (H=List.replicate 64 (0:Int)):=⟨_,PY rfl⟩;rw[<-C.l]at b d;have f:=b;have h:=i;clear b i;have t:=PY h.toS;clear h
 go_region_held3 (λw'=>w'.cell? ⟨w.heap.size,0,none⟩=some (.int .i64 k)/\w'.cell? ⟨w.heap.size,1,none⟩=some (.int .i64 l)/\w'.cell? ⟨w.heap.size,2,none⟩=some (.int .i64 m)/\w'.cell? ⟨w.heap.size,3,none⟩=some (.string p)/\PI w w' (.int .i64 k) (.int .i64 l) (.int .i64 m) (.string p))
  (first|assumption|exact(PI.ofS t.l).drew.toS|exact(PI.wrote (PI.ofS (by assumption)) (by assumption)).toS)
  (first|(go_at_call 178;refine(cn (w.heap.size+1+1) n 1 M k _ ω ω ω (λi b=>⟨_,f.drew.cell (n+i) (by rw[d];omega)⟩) (λi b=>f.drew.froz (n+i) (by rw[d];omega))).A ?_;rintro e wb ⟨rfl,u⟩))
 have r:PI w wb (.int .i64 k) (.int .i64 l) (.int .i64 m) (.string p):=PI.ofS (by assumption);obtain⟨eX,S,j,h⟩:=f.drew.step d u (by rw[OL];omega);clear t u f d;go_wp2_with fail;have t:=PY r.toS;clear r
 go_region_held3 (λw'=>w'.cell? ⟨w.heap.size,0,none⟩=some (.int .i64 k)/\w'.cell? ⟨w.heap.size,1,none⟩=some (.int .i64 l)/\w'.cell? ⟨w.heap.size,2,none⟩=some (.int .i64 m)/\w'.cell? ⟨w.heap.size,3,none⟩=some (.string p)/\PI w w' (.int .i64 k) (.int .i64 l) (.int .i64 m) (.string p))
  (first|assumption|exact(PI.ofS t.l).drew.toS|exact(PI.wrote (PI.ofS (by assumption)) (by assumption)).toS)
  (first|(go_at_call 178;refine(cn (w.heap.size+1+1) (n+1) 2 (M-1) l _ ω ω ω (λi b=>⟨_,h.drew.cell (n+1+i) (by rw[j];omega)⟩) (λi b=>h.drew.froz (n+1+i) (by rw[j];omega))).A ?_;rintro e wc ⟨rfl,u⟩))
 have f:PI w wc (.int .i64 k) (.int .i64 l) (.int .i64 m) (.string p):=PI.ofS (by assumption);obtain⟨eY,T,r,d⟩:=h.drew.step j u (by rw[OL];omega);clear t u h j;go_wp2_with fail;have t:=PY f.toS;clear f
 go_region_held3 (λw'=>w'.cell? ⟨w.heap.size,0,none⟩=some (.int .i64 k)/\w'.cell? ⟨w.heap.size,1,none⟩=some (.int .i64 l)/\w'.cell? ⟨w.heap.size,2,none⟩=some (.int .i64 m)/\w'.cell? ⟨w.heap.size,3,none⟩=some (.string p)/\PI w w' (.int .i64 k) (.int .i64 l) (.int .i64 m) (.string p))
  (first|assumption|exact(PI.ofS t.l).drew.toS|exact(PI.wrote (PI.ofS (by assumption)) (by assumption)).toS)
  (first|(go_at_call 178;refine(cn (w.heap.size+1+1) (n+3) 4 (M-3) m _ ω ω ω (λi b=>⟨_,d.drew.cell (n+3+i) (by rw[r];omega)⟩) (λi b=>d.drew.froz (n+3+i) (by rw[r];omega))).A ?_;rintro e wd ⟨rfl,u⟩))
 have j:PI w wd (.int .i64 k) (.int .i64 l) (.int .i64 m) (.string p):=PI.ofS (by assumption);obtain⟨eZ,U,h,f⟩:=d.drew.step r u (by rw[OL];omega);clear t u d r;go_wp2_with fail;have r:=PY j.toS;clear j
 go_region_held3 (λw'=>w'.cell? ⟨w.heap.size,0,none⟩=some (.int .i64 k)/\w'.cell? ⟨w.heap.size,1,none⟩=some (.int .i64 l)/\w'.cell? ⟨w.heap.size,2,none⟩=some (.int .i64 m)/\w'.cell? ⟨w.heap.size,3,none⟩=some (.string p)/\PI w w' (.int .i64 k) (.int .i64 l) (.int .i64 m) (.string p))
  (first|assumption|exact(PI.ofS r.l).drew.toS|exact(PI.wrote (PI.ofS (by assumption)) (by assumption)).toS)
  (first|(go_at_call 178;refine(cn (w.heap.size+1+1) (n+7) 1 (M-7) (p.size:Int) _ ω ω ω (λi b=>⟨_,f.drew.cell (n+7+i) (by rw[h];omega)⟩) (λi b=>f.drew.froz (n+7+i) (by rw[h];omega))).A ?_;rintro e L ⟨rfl,t⟩))
 have j:PI w L (.int .i64 k) (.int .i64 l) (.int .i64 m) (.string p):=PI.ofS (by assumption);obtain⟨fA,X,d,b⟩:=f.drew.step h t (by rw[OL];omega);clear r t f h;go_wp2_with fail;have dR:¬(M=8):=ω
 have dM:p.size<=M-8:=by have:=q.l;omega
 have i:=PY (b.drew.copied (n+8) p (by rw[d];omega));have r:=PY (b.drew.isSome (n+8) p.size (by rw[d];omega));have x:=PY (b.drew.frozen (n+8) p.size (by rw[d];omega));have h:=PY j.toS;clear j
 go_region_held3 (λw'=>w'.cell? ⟨w.heap.size,0,none⟩=some (.int .i64 k)/\w'.cell? ⟨w.heap.size,1,none⟩=some (.int .i64 l)/\w'.cell? ⟨w.heap.size,2,none⟩=some (.int .i64 m)/\w'.cell? ⟨w.heap.size,3,none⟩=some (.string p)/\PI w w' (.int .i64 k) (.int .i64 l) (.int .i64 m) (.string p))
  (first|assumption|exact(PI.ofS h.l).drew.toS|exact(PI.wrote (PI.ofS h.l).drew i.l).toS)
  (first|(refine step_copy_string ρ _ _ _ _ ρ 5 underlying22 (λ_=>κ) (w.heap.size+1+1) (n+8) (M-8) (M-8) ρ p ρ dM r.l x.l ?_))
 have f:=PI.wrote (PI.ofS h.l).drew i.l;obtain⟨t,cZ,aA,u⟩:=b.drew.step d i.l (by rw[ME];omega);clear h i r x b d;obtain⟨y,b⟩:∃y,y=L.drew.setCells (w.heap.size+1+1) (n+8) (List.map (λx=>Value.int IntKind.u8 (x.toNat:Int)) p.data.toList):=⟨_,rfl⟩;rw[<-b]at u f⊢;clear b;go_wp2_with fail
 have eP:=λc=>rj (P:=prog) (t:=142) underlying142 (λ_=>κ) (w.heap.size+1+1) 0 n ω ω .i64 (n:Int) rfl c
 obtain⟨b,z⟩:∃b,Hid (b=strOfNums ((t.drop n).take M)):=⟨_,PY rfl⟩;have dL:b.size=M:=by rw[z.l,BU,BF,BV,aA];have:=q.l;omega
 have hF:w.heap.size+1+1<y.drew.heap.size:=by have:=f.size;show _<y.heap.size;omega
 have A:∀(c:World) (xs:List Int),xs.length=64->(xs.drop n).take M=(t.drop n).take M->Fm c (w.heap.size+1+1) xs->PI w c (.int .i64 k) (.int .i64 l) (.int .i64 m) (.string p) ->
   (convert 22 9 (.slice (some ⟨w.heap.size+1+1,n,none⟩) M M)).run prog c=.ok (.string b) c/\c.there (w.heap.size+1+1) 0 64/\PI w c (.int .i64 k) (.int .i64 l) (.int .i64 m) (.string p):=λc xs h i d I=>by
  refine⟨?_,λj h=>⟨?_,?_⟩,I⟩
  ·rw[d.text 22 5 9 underlying22 underlying5 underlying9 n M M (by have:=q.l;omega),i,z.l]
  ·exact d.isSome 0 64 ω j h
  exact d.frozen 0 64 ω j h
 have r:=PY A;have d:=PY u;have i:=PY f;clear A u f;have f:(UH b n).size=n:=ia _ _
 go_region_held3 (λw'=>(convert 22 9 (.slice (some ⟨w.heap.size+1+1,n,none⟩) M M)).run prog w'=.ok (.string b) w'/\w'.there (w.heap.size+1+1) 0 64/\PI w w' (.int .i64 k) (.int .i64 l) (.int .i64 m) (.string p))
  (first|assumption|exact r.l _ t aA rfl d.l.drew i.l.drew|exact r.l _ t aA rfl (d.l.drew.z aB hF) (i.l.drew.z aB)|exact r.l _ _ (by rw[jh _ _ _ (by rw[ME,f];omega)];exact aA) (by rw[Fl _ _ n (by rw[ME,f])]) ((d.l.drew.z aB hF).wrote ((d.l.drew.z aB hF).copied 0 (UH b n) (by rw[f];omega)) (by rw[ME,f];omega)) (PI.wrote (i.l.drew.z aB) ((d.l.drew.z aB hF).copied 0 (UH b n) (by rw[f];omega))))
  (first|(go_at_call 179;refine(Hu b _ n (by rw[dL];omega) ω ω).A ?_;rintro e A ⟨rfl,aB⟩)|(refine step_copy_string ρ _ _ _ _ ρ 5 underlying22 (λ_=>κ) (w.heap.size+1+1) 0 n 64 ρ (UH b n) ρ (by rw[f];omega) (λj h=>((r.l _ t aA rfl (d.l.drew.z aB hF) (i.l.drew.z aB)).2.1 j (by rw[f]at h;omega)).1) (λj h=>((r.l _ t aA rfl (d.l.drew.z aB hF) (i.l.drew.z aB)).2.1 j (by rw[f]at h;omega)).2) ?_))
 have A:=(d.l.drew.z aB hF).copied 0 (UH b n) (by rw[f];omega);have u:=PI.wrote (i.l.drew.z aB) A;obtain⟨h,dH,j,B⟩:=(d.l.drew.z aB hF).step aA A (by rw[ME,f];omega)
 have O:Hid (h=KU (RJ k l m p n)):=by
  have h5:=wK k l m p n ω C.l S.l T.l U.l X.l cZ.l;show h=_;rw[dH.l,(yL k l m p n ω q.l h5 z.l).2]
 clear A d i r aB hF;obtain⟨i,d⟩:∃i,i=A.setCells (w.heap.size+1+1) 0 (List.map (λx=>Value.int IntKind.u8 (x.toNat:Int)) (UH b n).data.toList):=⟨_,rfl⟩;rw[<-d]at B u⊢;clear d;have d:(h.map (Value.int .u8)).toArray.size=64:=by simp[j]
 go_wp2_with (first
  | (refine AS rfl 142 _ rfl (w.heap.size+1+1) 0 rfl (h.map (Value.int .u8)) _ B.range underlying142 rfl (by rw[BP,j];kernel_rfl) ?_)
  | (refine BI rfl 142 _ _ rfl (w.heap.size+1) 0 (h.map (Value.int .u8)).toArray rfl rfl (by rw[d];exact u.there) (by rw[d];kernel_rfl) (GA (VR h)) ?_))
 refine AI (v:=.agg (h.map (Value.int .u8)).toArray) (vI (p:=4) results153 _ _ (w.heap.size+1) 0 rfl (h.map (Value.int .u8)) _ (DY _ _ _ _ (by rw[BP,j];exact u.there)) underlying142 rfl (by rw[BP,j];kernel_rfl)) rfl ⟨by rw[O.l],?_⟩;exact below_setCells ω _ _ _ u.bel
def LS(k l m:Int)(p:ByteArray)(n:Int):ByteArray:=if MN k l m p n=true then RJ k l m p n.toNat else empty
theorem bw(k l m:Int)(p:ByteArray)(n:Int)(w:World)(c:p.size<=1048576):Calls prog 68 #[NK k l m p,.int .i64 n] w λe w'=>e=.returned (.string (LS k l m p n))/\Below w.heap.size w w':=by
 unfold LS
 cases h:MN k l m p n with
 | true =>
  have b:=AU (by unfold MN at h;exact h);have d:1<=n:=b.1;obtain⟨j,rfl⟩:∃j:Nat,n=(j:Int):=⟨n.toNat,ω⟩;rw[AF rfl,BM];exact Ej k l m p j w h
 | false=>rw[AG σ];exact B6 k l m p n w c h
def TM(s:ByteArray)(l f:Int)(n m N i:Nat):ByteArray:=LS (if i+1=N then 2 else 1) l (f+(i:Int)) (s.extract (i*m) (i*m+m)) (n:Int)
def qz(l f:Int)(N:Nat):Bool:=decide (1<=l/\l<=60000/\1<=f/\f+(N:Int)<=1000000001)
def PG(s:ByteArray)(l f:Int)(n m N k:Nat):List ByteArray:=(List.range k).map (TM s l f n m N)
theorem sm(s:ByteArray)(l f:Int)(n m N k:Nat):PG s l f n m N (k+1)=PG s l f n m N k++[TM s l f n m N k]:=by simp[PG,FA]
theorem WX(s:ByteArray)(l f:Int)(n m N k:Nat):(PG s l f n m N k).length=k:=by simp[PG]
def NV(s:ByteArray)(l f:Int)(n m:Nat):List ByteArray:=if qz l f (NA s.size m)=true then PG s l f n m (NA s.size m) (NA s.size m) else []
theorem oB(l m:Nat):NA l m<=l+1:=by
 unfold NA
 split
 ·omega
 have:=KJ (l-1) m;omega
theorem uj(l m:Nat):0<NA l m:=by
 unfold NA
 split
 ·omega
 exact Nat.succ_pos _
theorem Ae(l m k:Nat)(d:0<m)(b:k<NA l m):l<=(k+1)*m<->k+1=NA l m:=by
 unfold NA at b⊢
 by_cases c:l=0
 ·rw[AF c]at b⊢
  omega
 rw[AG c]at b⊢
 constructor
 ·intro h
  have:(l-1) / m<k+1:=(KL d).2 ω;omega
 intro h
 have f:(l-1) / m<k+1:=ω
 have:=(KL d).1 f;omega
theorem Dp(s:ByteArray)(a m:Nat):(s.extract a (a+m)).size<=m:=by simp only[AK];omega
theorem YG{l f:Int}{m:Nat}(b:N=NA s.size m)(h:1<=l/\l<=60000/\1<=f/\f+(N:Int)<=1000000001):NV s l f n m=PG s l f n m N N:=by
 unfold NV qz;rw[<-b,AF (by simpa using h)]
theorem ZM{l f:Int}{m:Nat}(b:N=NA s.size m)(h:¬(1<=l/\l<=60000/\1<=f/\f+(N:Int)<=1000000001)):NV s l f n m=[]:=by
 unfold NV qz;rw[<-b,AG (by simpa using h)]
def pu(w w':World)(e:Ending)(ss:List ByteArray):Prop:=∃a c,e=.returned (.slice a ss.length c)/\OwnS w' a (ss.map Value.string)/\(∀g,blk a ss.length=some g->w.heap.size<=g)/\Below w.heap.size w w'
theorem gu{a:Option Addr}{c:Nat}(hv:v=.slice a 0 c)(b:Below w.heap.size w w'):pu w w' (.returned v) []:=⟨a,c,by rw[hv];rfl,.inl rfl,λg h=>(by cases h),b⟩
theorem nV{k:Nat}(h:w'.ownsRow w.heap.size e 1 v k (ss.map Value.string))(l:k=ss.length)(i:Below w.heap.size w w'):pu w w' (.returned v) ss:=by
 rcases MO h with ⟨c,f⟩|⟨g,b,c,f,_,j⟩
 ·have:ss=[]:=AB ω
  subst this;exact gu c i
 subst l
 refine⟨_,b,by rw[c],.inr ⟨g,rfl,j⟩,λm aA=>?_,i⟩
 by_cases d:ss.length=0
 ·rw[d]at aA;cases aA
 rw[MS g 0 _ d]at aA;cases aA;exact f
set_option maxRecDepth 4000 in
theorem uG(s:ByteArray)(l f:Int)(n m:Nat)(w:World)(hs:s.size<=1048576)(hm:n+m=56)(h1:1<=n)(h2:n<=8):Calls prog 24 #[.string s,.int .i64 l,.int .i64 f,.int .i64 (n:Int)] w λe w'=>pu w w' e (NV s l f n m):=by
 have T:decide (1<=(n:Int)/\(n:Int)<=8)=true:=τ
 have S:∀o,Below w.heap.size w (w.alloc o):=λo=>KW _ _
 obtain⟨N,j⟩:∃N,Hid (N=NA s.size m):=⟨_,Z rfl⟩;have bY:N<=1048577:=by have:=oB s.size m;rw[j.l];omega
 have bW:0<N:=by rw[j.l];exact uj _ _
 obtain⟨R,q⟩:∃R,Hid (R=NV s l f n m):=⟨_,Z rfl⟩;rw[<-q.l]
 by_cases cA:1<=l
 focus
  by_cases cC:l<=60000
  focus
   by_cases cE:1<=f
   focus
    by_cases cF:f<=1000000000
    ·by_cases bZ:(N:Int)<=1000000000-f+1
     ·have t:Hid (R=PG s l f n m N N):=by show _=_;rw[q.l];exact YG j.l ω
      clear q;obtain⟨i0,b,c,d,h⟩:=info_parts sq;have HI:=Z (AH b (AH c (AH d h)));clear b c d h;go_enter func24,ntmps24
      go_wp2_with (first|(go_at_call 37;refine(QO _ _).A ?_;rw[T];rintro e x ⟨rfl,rfl⟩)|(go_at_call 67;refine(ut s n m _ hs hm h1 h2).A ?_;rw[<-j.l];rintro e x ⟨g,c,rfl,hg,aB,b⟩;have aQ:=Z aB;clear aB))
      simp only[BB]at hg;have bJ:Below w.heap.size w x:=(S _).j (b.A σ);have aM:x.ownsRow w.heap.size 9 1 (.slice (some ⟨w.heap.size,0,none⟩) 0 0) 0 []:=LR (CJ w #[] 0 (Y _) σ σ) b;clear b;go_loopw [9,11,12] (λy i _ wr=>∃k:Nat,k<=N/\i=.int .i64 k/\wr.ownsRow w.heap.size 9 1 y k ((PG s l f n m N k).map Value.string)/\y.ownBlock≠some g/\Row wr g ((YT s m N).map Value.string)/\Below w.heap.size w wr) (λ_ i _ _=>N-(intOf i).toNat)
      case atStart =>
       exact⟨0,AO _,rfl,aM,by simp[Value.ownBlock];omega,aQ.l,bJ⟩
      case round =>
       obtain⟨k,hk,rfl,G,aX,aB,D⟩:=hrel
       by_cases bT:k<N
       ·have hc:=aB.cell k (.string (s.extract (k*m) (k*m+m))) (by simp[YT,bT])
        obtain⟨p,I⟩:∃p,Hid (p=s.extract (k*m) (k*m+m)):=⟨_,Z rfl⟩;rw[<-I.l]at hc;have aY:p.size<=1048576:=by rw[I.l];have:=Dp s (k*m) m;omega
        have bV:w.heap.size<=wr.heap.size:=D.size;have bQ:=aB.lt;have HB:=Z D;have bI:=Z aB;have L:=Z G;clear D aB G;obtain⟨F,X⟩:∃F,Hid (F=TM s l f n m N k):=⟨_,Z rfl⟩;obtain⟨U,B⟩:∃U:Int,U=if k+1=N then 2 else 1:=⟨_,rfl⟩;have aT:Hid (LS U l (f+(k:Int)) p (n:Int)=F):=by show _=_;rw[X.l,I.l,B];rfl
        have y:∀(d:World),Below wr.heap.size wr d->∀(r:World) (i b:Nat),r.ownsRow w.heap.size 9 1 (.slice (some ⟨i,0,none⟩) (k+1) b) (k+1) ((PG s l f n m N k).map Value.string++[.string F])->(d.alloc (.cells #[.string F] 9)).grownBy r u9.ownBlock->(u9.ownBlock=some i\/i=d.heap.size+1)->(∃u:Nat,u<=N/\Value.int .i64 ((k:Int)+1)=.int .i64 u/\r.ownsRow w.heap.size 9 1 (.slice (some ⟨i,0,none⟩) (k+1) b) u ((PG s l f n m N u).map Value.string)/\(Value.slice (some ⟨i,0,none⟩) (k+1) b).ownBlock≠some g/\Row r g ((YT s m N).map Value.string)/\Below w.heap.size w r):=λd h r i b A z H=>by
         have aZ:=h.size;refine⟨k+1,ω,ν,?_,?_,?_,?_⟩
         ·rw[sm,CY,<-X.l];exact A
         ·rcases H with H|H
          ·intro u;exact aX (H.j (by simpa[Value.ownBlock] using u))
          simp[Value.ownBlock];omega
         ·exact((bI.l.z h).alloc _).I z (λu=>aX u.symm)
         exact gh ((HB.l.j (h.A bV)).alloc ω _) ((LR L.l h).alloc _) z τ
        have aJ:=Z y;clear y
        by_cases A:k+1=N
        ·have hq:((k:Int) == (N:Int)-1)=true:=τ
         rw[AF A]at B;subst B;clear A
         go_wp2_with (first|(go_at_call 68;refine(bw 2 l (f+(k:Int)) p (n:Int) _ aY).A ?_;rw[aT.l];rintro e d ⟨rfl,h⟩;have aZ:=h.size;have O:=Z ((LR L.l h).alloc (.cells #[.string F] 9)))|(at_builtin;refine QN _ rfl _ _ 23 rfl w.heap.size underlying23 HI.l rfl ω _ k _ rfl O.l ⟨d.heap.size,0,none⟩ 1 1 [.string F] rfl rfl (World.news_of_block (AW d _)) (by intro u C;simp at C;subst C;rfl) τ (d.heap.size+1) σ ?_;intro i b r y aA z aS;have M:=Z (aJ.l d h r i b y aA z);clear y aA z))
         exact⟨M.l,by simp[intOf];omega⟩
        have hq:((k:Int) == (N:Int)-1)=false:=τ
        rw[AG A]at B;subst B
        go_wp2_with (first|(go_at_call 68;refine(bw 1 l (f+(k:Int)) p (n:Int) _ aY).A ?_;rw[aT.l];rintro e d ⟨rfl,h⟩;have aZ:=h.size;have O:=Z ((LR L.l h).alloc (.cells #[.string F] 9)))|(at_builtin;refine QN _ rfl _ _ 23 rfl w.heap.size underlying23 HI.l rfl ω _ k _ rfl O.l ⟨d.heap.size,0,none⟩ 1 1 [.string F] rfl rfl (World.news_of_block (AW d _)) (by intro u C;simp at C;subst C;rfl) τ (d.heap.size+1) σ ?_;intro i b r y aA z aS;have M:=Z (aJ.l d h r i b y aA z);clear y aA z))
        exact⟨M.l,by simp[intOf];omega⟩
       have A:k=N:=ω
       subst A;have b:=Z G;clear G aB;go_wp2;go_ret;rw[t.l];exact nV b.l (WX _ _ _ _ _ _ _).symm D
     have t:Hid (R=[]):=by show _=_;rw[q.l];exact ZM j.l ω
     clear q;go_enter func24,ntmps24
     go_wp2_with (first|(go_at_call 37;refine(QO _ _).A ?_;rw[T];rintro e x ⟨rfl,rfl⟩)|(go_at_call 67;refine(ut s n m _ hs hm h1 h2).A ?_;rw[<-j.l];rintro e x ⟨g,c,rfl,hg,aB,b⟩;clear aB))
     go_ret;rw[t.l];exact gu rfl ((S _).j (b.A σ))
    focus
     have t:Hid (R=[]):=by show _=_;rw[q.l];exact ZM j.l ω
    rotate_left
   rotate_left
   focus
    have t:Hid (R=[]):=by show _=_;rw[q.l];exact ZM j.l ω
   rotate_left
  rotate_left 2
  focus
   have t:Hid (R=[]):=by show _=_;rw[q.l];exact ZM j.l ω
  rotate_left
 rotate_left 3
 focus
  have t:Hid (R=[]):=by show _=_;rw[q.l];exact ZM j.l ω
 rotate_left
 all_goals
  clear q;go_enter func24,ntmps24
  go_wp2_with (first|(go_at_call 37;refine(QO _ _).A ?_;rw[T];rintro e x ⟨rfl,rfl⟩))
  go_ret;rw[t.l];exact gu rfl (S _)
theorem yS(k l m:Int)(p:ByteArray)(n:Int)(w:World)(b:p.size<=1048576)(aB:MN k l m p n=false):Calls prog 116 #[NK k l m p,.int .i64 n] w λe w'=>e=.returned (.string empty)/\Below w.heap.size w w':=by
 go_enter func116,ntmps116;go_wp2_with (go_at_call 152;refine(la k l m p n _ b).A ?_;rw[aB];rintro e c ⟨rfl,aA⟩);go_ret;exact⟨rfl,(KW _ _).j (aA.A σ)⟩
set_option maxRecDepth 4000 in
theorem yM(k l m:Int)(p:ByteArray)(n:Nat)(w:World)(aA:MN k l m p n=true):Calls prog 116 #[NK k l m p,.int .i64 (n:Int)] w λe w'=>e=.returned (.string (RJ k l m p n))/\Below w.heap.size w w':=by
 have h:=AU (by unfold MN at aA;exact aA);obtain⟨A,B,r,t,u,x,y,z,C,_⟩:=h;go_enter func116,ntmps116;go_wp2_with (go_at_call 152;refine(la k l m p n _ ω).A ?_;rw[aA];rintro e D ⟨rfl,b⟩;obtain⟨q,c,d,f,i,aB⟩:=dj (W:=w) (v0:=.int .i64 k) (v1:=.int .i64 l) (v2:=.int .i64 m) (v3:=.string p) b ⟨σ,σ,σ,σ,σ,KW _ _⟩;clear b);refine(oH k l m p n _ aA).A ?_;rintro e G ⟨rfl,b⟩;clear q c d f i;have d:=aB.j (b.A aB.size);clear aB b;obtain⟨xs,b⟩:∃xs,Hid (xs=KU (RJ k l m p n)):=⟨_,PY rfl⟩;have c:xs.length=64:=by rw[b.l,ME];exact aa k l m p n ω
 have q:(xs.map (Value.int .u8)).toArray.size=64:=by simp[c]
 rw[<-b.l];go_wp2_with (refine tr rfl 142 _ _ rfl xs rfl rfl _ _ (.int .u8 0) (by rw[c];rfl) (by rw[c];kernel_rfl) ?_;intro H f i _;have j:=f.text (P:=prog) 22 5 9 underlying22 underlying5 underlying9 0 64 64 ω;rw[FJ,AV ω]at j;clear f);go_ret;refine⟨qt ?_,d.j (i.A d.size)⟩;rw[b.l,TI]
theorem fk(k l m:Int)(p:ByteArray)(n:Int)(w:World)(c:p.size<=1048576):Calls prog 116 #[NK k l m p,.int .i64 n] w λe w'=>e=.returned (.string (LS k l m p n))/\Below w.heap.size w w':=by
 unfold LS
 cases h:MN k l m p n with
 | true =>
  have b:=AU (by unfold MN at h;exact h);have d:1<=n:=b.1;obtain⟨j,rfl⟩:∃j:Nat,n=(j:Int):=⟨n.toNat,ω⟩;rw[AF rfl,BM];exact yM k l m p j w h
 | false=>rw[AG σ];exact yS k l m p n w c h
@[reducible] def NI(t h f l:Int):Value:=.agg #[.int .i64 t,.int .i64 h,.int .i64 f,.int .i64 l]
abbrev TJ(h f:Int):Prop:=0<=h/\h<=1/\1<=f/\f<=999999000
def RQ(h f:Int):ByteArray:=strOfNums (be 1 h)++strOfNums (be 4 f)
def MB(t h f l n:Int):ByteArray:=if TJ h f then LS 4 l t (RQ h f) n else empty
theorem vh(h:Int)(w:World):Calls prog 110 #[.int .i64 h] w λe w'=>e=.returned (.bool (decide (0<=h/\h<=1)))/\w'=w:=by
 have d:decide (0<=h/\h<=1)=(decide (h=0) || decide (h=1)):=by rw[IQ];simp;omega
 rw[d];go_enter func110,ntmps110
 by_cases b:h=0
 ·subst b;go_wp2;go_ret;exact⟨rfl,rfl⟩
 by_cases c:h=1
 ·subst c;go_wp2;go_ret;exact⟨rfl,rfl⟩
 go_wp2;go_ret;simp[b,c]
theorem m8(f:Int)(w:World):Calls prog 111 #[.int .i64 f] w λe w'=>e=.returned (.bool (decide (1<=f/\f<=999999000)))/\w'=w:=by
 go_enter func111,ntmps111
 by_cases b:1<=f<;>by_cases c:f<=999999000<;>(go_wp2;go_ret;simp[b,c])
theorem Dc(t h f l n:Int)(w:World)(aA:¬TJ h f):Calls prog 191 #[NI t h f l,.int .i64 n] w λe w'=>e=.returned (.string empty)/\Below w.heap.size w w':=by
 have aB:∀o,Below w.heap.size w (w.alloc o):=λo=>KW _ _
 unfold TJ at aA;go_enter func191,ntmps191
 by_cases b:0<=h<;>by_cases c:h<=1<;>by_cases d:1<=f<;>by_cases i:f<=999999000<;>first|(exfalso;omega)|(clear aA;go_wp2;go_ret;exact⟨rfl,aB _⟩)
theorem I7(t h f l n:Int)(w:World)(q:TJ h f):Calls prog 191 #[NI t h f l,.int .i64 n] w λe w'=>e=.returned (.string (LS 4 l t (RQ h f) n))/\Below w.heap.size w w':=by
 obtain⟨z,C,D,G⟩:=q;obtain⟨A,c⟩:∃A,strOfNums (be 1 h)=A:=⟨_,rfl⟩;obtain⟨B,d⟩:∃B,strOfNums (be 4 f)=B:=⟨_,rfl⟩;have M:A.size=1:=by rw[<-c,BU,OL]
 have O:B.size=4:=by rw[<-d,BU,OL]
 have k:Hid (RQ h f=A++B):=by show _=_;unfold RQ;rw[c,d]
 have aA:=λi=>ey h 1 1 rfl i ω ω ω
 have aB:=λi=>ey f 4 4 rfl i ω ω ω
 simp only[c]at aA;simp only[d]at aB;rw[k.l];have r:(A++B).size<=1048576:=by simp only[BK];omega
 go_enter func191,ntmps191;go_wp2_with fail;have j:w.heap.size<(w.alloc (.cells #[.int .i64 t,.int .i64 h,.int .i64 f,.int .i64 l] 28)).heap.size/\(w.alloc (.cells #[.int .i64 t,.int .i64 h,.int .i64 f,.int .i64 l] 28)).cell? ⟨w.heap.size,0,none⟩=some (.int .i64 t)/\(w.alloc (.cells #[.int .i64 t,.int .i64 h,.int .i64 f,.int .i64 l] 28)).cell? ⟨w.heap.size,1,none⟩=some (.int .i64 h)/\(w.alloc (.cells #[.int .i64 t,.int .i64 h,.int .i64 f,.int .i64 l] 28)).cell? ⟨w.heap.size,2,none⟩=some (.int .i64 f)/\(w.alloc (.cells #[.int .i64 t,.int .i64 h,.int .i64 f,.int .i64 l] 28)).cell? ⟨w.heap.size,3,none⟩=some (.int .i64 l)/\Below w.heap.size w (w.alloc (.cells #[.int .i64 t,.int .i64 h,.int .i64 f,.int .i64 l] 28)):=⟨σ,σ,σ,σ,σ,KW _ _⟩;have m:=PY j;clear j
 go_region_held3 (λw'=>w.heap.size<w'.heap.size/\w'.cell? ⟨w.heap.size,0,none⟩=some (.int .i64 t)/\w'.cell? ⟨w.heap.size,1,none⟩=some (.int .i64 h)/\w'.cell? ⟨w.heap.size,2,none⟩=some (.int .i64 f)/\w'.cell? ⟨w.heap.size,3,none⟩=some (.int .i64 l)/\Below w.heap.size w w')
  (first|assumption|exact dj (below_drewN (AC _ _) 1) m.l|exact dj (by assumption) (by assumption))
  (first|(go_at_call_of 108 h;refine(aA _).A ?_;rintro e H ⟨rfl,u⟩)|(go_at_call_of 108 f;refine(aB _).A ?_;rintro e I ⟨rfl,x⟩)|(go_at_call 68;refine(bw 4 l t (A++B) n _ r).A ?_;rintro e L ⟨rfl,y⟩))
 rename_i b;have p:=b.2.2.2.2.2;clear b;go_wp2;go_ret;exact⟨rfl,p⟩
theorem rQ(t h f l n:Int)(w:World):Calls prog 191 #[NI t h f l,.int .i64 n] w λe w'=>e=.returned (.string (MB t h f l n))/\Below w.heap.size w w':=by
 unfold MB
 by_cases aA:TJ h f
 ·rw[AF aA];exact I7 t h f l n w aA
 rw[AG aA];exact Dc t h f l n w aA
section
structure B4(w:World)(B:Nat)(v0 v1 v2 v3:Value):Prop where
 lt:B<w.heap.size
 c0:w.cell? ⟨B,0,none⟩=some v0
 c1:w.cell? ⟨B,1,none⟩=some v1
 c2:w.cell? ⟨B,2,none⟩=some v2
 c3:w.cell? ⟨B,3,none⟩=some v3
 f0:w.frozen? ⟨B,0,none⟩=false
 f1:w.frozen? ⟨B,1,none⟩=false
 f2:w.frozen? ⟨B,2,none⟩=false
 f3:w.frozen? ⟨B,3,none⟩=false
section
variable {w w':World} {B:Nat} {v0 v1 v2 v3:Value}
theorem B4.past(h:B4 w B v0 v1 v2 v3)(f:B<N)(d:Below N w w'):B4 w' B v0 v1 v2 v3:=by
 have b:∀i,w'.cell? ⟨B,i,none⟩=w.cell? ⟨B,i,none⟩:=λi=>d.cell (p:=⟨B,i,none⟩) f
 have c:∀i,w'.frozen? ⟨B,i,none⟩=w.frozen? ⟨B,i,none⟩:=λi=>d.frozen (p:=⟨B,i,none⟩) f
 exact⟨AD h.lt d.size,(b _).j h.c0,(b _).j h.c1,(b _).j h.c2,(b _).j h.c3,(c _).j h.f0,(c _).j h.f1,(c _).j h.f2,(c _).j h.f3⟩
theorem B4.z(h:B4 w B v0 v1 v2 v3)(b:Below w.heap.size w w'):B4 w' B v0 v1 v2 v3:=h.past h.lt b
theorem B4.drew(h:B4 w B v0 v1 v2 v3):B4 w.drew B v0 v1 v2 v3:=⟨h.lt,h.c0,h.c1,h.c2,h.c3,h.f0,h.f1,h.f2,h.f3⟩
theorem B4.alloc(h:B4 w B v0 v1 v2 v3)(o:Obj):B4 (w.alloc o) B v0 v1 v2 v3:=h.z (KW _ _)
theorem B4.new(w:World)(v0 v1 v2 v3:Value)(t:TypeId):B4 (w.alloc (.cells #[v0,v1,v2,v3] t)) w.heap.size v0 v1 v2 v3:=by
 refine⟨σ,?_,?_,?_,?_,?_,?_,?_,?_⟩<;>first|(simp;done)|(rw[DK];exact XT _ _ _ (Y _))
end
section
variable {W w w':World} {R B:Nat} {v0 v1 v2 v3 u0 u1 u2 u3:Value}
end
end
theorem xL(z:Value)(d:z.cells=#[z])(n:Nat):(madeCells z.cells (n*1)).toList=List.replicate n z:=by
 unfold madeCells;rw[KE,Array.toList_map,Array.toList_range,KK];refine⟨σ,λb c=>?_⟩;obtain⟨i,_,rfl⟩:=DL.1 c;rw[d];have:i % (#[z]:Array Value).size=0:=by simp[Nat.mod_one]
 rw[this];rfl
theorem Dsk.start(w:World)(d f e h:TypeId):Dsk w ((w.alloc (.cells #[.slice none 0 0,.slice none 0 0] d)).alloc (.cells #[.slice none 0 0,.slice none 0 0] f)) w.heap.size (w.heap.size+1) (w.heap.size+1+1) e h (.slice none 0 0) (.slice none 0 0) [] []:=by
 have i:Below w.heap.size w ((w.alloc (.cells #[.slice none 0 0,.slice none 0 0] d)).alloc (.cells #[.slice none 0 0,.slice none 0 0] f)):=(KW _ _).alloc σ _;have c:=(LU w #[.slice none 0 0,.slice none 0 0] d).alloc (.cells #[.slice none 0 0,.slice none 0 0] f);have b:=LU (w.alloc (.cells #[.slice none 0 0,.slice none 0 0] d)) #[.slice none 0 0,.slice none 0 0] f;simp only[BB]at b;exact⟨Y _,ω,ω,ω,ω,σ,i,c.y 0,c.y 1,c.E 0,c.E 1,b.y 0,b.y 1,b.E 0,b.E 1,CE _ _ _ _,CE _ _ _ _,.inl rfl⟩
theorem XI{z:Value}{b aA:Nat}(h:(P.info? e).map (λi=>(i.zero,i.size,i.bytes))=some (some z,b,aA)):∃i,P.info? e=some i/\i.zero=some z/\i.size=b/\i.bytes=aA:=by
 obtain⟨i,d,c⟩:=EM.1 h;simp only[EG]at c;exact⟨i,d,c⟩
theorem YY(b:TypeId)(x:Operand)(c:op.op=.load b x)(h:wpList P aB Q (op::aA) a w):wpList P aB Q (op::aA) a w:=h
theorem XC(b:TypeId)(x y:Operand)(c:op.op=.store b x y)(h:wpList P aB Q (op::aA) a w):wpList P aB Q (op::aA) a w:=h
theorem OI(w:World)(A:Array Value)(t:TypeId)(g:Nat)(b:g=w.heap.size):Row (w.alloc (.cells A t)) g A.toList:=by subst b;exact LU w A t
theorem H7(d x:Operand)(b:Array TypeId)(c:op.op=.call { callee:=.builtin .copy,args:=#[d,x],argTypes:=b })(h:wpList P aB Q (op::aA) a w):wpList P aB Q (op::aA) a w:=h
theorem yI{p:Array Oper}{m:List Oper}(u:o.guard=none)(d x:Operand)(l r:TypeId)
  (y:o.op=.call { callee:=.builtin .copy,args:=#[d,x],argTypes:=#[l,r] })(aB:TypeId)(G:P.underlying l=some (.slice aB))(I:∀w,(Go.sizeOf aB).run P w=.ok 1 w)
  (g n c:Nat)(A:a.eval d=.slice (some ⟨g,0,none⟩) n c)(t:ByteArray)(H:a.eval x=.string t)(M:t.size=n)(cs:List Value)(aA:Row w g cs)(L:cs.length=n)
  (h:∀b,Row b g ((KU t).map (Value.int .u8))->w.grownBy b (some g)->b.heap.size=w.heap.size->wpList P p Q m (a.put o.dst (goInt t.size)) b):wpList P p Q (o::m) a w:=by
 have q:∀j,j<t.size->(w.cell? ⟨g,0+j,none⟩).isSome=true:=λj f=>by
  rw[BH,aA.cell j _ (BQ ω)];rfl
 have B:∀j,j<t.size->w.frozen? ⟨g,0+j,none⟩=false:=λj f=>by rw[BH];exact aA.froz j ω
 have j:=run_copy_string (P:=P) w l r o.type aB g 0 n c t G I ω q B;have b:=rV w g 0 t q
 refine IN u λK z=>?_
 unfold Oper.wp;simp[execOp,y,resolve,invoke,builtin,A,H,j,Result.andThen];refine z _ _ (h _ ⟨by rw[b.size];exact aA.lt,λi v hv=>?_,λi C=>?_⟩ ⟨b.os,b.tape,b.output,Nat.le_of_eq b.size.symm,λk _ D=>b.others k (λe=>D (by rw[e]))⟩ b.size)
 ·obtain⟨f,e⟩:=CW.1 hv
  simp at f;have:=b.inside i (by simpa[ME] using f);rw[BH]at this;rw[this];simp at e;subst e;simp[List.getD,BQ f]
 rw[b.frozen];exact aA.froz i (by simp[ME]at C;omega)
theorem Row.range(h:Row w g cs):w.rangeAt g 0 cs:=λj v hv=>by rw[BH];exact h.cell j v hv
theorem Row.there(h:Row w g cs)(c:n=cs.length):w.there g 0 n:=λj b=>by
 rw[BH,h.cell j _ (BQ ω)];exact⟨rfl,h.froz j ω⟩
def lq:Array Value:=Array.replicate 64 (.int .u8 0)
set_option maxRecDepth 4000 in
theorem ig(t:ByteArray)(w:World)(c:t.size=64):Calls prog 92 #[.string t] w λe w'=>e=.returned (.agg ((KU t).map (Value.int .u8)).toArray)/\Below w.heap.size w w':=by
 have b:(KU t).length=64:=by rw[ME,c]
 have aA:Hid ((prog.info? 142).map (·.size)=some ((KU t).map (Value.int .u8)).length):=by show _=_;rw[BP,b];kernel_rfl
 have d:((KU t).map (Value.int .u8)).toArray.size=64:=by simp[b]
 have i:=Z c;clear c;go_enter func92,ntmps92
 go_wp2_with (first|(with_reducible refine H7 _ _ _ rfl ?_;refine yI rfl _ _ _ _ rfl 5 underlying22 (λ_=>κ) (w.heap.size+1) 64 64 rfl t rfl i.l _ (by exact OI _ _ _ _ σ) κ ?_;intro m j aB k;have f:=(((LU w _ _).alloc _).I aB σ);have h:=Z (((KW _ _).alloc σ _).j (MR aB τ (λg l=>by cases l;omega)));clear aB k)|(with_reducible refine YY 142 _ rfl ?_;refine AS rfl 142 _ rfl (w.heap.size+1) 0 rfl ((KU t).map (Value.int .u8)) _ j.range underlying142 rfl aA.l ?_)|(with_reducible refine XC 142 _ _ rfl ?_;refine BI rfl 142 _ _ rfl w.heap.size 0 ((KU t).map (Value.int .u8)).toArray rfl rfl (by rw[d];exact f.there κ) (by rw[d];kernel_rfl) (GA (VR (KU t))) ?_))
 refine AI (v:=.agg ((KU t).map (Value.int .u8)).toArray) (vI (p:=2) results92 _ _ w.heap.size 0 rfl ((KU t).map (Value.int .u8)) _ (DY _ _ _ _ (by rw[BP,b];exact f.there κ)) underlying142 rfl aA.l) rfl ⟨rfl,?_⟩;exact Go.below_setCells (Y _) _ _ _ h.l
section
structure DepF(w:World)(F:Nat->Prop)(P:World->Prop):Prop where
 q:P w
 keep:∀w',Below 0 w w'->(∀b,F b->b<w.heap.size->w'.heap[b]?=w.heap[b]?)->P w'
section
variable {w w':World} {F G:Nat->Prop} {P Q:World->Prop}
theorem DepF.step(h:DepF w F P)(c:Below 0 w w')(f:∀b,F b->b<w.heap.size->w'.heap[b]?=w.heap[b]?):DepF w' F P :=⟨h.keep w' c f,λl j k=>h.keep l (c.j (j.A (AO _))) (λb d i=>(k b d (AD i c.size)).j (f b d i))⟩
theorem DepF.z(h:DepF w F P)(c:Below w.heap.size w w'):DepF w' F P:=h.step (c.A (AO _)) (λb _ d=>c.block b d)
theorem DepF.I{r:Option Nat}(h:DepF w F P)(c:w.grownBy w' r)(i:∀g,r=some g->¬F g):DepF w' F P :=h.step (MR c (AO _) (λ_ _=>AO _)) (λb d f=>c.block b f (λe=>i b e.symm d))
theorem DepF.A(h:DepF w F P)(hF:∀b,b<w.heap.size->F b->G b):DepF w G P:=⟨h.q,λw' d f=>h.keep w' d (λb i c=>f b (hF b c i) c)⟩
theorem DepF.map(h:DepF w F P)(f:∀W,P W->Q W):DepF w F Q:=⟨f _ h.q,λw' b c=>f _ (h.keep w' b c)⟩
theorem DepF.and(h:DepF w F P)(k:DepF w F Q):DepF w F (λW=>P W/\Q W):=⟨⟨h.q,k.q⟩,λw' b c=>⟨h.keep w' b c,k.keep w' b c⟩⟩
theorem nG(h:P w)(i:∀w',Below w.heap.size w w'->P w'):DepF w (λb=>b<w.heap.size) P :=⟨h,λw' c f=>i w' ⟨c.os,c.tape,c.output,c.size,λb d=>f b d d⟩⟩
theorem QK{f d:Nat}(h:Dep w f d P)(hF:∀b,f<=b->b<d->F b):DepF w F P :=⟨h.q,λw' i j=>h.keep w' (λb k c=>j b (hF b k c) (AD c h.top)) (AL h.top i.size)⟩
theorem SK(h:∀W,P W):DepF w F P:=⟨h _,λw' _ _=>h _⟩
end
theorem OQ(w:World)(b o:Nat)(c:List Value):w.grownBy (w.setCells b o c) (some b) :=⟨(YN b c o w).1,(YN b c o w).2.1,(YN b c o w).2.2,Nat.le_of_eq (VJ b c o w).symm,λi f d=>jl b c o w i (λe=>d (BY some e))⟩
theorem Row.sets(h:Row w g cs)(b:List Value)(f:b.length=cs.length):Row (w.setCells g 0 b) g b:=by
 have c:w.there g 0 b.length:=h.there f;have j:=DY w g 0 b c;have aA:=World.there_setCells c g 0 b;refine⟨by rw[VJ];exact h.lt,λi v hv=>?_,λi d=>?_⟩
 ·have:=j i v hv;rwa [BH]at this
 have:=(aA i d).2;rwa [BH]at this
theorem ic{b:Array Oper}(c:op.guard=none)(s:TypeId)(x:Operand)(f:Nat)(i:op.op=.fieldAddr s x f)(v:Value)(aB:(Instr.fieldAt s (a.eval x) f).run P w=.ok v w)(h:wpList P b Q aA (a.put op.dst v) w):wpList P b Q (op::aA) a w:=by
 refine IN c λK d=>?_
 unfold Oper.wp execOp;simp only[i,aB,GX,JD,IG];exact d _ _ h
section
variable {w:World} {g:Nat} {pre cs post:List Value}
theorem Row.rangeMid(h:Row w g (pre++cs++post)):w.rangeAt g pre.length cs:=λj v hv=>by
 have b:j<cs.length:=(CW.1 hv).1;exact h.cell (pre.length+j) v (by rw[BN,CX ω,BA ω,<-hv];congr 1;omega)
theorem Row.thereMid(h:Row w g (pre++cs++post))(c:n=cs.length):w.there g pre.length n:=λj b=>by
 subst c;exact⟨by rw[h.rangeMid j cs[j] (BQ b)];rfl,h.froz (pre.length+j) τ⟩
theorem Row.setsMid(h:Row w g (pre++cs++post))(b:List Value)(d:b.length=cs.length):Row (w.setCells g pre.length b) g (pre++b++post):=by
 have f:w.there g pre.length b.length:=h.thereMid d;refine⟨by rw[VJ];exact h.lt,λi v hv=>?_,λi c=>by rw[EO];exact h.froz i (by simp at c⊢;omega)⟩
 by_cases c:i<pre.length
 ·rw[DU g b _ w ⟨g,i,none⟩ (λ_ _=>.inl c)]
  refine h.cell i v ?_;rw[BN,BA c]at hv⊢;exact hv
 by_cases j:i<pre.length+b.length
 ·have:=DY w g pre.length b f (i-pre.length) v (by rw[BN,CX ω,BA ω]at hv;exact hv)
  rwa [show pre.length+(i-pre.length)=i by omega]at this
 rw[DU g b _ w ⟨g,i,none⟩ (λ_ _=>.inr (by show pre.length+b.length<=i;omega))]
 refine h.cell i v ?_;rw[BN,CX ω,CX ω]at hv⊢;rw[<-d];exact hv
end
theorem UY{v:World}{b:Nat->Prop}(h:Row v g cs)(f:b g):DepF v b (λW=>Row W g cs) :=⟨h,λw' c d=>VQ h (d g f h.lt) (AD h.lt c.size)⟩
theorem VP{R:Ending->World->Prop}(k:Nat)(c:TypeId)(j:fn.results=#[.cell k c])(b:Nat)(m:a.tmps.getD k undef=.pointer (some ⟨b,0,none⟩))(cs:List Value)(d:TypeDesc)(h:Row w b cs)(p:P.underlying c=some d)(aA:d.isRow=true)(l:(P.info? c).map (·.size)=some cs.length)(i:a.defers=[])(f:R (.returned (.agg cs.toArray)) w):bodyPost P fn R .ret a w:=by
 refine AI (v:=.agg cs.toArray) ?_ i f;have aB:a.tmps[k]?.getD undef=.pointer (some ⟨b,0,none⟩):=by simpa using m
 simp[results,j,aB,asAddr,IT w b 0 c cs d h.range p aA l]
theorem ib{R:Ending->World->Prop}(k t:Nat)(c:TypeId)(l:fn.results=#[.cell k c,.tmp t])(b:Nat)(p:a.tmps.getD k undef=.pointer (some ⟨b,0,none⟩))(u:Value)(q:a.tmps.getD t undef=u)(cs:List Value)(d:TypeDesc)(i:Row w b cs)(r:P.underlying c=some d)(aA:d.isRow=true)(m:(P.info? c).map (·.size)=some cs.length)(j:a.defers=[])(h:R (.returned (.tuple #[.agg cs.toArray,u])) w):bodyPost P fn R .ret a w:=by
 refine AI (v:=.tuple #[.agg cs.toArray,u]) ?_ j h;have aB:a.tmps[k]?.getD undef=.pointer (some ⟨b,0,none⟩):=by simpa using p
 have f:a.tmps[t]?.getD undef=u:=by simpa using q
 simp[results,l,aB,f,asAddr,IT w b 0 c cs d i.range r aA m]
theorem RK(c:TypeId)(x:Operand)(j:op.op=.load c x)(b o:Nat)(l:a.eval x=.pointer (some ⟨b,o,none⟩))(cs:List Value)(d:TypeDesc)(f:w.rangeAt b o cs)(k:P.underlying c=some d)(h:d.isRow=true)(i:(P.info? c).map (·.size)=some cs.length):(execOp a.eval op).run P w=.ok (.value (.agg cs.toArray)) w:=by
 unfold execOp;simp only[j,l,Instr.loadAt,Instr.sureAddr,GX,JD,IG,IT w b o c cs d f k h i]
theorem tw(b:op.guard=none)(v:Value)(w':World)(d:(execOp a.eval op).run P w=.ok (.value v) w')(h:wpList P aB Q aA (a.put op.dst v) w'):wpList P aB Q (op::aA) a w:=by
 refine IN b λK c=>?_
 unfold Oper.wp;simp only[d];exact c _ _ h
theorem UB(b:op.guard=none)(v:Value)(d:(execOp a.eval op).run P w=.ok (.value v) w)(h:wpList P aB Q aA (a.put op.dst v) w):wpList P aB Q (op::aA) a w:=by
 refine IN b λK c=>?_
 unfold Oper.wp;simp only[d];exact c _ _ h
theorem SU(d:o.guard=none)(c:TypeId)(x y:Operand)(j:o.op=.store c x y)(b k:Nat)(aA:Array Value)(p:a.eval x=.pointer (some ⟨b,k,none⟩))(q:a.eval y=.agg aA)(l:w.there b k aA.size)(i:(P.info? c).map (·.size)=some aA.size)(f:aA.all (·.oneCell')=true)
  (h:K (a.put o.dst undef) (w.setCells b k aA.toList)):if Region.wanted o (yielded aB a.tmps)=true then Oper.wp P o a w K Q else E:=by
 have m:Region.wanted o (yielded aB a.tmps)=true:=by simp[Region.wanted,d]
 rw[AF m];exact wp_store_mid c x y j b k aA p q l i f h
theorem fy{aA:Array Oper}(aB:o.guard=none)(c:TypeId)(x:Operand)(l:o.op=.load c x)(b k:Nat)(q:a.eval x=.pointer (some ⟨b,k,none⟩))(cs:List Value)(d:TypeDesc)(f:w.rangeAt b k cs)(m:P.underlying c=some d)(i:d.isRow=true)(j:(P.info? c).map (·.size)=some cs.length)
  (h:K (a.put o.dst (.agg cs.toArray)) w):if Region.wanted o (yielded aA a.tmps)=true then Oper.wp P o a w K Q else E:=by
 have p:Region.wanted o (yielded aA a.tmps)=true:=by simp[Region.wanted,aB]
 rw[AF p];exact wp_load_mid c x l b k q cs d f m i j h
end
