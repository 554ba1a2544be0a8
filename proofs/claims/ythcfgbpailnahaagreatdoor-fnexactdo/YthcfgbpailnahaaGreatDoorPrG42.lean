import Derived.Deep.RegionLaw
import Derived.Test.YthcfgbpailnahaaGreatDoorPrG26
set_option maxHeartbeats 16000000
set_option maxRecDepth 8000
set_option linter.all false
namespace Go.Proofs.YthcfgbpailnahaaGreatDoor
open _root_.ByteArray(empty)
open Tryz
open Go.RowKit
variable {w:World}
def LK{P:Program}{aB:Array Oper}{o:Oper}{a:Act}{K:Act->World->Prop}{Q:Exit->Act->World->Prop}{E:Prop}(aC:o.guard=none)(f:FuncId)(args:Array Value)
  (aA:(execOp a.eval o).run P w=.ok (.enter f args) w){C:Ending->World->Prop}(hc:Calls P f args w C)(h:∀e w',C e w'->∃v,e=.returned v/\K (a.put o.dst v) w'):if Region.wanted o (yielded aB a.tmps)=true then Oper.wp P o a w K Q else E:=by
 have hw:Region.wanted o (yielded aB a.tmps)=true:=by simp[Region.wanted,aC]
 rw[AK hw];unfold Oper.wp;rw[aA,Oper.upon_enter]
 refine hc.i λe aD hh=>?_
 obtain⟨v,rfl,hk⟩:=h e aD hh;exact hk
def jy(k v:ByteArray)(w:World):Calls prog 179 #[.agg #[.string k,.string v,.bool false]] w λe w'=>e=.returned (.iface 281 (.agg #[.string k,.string v]))/\Below w.heap.size w w':=by
 go_enter func179,ntmps179;go_wp2;go_ret;exact⟨rfl,LG _ _⟩
def me(k v:ByteArray)(w:World):Calls prog 179 #[.agg #[.string k,.string v,.bool true]] w λe w'=>e=.returned (.iface 279 (.agg #[.string k]))/\Below w.heap.size w w':=by
 go_enter func179,ntmps179;go_wp2;go_ret;exact⟨rfl,LG _ _⟩
def kw:(prog.info? 9).map (λi=>(i.zero,i.size,i.bytes))=some (some (.string empty),1,16):=by kernel_rfl
def sA(n m:Nat)(w:World)(h:n+m=56)(h1:1<=n)(h2:n<=8):Calls prog 228 #[.int .i64 (n:Int)] w λe w'=>e=.returned (.int .i64 (m:Int))/\w'=w:=by
 have hm:(64-(n:Int)-8)=(m:Int):=by omega
 go_enter func228,ntmps228;go_wp2;go_ret
 exact⟨by first|rfl|exact BT _ (BT _ hm),rfl⟩
def aj{W w1:World}{e:TypeId}{size:Nat}{v:Value}{n B:Nat}{xs:List Value}(hb:Below B W w)(own:w.ownsRow B e size v n xs)(hg:w.grownBy w1 v.ownBlock)(hB:B<=w.heap.size):Below B W w1 :=hb.j ⟨hg.os,hg.tape,hg.output,hg.size,λk hk=>hg.block k (by omega) (λhe=>by have:=(own.lt k he.symm).1;omega)⟩
def gu{B:Nat}(h:B<=w.heap.size)(o:Obj):B<=(w.alloc o).heap.size:=by simp;omega
def WF(s:ByteArray)(m k:Nat):List ByteArray:=(List.range k).map λi=>s.extract (i*m) (i*m+m)
def pS(s:ByteArray)(m k:Nat):WF s m (k+1)=WF s m k++[s.extract (k*m) (k*m+m)]:=by simp[WF,DR]
def PB(l m:Nat):Nat:=if l=0 then 1 else (l-1) / m+1
def mq(s:ByteArray){a b c:Nat}(h:min (b-a) (s.size-a)=min (c-a) (s.size-a)):s.extract a b=s.extract a c:=by
 apply FA
 simp only[GW];exact Array.extract_eq_extract_right.2 h
def oE(s r:ByteArray)(a m:Nat)(h:r=s.extract a s.size):r.extract m r.size=s.extract (a+m) s.size:=by
 subst h;rw[KG]
 apply mq
 simp only[AW];omega
def xh(s r:ByteArray)(a m:Nat)(h:r=s.extract a s.size):r.extract 0 m=s.extract a (a+m):=by
 subst h;rw[KG,GX]
 apply mq
 omega
def wi(s r:ByteArray)(a m:Nat)(h:r=s.extract a s.size)(hm:r.size<=m):r=s.extract a (a+m):=by
 subst h;simp only[AW]at hm
 apply mq
 omega
def Ek(l m k r:Nat)(hm:0<m)(hr:k*m+r=l)(h0:k=0\/0<r)(h1:r<=m):PB l m=k+1:=by
 unfold PB
 by_cases hl:l=0
 ·rw[AK hl]
  rcases h0 with h0|h0
  ·omega
  omega
 rw[AE hl]
 have:(l-1) / m=k:=by
  rw[Nat.div_eq_iff hm];rcases h0 with h0|h0
  ·subst h0;omega
  omega
 omega
def mx(s:ByteArray)(n m:Nat)(w:World)(hs:s.size<=1048576)(h:n+m=56)(h1:1<=n)(h2:n<=8):Calls prog 196 #[.string s,.int .i64 (n:Int)] w λe w'=>∃g c,e=.returned (.slice (some ⟨g,0,none⟩) (PB s.size m) c)/\w.heap.size<=g/\Row w' g ((WF s m (PB s.size m)).map Value.string)/\Below w.heap.size w w':=by
 obtain⟨i0,aJ,aK,aL,aM⟩:=info_parts kw;have HI:=LE (AG aJ (AG aK (AG aL aM)));clear aJ aK aL aM;go_enter func196,ntmps196;go_wp2_with (go_at_call 228;refine(sA n m _ h h1 h2).i ?_;rintro e w' ⟨rfl,rfl⟩);go_loopw [0,5] (λx y wr=>∃(k:Nat) (r:ByteArray),x=.string r/\Hid (r=s.extract (k*m) s.size)/\k*m+r.size=s.size/\Hid (k=0\/0<r.size)/\wr.ownsRow w.heap.size 9 1 y k ((WF s m k).map Value.string)/\Below w.heap.size w wr) (λx _ _=>match x with | .string r=>r.size|_=>0)
 case atStart=>exact⟨0,s,rfl,by show s=_;simp,by simp,.inl rfl,DM _ #[] 0 (AA _) (by simp) (by simp),LG _ _⟩
 case round =>
  obtain⟨k,r,rfl,HR,hr,H0,aD,aC⟩:=hrel
  by_cases aP:m<r.size
  ·have aO:(m:Int)<(r.size:Int):=by omega
   have aN:k<=1048576:=by have:k*1<=k*m:=Nat.mul_le_mul_left k (by omega);omega
   have aE:w.heap.size<=wr.heap.size:=aC.size;have HB:=LE aC;have HO:=LE (aD.alloc (.cells #[.string (r.extract 0 m)] 9));clear aC aD;go_wp2_with (at_builtin;refine PU _ rfl _ _ 22 rfl w.heap.size underlying22 HI.o rfl (by omega) _ k _ rfl HO.o ⟨wr.heap.size,0,none⟩ 1 1 [.string (r.extract 0 m)] rfl rfl (World.news_of_block (AY wr _)) (by intro u hu;simp at hu;subst hu;rfl) (gu aE _) (wr.heap.size+1) (by simp) ?_;intro g cap w3 aB aA aH aI;have aF:=LE aB;have aG:=LE (aj (HB.o.alloc aE _) HO.o aA (gu aE _));clear aB aA aH);refine⟨⟨k+1,r.extract m r.size,rfl,?_,?_,?_,?_,aG.o⟩,?_⟩
   ·show _=_
    rw[oE s r _ m HR.o,Zb,KN]
   ·rw[Zb,KN];simp only[AW];omega
   ·exact .inr (by simp only[AW];omega)
   ·have e:=aF.o
    rw[xh s r _ m HR.o]at e;rw[pS,BK];exact e
   simp only[AW];omega
  have aN:k<=1048576:=by have:k*1<=k*m:=Nat.mul_le_mul_left k (by omega);omega
  have aE:w.heap.size<=wr.heap.size:=aC.size;have HB:=LE aC;have HN:=LE (Ek s.size m k r.size (by omega) hr H0.o (by omega));have HO:=LE (aD.alloc (.cells #[.string r] 9));clear aC aD H0;go_wp2_with (at_builtin;refine PU _ rfl _ _ 22 rfl w.heap.size underlying22 HI.o rfl (by omega) _ k _ rfl HO.o ⟨wr.heap.size,0,none⟩ 1 1 [.string r] rfl rfl (World.news_of_block (AY wr _)) (by intro u hu;simp at hu;subst hu;rfl) (gu aE _) (wr.heap.size+1) (by simp) ?_;intro g cap w3 aB aA aH aI;have aF:=LE aB;have aG:=LE (aj (HB.o.alloc aE _) HO.o aA (gu aE _));clear aB aA aH);go_ret;refine⟨g,cap,by rw[HN.o];rfl,(aF.o.lt g rfl).1,?_,aG.o⟩;have e:=RW aF.o;rw[HN.o,pS,BK];rw[wi s r _ m HR.o (by omega)]at e;exact e
def PV(n:Int)(w:World):Calls prog 57 #[.int .i64 n] w λe w'=>e=.returned (.bool (decide (1<=n/\n<=8)))/\w'=w:=by
 by_cases h1:1<=n
 ·by_cases h2:n<=8
  ·go_enter func57,ntmps57
   go_wp2;go_ret;exact⟨by simp[h1,h2],rfl⟩
  go_enter func57,ntmps57
  go_wp2;go_ret;exact⟨by simp[h2],rfl⟩
 go_enter func57,ntmps57
 go_wp2;go_ret;exact⟨by simp;omega,rfl⟩
def QZ(n:Int)(w:World):Calls prog 72 #[.int .i64 n] w λe w'=>e=.returned (.bool (decide (1<=n/\n<=8)))/\w'=w:=by
 by_cases h1:1<=n
 ·by_cases h2:n<=8
  ·go_enter func72,ntmps72
   go_wp2;go_ret;exact⟨by simp[h1,h2],rfl⟩
  go_enter func72,ntmps72
  go_wp2;go_ret;exact⟨by simp[h2],rfl⟩
 go_enter func72,ntmps72
 go_wp2;go_ret;exact⟨by simp;omega,rfl⟩
def OB(l:Nat)(n:Int):Int:=if 1<=n/\n<=8 then (PB l (56-n).toNat:Int) else 0
def dj(n m:Nat)(w:World)(h:n+m=56)(h1:1<=n)(h2:n<=8):Calls prog 180 #[.int .i64 (n:Int)] w λe w'=>e=.returned (.int .i64 (m:Int))/\w'=w:=by
 have hm:(64-(n:Int)-8)=(m:Int):=by omega
 go_enter func180,ntmps180;go_wp2;go_ret
 exact⟨by first|rfl|exact BT _ (BT _ hm),rfl⟩
def nc(s:ByteArray)(n:Int)(w:World)(hs:s.size<=1048576):Calls prog 132 #[.string s,.int .i64 n] w λe w'=>e=.returned (.int .i64 (OB s.size n))/\Below w.heap.size w w':=by
 obtain⟨R,HR⟩:∃R,Hid (R=OB s.size n):=⟨_,LE rfl⟩;rw[<-HR.o]
 by_cases hn:1<=n/\n<=8
 focus
  obtain⟨m,rfl⟩:∃m:Nat,n=(m:Int):=⟨n.toNat,by omega⟩;obtain⟨q,hq⟩:∃q:Nat,m+q=56:=⟨56-m,by omega⟩;have hd:decide (1<=(m:Int)/\(m:Int)<=8)=true:=by simp;omega
  by_cases hz:s.size=0
  focus
   have aB:s=empty:=by apply FA;exact JN hz
   subst aB;have hR:R=1:=by rw[HR.o];unfold OB PB;rw[AK hn];simp
   clear HR;subst hR
  rotate_left
  obtain⟨l,hl⟩:∃l:Nat,s.size=l+1:=⟨s.size-1,by omega⟩
  have hR:R=((l / q:Nat):Int)+1:=by
   rw[HR.o];unfold OB PB;rw[AK hn,AE hz,show(56-(m:Int)).toNat=q by omega,hl];simp
  obtain⟨d,aA⟩:∃d:Nat,d=l / q:=⟨_,rfl⟩;have aD:d<=l:=by rw[aA];exact KY _ _
  have aE:(l:Int) / (q:Int)=(d:Int):=by rw[aA];simp
  rw[<-aA]at hR;clear HR aA;subst hR;have aC:s.toList.isEmpty=false:=by rw[TH];simp[hz]
  go_enter func132,ntmps132
  go_wp2_with (first|(go_at_call 72;refine(QZ _ _).i ?_;rw[hd];rintro e w' ⟨rfl,rfl⟩)|(go_at_call 180;refine(dj m q _ hq (by omega) (by omega)).i ?_;rintro e w' ⟨rfl,rfl⟩))
  go_ret;exact⟨rfl,AB _ _⟩
 rotate_left
 focus
  have hR:R=0:=by rw[HR.o];unfold OB;exact AE hn
  clear HR;subst hR;have hd:decide (1<=n/\n<=8)=false:=by simp;omega
 rotate_left
 all_goals
  go_enter func132,ntmps132
  go_wp2_with (first|(go_at_call 72;refine(QZ _ _).i ?_;rw[hd];rintro e w' ⟨rfl,rfl⟩))
  go_ret;exact⟨rfl,AB _ _⟩
def qY(s:ByteArray)(n:Int)(w:World)(hs:s.size<=1048576):Calls prog 147 #[.string s,.int .i64 n] w λe w'=>e=.returned (.int .i64 (OB s.size n))/\Below w.heap.size w w':=by
 unfold OB
 by_cases hn:1<=n/\n<=8
 ·rw[AK hn]
  obtain⟨m,rfl⟩:∃m:Nat,n=(m:Int):=⟨n.toNat,by omega⟩;obtain⟨q,hq⟩:∃q:Nat,m+q=56:=⟨56-m,by omega⟩;rw[show(56-(m:Int)).toNat=q by omega];have hd:decide (1<=(m:Int)/\(m:Int)<=8)=true:=by simp;omega
  go_enter func147,ntmps147
  go_wp2_with (first|(go_at_call 57;refine(PV _ _).i ?_;rw[hd];rintro e w' ⟨rfl,rfl⟩)|(go_at_call 196;refine(mx s m q _ hs hq (by omega) (by omega)).i ?_;rintro e w2 ⟨g,c,rfl,hg,aA,hb⟩;clear aA))
  go_ret;exact⟨rfl,hb⟩
 rw[AE hn]
 have hd:decide (1<=n/\n<=8)=false:=by simp;omega
 go_enter func147,ntmps147
 go_wp2_with (first|(go_at_call 57;refine(PV _ _).i ?_;rw[hd];rintro e w' ⟨rfl,rfl⟩))
 go_ret;exact⟨rfl,AB _ _⟩
def Fs(s:ByteArray)(w:World)(n:Nat)(hs:s.size<=1048576)(h1:1<=n)(h2:n<=8):Calls prog 204 #[.string s,.int .i64 (n:Int)] w λe w'=>e=.returned (.string (RZ s n))/\Below w.heap.size w w':=by
 have aG:=eh;have aE:(1:Int)<=(n:Int):=by omega
 have aF:(n:Int)<=8:=by omega
 go_enter func204,ntmps204;go_wp2;go_loop [5,6] (λv i=>∃k:Nat,k<=s.size/\i=.int .i64 k/\v=.int .u64 (OW (s.data.toList.take k))) (λ_ i=>s.size-(intOf i).toNat)
 case atStart=>exact⟨0,AH _,rfl,rfl⟩
 case round =>
  obtain⟨k,hk,rfl,rfl⟩:=hrel
  by_cases aC:k<s.size
  ·have HS:Hid (OW (s.data.toList.take (k+1))=fo (OW (s.data.toList.take k)) s[k]):=by show _=_;rw[oh s k aC,pz]
   go_wp2;go_round
   case rel=>exact⟨k+1,by omega,by go_num,by rw[HS.o];rfl⟩
   case measure=>simp[intOf];omega
  have aB:s.data.toList.take k=s.data.toList:=AT (by simp;omega)
  have HV:Hid (OW (s.data.toList.take k)=OW s.data.toList):=by show _=_;rw[aB]
  clear aB;obtain⟨x,HX⟩:∃x,Hid (x=OW s.data.toList):=⟨OW s.data.toList,(rfl:OW s.data.toList=OW s.data.toList)⟩;rw[HV.o,<-HX.o];have hx:0<=x/\x<=18446744073709551615:=by rw[HX.o];exact vj _
  go_wp2;go_loopw [5,7,8] (λv o i wr=>∃k:Nat,k<=n/\i=.int .i64 k/\o=.string (strOfNums (be k x))/\v=.int .u64 (sh k x)/\Below w.heap.size w wr) (λ_ _ i _=>n-(intOf i).toNat)
  case atStart=>exact⟨0,AH _,rfl,rfl,rfl,AB _ _⟩
  case round =>
   obtain⟨k,hk,rfl,rfl,rfl,aA⟩:=hrel;have aH:=pQ k x hx.1 hx.2
   by_cases aC:k<n
   ·have aI:(strOfNums [sh k x % 256]).size<=1:=by rw[BS];simp
    have aJ:(strOfNums (be k x)).size<=8:=by rw[BS,OK];omega
    go_wp2;go_roundw
    case rel=>exact⟨k+1,by omega,by go_num,by rw[nz,<-RG];rfl,rfl,aA.alloc aA.size _⟩
    case measure=>simp[intOf];omega
   have aD:k=n:=by omega
   subst aD;go_wp2;go_ret;exact⟨dz (by unfold RZ;rw[HX.o]),aA⟩
def YP(b off n cap:Nat)(x:Int)(w:World)(hn:n<=64)(aD:0<=x)(aE:x<=18446744073709551615)
  (hc:∀i,i<n->∃u,w.cell? ⟨b,off+i,none⟩=some (.int .u8 u))(hf:∀i,i<n->w.frozen? ⟨b,off+i,none⟩=false):Calls prog 236 #[.slice (some ⟨b,off,none⟩) n cap,.int .u64 x] w λe w'=>e=.returned (.tuple #[])/\Wrote w w' b off (be n x):=by
 go_enter func236,ntmps236;go_wp2;go_loopw [1,4] (λv i wr=>∃k:Nat,k<=n/\i=.int .i64 ((n:Int)-1-k)/\v=.int .u64 (sh k x)/\Wrote w wr b (off+(n-k)) (be k x)) (λ_ i _=>(intOf i+1).toNat)
 case atStart=>exact⟨0,AH _,by simp,rfl,by simpa[be] using Wrote.refl w b (off+n)⟩
 case round =>
  obtain⟨k,hk,rfl,rfl,aA⟩:=hrel;have aH:=pQ k x aD aE
  by_cases aG:k<n
  ·obtain⟨u,hu⟩:=hc (n-1-k) (by omega)
   have aI:wr.cell? ⟨b,off+(n-1-k),none⟩=some (.int .u8 u):=(aA.outside _ (.inl (by omega))).j hu;have aF:wr.frozen? ⟨b,off+(n-1-k),none⟩=false:=(aA.frozen _).j (hf _ (by omega));go_wp2;go_roundw
   case rel =>
    have aC:=Wrote.step (off:=off+(n-1-k)) (xs:=be k x) (by rw[show off+(n-1-k)+1=off+(n-k) by omega];exact aA) (sh k x % 256) hu;exact⟨k+1,by omega,by go_num,rfl,by rw[nz,show n-(k+1)=n-1-k by omega];exact aC⟩
   case measure=>simp[intOf];omega
  have aB:k=n:=by omega
  subst aB;go_wp2;go_end0;exact⟨rfl,by simpa using aA⟩
def F5(s:ByteArray)(w:World)(n:Nat)(hs:s.size<=1048576)(h1:1<=n)(h2:n<=8):Calls prog 241 #[.string s,.int .i64 (n:Int)] w λe w'=>e=.returned (.string (RZ s n))/\Below w.heap.size w w':=by
 have aF:(1:Int)<=(n:Int):=by omega
 have aG:(n:Int)<=8:=by omega
 go_enter func241,ntmps241;go_wp2;go_loop [5,6] (λv i=>∃k:Nat,k<=s.size/\i=.int .i64 k/\v=.int .u64 (OW (s.data.toList.take k))) (λ_ i=>s.size-(intOf i).toNat)
 case atStart=>exact⟨0,AH _,rfl,rfl⟩
 case round =>
  obtain⟨k,hk,rfl,rfl⟩:=hrel
  by_cases aD:k<s.size
  ·have HS:Hid (OW (s.data.toList.take (k+1))=fo (OW (s.data.toList.take k)) s[k]):=by show _=_;rw[oh s k aD,pz]
   go_wp2;go_round
   case rel=>exact⟨k+1,by omega,by go_num,by rw[HS.o];rfl⟩
   case measure=>simp[intOf];omega
  have aB:s.data.toList.take k=s.data.toList:=AT (by simp;omega)
  have HV:Hid (OW (s.data.toList.take k)=OW s.data.toList):=by show _=_;rw[aB]
  clear aB;obtain⟨x,HX⟩:∃x,Hid (x=OW s.data.toList):=⟨OW s.data.toList,(rfl:OW s.data.toList=OW s.data.toList)⟩;rw[HV.o,<-HX.o];have hx:0<=x/\x<=18446744073709551615:=by rw[HX.o];exact vj _
  go_wp2_with fail;refine(YP w.heap.size 0 8 8 x _ (by omega) hx.1 hx.2 ?hc ?hf).i ?_
  case hc =>
   intro i hi;have:i=0\/i=1\/i=2\/i=3\/i=4\/i=5\/i=6\/i=7:=by omega
   rcases this with rfl|rfl|rfl|rfl|rfl|rfl|rfl|rfl<;>exact⟨0,by simp⟩
  case hf=>intro i hi;simp
  rintro e w1 ⟨rfl,aA⟩;have aC:Below w.heap.size w w1:=(LG _ _).j (aA.I (AA _))
  have aH:=λcap=>Za (P:=prog) w1 172 5 underlying172 underlying5 w.heap.size (8-n) n cap (be n x) (OK n x) (λi hi=>by
   have h:=aA.inside (8-n+i) (by rw[OK];omega);rw[vy _ _ _ (by omega)]at h;rw[vy _ _ _ (by omega),show n-1-i=8-1-(8-n+i) by omega]
   simpa using h) 9 underlying9
  clear aA
  have aE:=λwx=>ik (P:=prog) (t:=314) underlying314 (λ_=>by kernel_rfl) w.heap.size 0 (8-n) (by omega) .i64 (8-(n:Int)) (by omega) wx
  rw[show 8-(8-n)=n by omega,BF]at aE;go_wp2;go_ret;exact⟨dz (by unfold RZ;rw[HX.o]),aC⟩
def VU{a b:Bool}(h:a=b):Ending.returned (.bool a)=.returned (.bool b):=by rw[h]
def NI(k l m:Int)(p:ByteArray)(n:Int):Bool:=decide (1<=n/\n<=8/\1<=k/\k<=4/\1<=l/\l<=60000/\1<=m/\m<=1000000000/\(p.size:Int)<=56-n/\(k=3->p.size=0))
@[reducible] def NH(k l m:Int)(p:ByteArray):Value:=.agg #[.int .i64 k,.int .i64 l,.int .i64 m,.string p]
def Ay(v:Int)(c:Nat)(w:World)(h0:0<=v)(h1:v<=9223372036854775807)(hc:c<=8):Calls prog 203 #[.int .i64 v,.int .i64 (c:Int)] w λe w'=>e=.returned (.string (strOfNums (be c v)))/\Below w.heap.size w w':=by
 have aC:=eh;go_enter func203,ntmps203;go_wp2;go_loopw [0,5,6] (λx o i wr=>∃k:Nat,k<=c/\i=.int .i64 k/\o=.string (strOfNums (be k v))/\x=.int .i64 (sh k v)/\Below w.heap.size w wr) (λ_ _ i _=>c-(intOf i).toNat)
 case atStart=>exact⟨0,AH _,rfl,rfl,rfl,AB _ _⟩
 case round =>
  obtain⟨k,hk,rfl,rfl,rfl,aA⟩:=hrel;have aE:=tA k v h0 h1
  by_cases aD:k<c
  ·have aF:(strOfNums [sh k v % 256]).size<=1:=by rw[BS];simp
   have aG:(strOfNums (be k v)).size<=8:=by rw[BS,OK];omega
   go_wp2;go_roundw
   case rel=>exact⟨k+1,by omega,by go_num,by rw[nz,<-RG];rfl,rfl,aA.alloc aA.size _⟩
   case measure=>simp[intOf];omega
  have aB:k=c:=by omega
  subst aB;go_wp2;go_ret;exact⟨rfl,aA⟩
def aq(n:Int)(w:World)(h1:1<=n)(h2:n<=8):Calls prog 228 #[.int .i64 n] w λe w'=>e=.returned (.int .i64 (64-n-8))/\w'=w:=by
 go_enter func228,ntmps228;go_wp2;go_ret;exact⟨rfl,rfl⟩
def mz(n:Int)(w:World)(h1:1<=n)(h2:n<=8):Calls prog 180 #[.int .i64 n] w λe w'=>e=.returned (.int .i64 (64-n-8))/\w'=w:=by
 go_enter func180,ntmps180;go_wp2;go_ret;exact⟨rfl,rfl⟩
def fi(k l m:Int)(p:ByteArray)(n:Int)(w:World)(hp:p.size<=1048576):Calls prog 237 #[NH k l m p,.int .i64 n] w λe w'=>e=.returned (.bool (NI k l m p n))/\Below w.heap.size w w':=by
 by_cases hn:1<=n/\n<=8
 ·obtain⟨aB,aC⟩:=hn
  go_enter func237,ntmps237;go_wp2
  all_goals first
   | (go_ret;refine⟨VU ?_,LG _ _⟩;unfold NI;symm;apply AI;intro h;omega)
   | (go_ret;refine⟨VU ?_,LG _ _⟩;have aA:(k == 3)=true:=(by assumption);rw[TH];unfold NI;simp at aA;apply JQ.2;constructor<;>intro h<;>omega)
   | (go_quiet ((go_at_call 180;exact Calls.quiet_of_same (mz _ _ aB aC)));go_wp2;go_ret;refine⟨VU ?_,below_drewN (LG _ _) _⟩;have aA:(k == 3)=false:=(by assumption);unfold NI;simp at aA;apply JQ.2;constructor<;>intro h<;>omega)
 have hd:decide (1<=n/\n<=8)=false:=by simpa using hn
 go_enter func237,ntmps237;go_wp2_with (go_at_call 72;refine(QZ _ _).i ?_;rw[hd];rintro e w' ⟨rfl,rfl⟩);go_ret;refine⟨VU ?_,LG _ _⟩;unfold NI;symm;apply AI;intro h;omega
def tg(k l m:Int)(p:ByteArray)(n:Int)(w:World)(hp:p.size<=1048576):Calls prog 202 #[NH k l m p,.int .i64 n] w λe w'=>e=.returned (.bool (NI k l m p n))/\Below w.heap.size w w':=by
 by_cases hn:1<=n/\n<=8
 ·obtain⟨aA,aB⟩:=hn
  by_cases h1:1<=k/\k<=4/\1<=l/\l<=60000/\1<=m/\m<=1000000000
  ·obtain⟨a1,a2,a3,a4,a5,a6⟩:=h1
   by_cases hz:(p.size:Int)<=64-n-8
   ·by_cases hk:k=3
    ·have aC:(k != 3)=false:=by simp[hk]
     have HK:Hid (k=3):=hk;clear hk;go_enter func202,ntmps202;go_wp2;go_quiet ((go_at_call 228;exact Calls.quiet_of_same (aq _ _ aA aB)));go_wp2;go_ret;refine⟨VU ?_,below_drewN (LG _ _) _⟩;rw[TH];unfold NI;have hk:=HK.o;apply JQ.2;constructor<;>intro h<;>omega
    have aC:(k != 3)=true:=by simp[hk]
    go_enter func202,ntmps202;go_wp2;go_quiet ((go_at_call 228;exact Calls.quiet_of_same (aq _ _ aA aB)));go_wp2;go_ret;refine⟨VU ?_,below_drewN (LG _ _) _⟩;unfold NI;symm;apply AO;omega
   have aD:decide ((p.size:Int)<=64-n-8)=false:=by simpa using hz
   go_enter func202,ntmps202;go_wp2;go_quiet ((go_at_call 228;exact Calls.quiet_of_same (aq _ _ aA aB)));go_wp2;go_ret;refine⟨VU ?_,below_drewN (LG _ _) _⟩;unfold NI;symm;apply AI;intro h;omega
  have hf:NI k l m p n=false:=by unfold NI;apply AI;intro h;omega
  have HF:Hid (NI k l m p n=false):=hf;clear hf;go_enter func202,ntmps202;go_wp2
  all_goals (go_ret;exact⟨VU HF.o.symm,LG _ _⟩)
 have hd:decide (1<=n/\n<=8)=false:=by simpa using hn
 go_enter func202,ntmps202;go_wp2_with (go_at_call 57;refine(PV _ _).i ?_;rw[hd];rintro e w' ⟨rfl,rfl⟩);go_ret;refine⟨VU ?_,LG _ _⟩;unfold NI;symm;apply AI;intro h;omega
def PA{p:Prop}(h:p):Hid p:=h
def rn:Value->ByteArray
 | .string s=>s
 | _=>empty
def sX(k l m:Int)(p:ByteArray):strOfNums (be 1 k)++strOfNums (be 2 l)++strOfNums (be 4 m)++strOfNums (be 1 (p.size:Int))++p=strOfNums (UZ k l m p++List.replicate 0 0):=by
 rw[List.replicate_zero,EY];unfold UZ;rw[RG,RG,RG,RG,SJ]
def qB(xs:List Int)(j:Nat):strOfNums (xs++List.replicate j 0)++⟨#[0]⟩=strOfNums (xs++List.replicate (j+1) 0):=by
 rw[IN,<-BG,RG _ [0]];rfl
def ZO(v:Int)(c:Nat)(ci:Int)(aA:ci=(c:Int))(w:World)(h0:0<=v)(h1:v<=9223372036854775807)(hc:c<=8):Calls prog 203 #[.int .i64 v,.int .i64 ci] w λe w'=>e=.returned (.string (strOfNums (be c v)))/\Below w.heap.size w w':=by
 subst aA;exact Ay v c w h0 h1 hc
def YX{W:World}{v0 v1 v2 v3:Value}{w':World}(hb:Below w.heap.size w w')
  (h:W.heap.size<w.heap.size/\w.cell? ⟨W.heap.size,0,none⟩=some v0/\w.cell? ⟨W.heap.size,1,none⟩=some v1/\w.cell? ⟨W.heap.size,2,none⟩=some v2/\w.cell? ⟨W.heap.size,3,none⟩=some v3/\Below W.heap.size W w):W.heap.size<w'.heap.size/\w'.cell? ⟨W.heap.size,0,none⟩=some v0/\w'.cell? ⟨W.heap.size,1,none⟩=some v1/\w'.cell? ⟨W.heap.size,2,none⟩=some v2/\w'.cell? ⟨W.heap.size,3,none⟩=some v3/\Below W.heap.size W w' :=⟨AD h.1 hb.size,(hb.cell (p:=⟨_,0,none⟩) h.1).j h.2.1,(hb.cell (p:=⟨_,1,none⟩) h.1).j h.2.2.1,(hb.cell (p:=⟨_,2,none⟩) h.1).j h.2.2.2.1,(hb.cell (p:=⟨_,3,none⟩) h.1).j h.2.2.2.2.1,
  h.2.2.2.2.2.j (hb.i (LC h.1))⟩
def Cd(k l m:Int)(p:ByteArray)(n:Nat)(w:World)(aA:NI k l m p n=true):Calls prog 154 #[NH k l m p,.int .i64 (n:Int)] w λe w'=>e=.returned (.string (SI k l m p n))/\Below w.heap.size w w':=by
 have aB:=AZ (by unfold NI at aA;exact aA);obtain⟨aS,aT,aL,aM,aN,aO,aQ,aR,hp,_⟩:=aB;have z1:(strOfNums (be 1 k)).size=1:=by rw[BS,OK]
 have z2:(strOfNums (be 2 l)).size=2:=by rw[BS,OK]
 have z3:(strOfNums (be 4 m)).size=4:=by rw[BS,OK]
 have z4:(strOfNums (be 1 (p.size:Int))).size=1:=by rw[BS,OK]
 have z5:¬(9223372036854775807<8+p.size):=by omega
 go_enter func154,ntmps154;go_wp2_with (go_at_call 202;refine(tg k l m p n _ (by omega)).i ?_;rw[aA];rintro e w1 ⟨rfl,aC⟩)
 have hS:w.heap.size<w1.heap.size/\w1.cell? ⟨w.heap.size,0,none⟩=some (.int .i64 k)/\w1.cell? ⟨w.heap.size,1,none⟩=some (.int .i64 l)/\w1.cell? ⟨w.heap.size,2,none⟩=some (.int .i64 m)/\w1.cell? ⟨w.heap.size,3,none⟩=some (.string p)/\Below w.heap.size w w1 :=YX (v0:=.int .i64 k) (v1:=.int .i64 l) (v2:=.int .i64 m) (v3:=.string p) aC ⟨by simp,by simp,by simp,by simp,by simp,LG _ _⟩
 have HS:=PA hS;clear hS aC
 go_region_held3 (λw'=>w.heap.size<w'.heap.size/\w'.cell? ⟨w.heap.size,0,none⟩=some (.int .i64 k)/\w'.cell? ⟨w.heap.size,1,none⟩=some (.int .i64 l)/\w'.cell? ⟨w.heap.size,2,none⟩=some (.int .i64 m)/\w'.cell? ⟨w.heap.size,3,none⟩=some (.string p)/\Below w.heap.size w w')
  (first|assumption|exact YX (below_drewN (AB _ _) 1) HS.o|exact YX (by assumption) (by assumption))
  (first|(go_at_call_of 203 k;refine(ZO k 1 _ rfl _ (by omega) (by omega) (by omega)).i ?_;rintro e w2 ⟨rfl,aH⟩)|(go_at_call_of 203 l;refine(ZO l 2 _ rfl _ (by omega) (by omega) (by omega)).i ?_;rintro e w3 ⟨rfl,aI⟩)|(go_at_call_of 203 m;refine(ZO m 4 _ rfl _ (by omega) (by omega) (by omega)).i ?_;rintro e w4 ⟨rfl,aJ⟩)|(go_at_call_of 203 (p.size:Int);refine(ZO (p.size:Int) 1 _ rfl _ (by omega) (by omega) (by omega)).i ?_;rintro e w5 ⟨rfl,aK⟩))
 clear HS;rename_i hSl;have aD:=hSl.2.2.2.2.2;clear hSl;go_wp2;go_loop [5] (λb=>∃j:Nat,j<=56-n-p.size/\b=.string (strOfNums (UZ k l m p++List.replicate j 0))) (λb=>64-(rn b).size)
 case atStart=>exact⟨0,AH _,by rw[sX]⟩
 case round =>
  obtain⟨j,hj,rfl⟩:=hrel;have aG:(strOfNums (UZ k l m p++List.replicate j 0)).size=8+p.size+j:=by rw[BS,AF,jx,IF]
  by_cases aP:j<56-n-p.size
  ·go_wp2
   go_round
   case rel=>exact⟨j+1,by omega,by rw[qB]⟩
   case measure =>
    rw[qB];simp only[rn,BS,AF,jx,IF];omega
  have aF:j=56-n-p.size:=by omega
  subst aF;have aU:(RZ (strOfNums (UZ k l m p++List.replicate (56-n-p.size) 0)) n).size=n:=fv _ _;have aV:¬(9223372036854775807<n+(8+p.size+(56-n-p.size))):=by omega
  go_wp2_with (go_at_call 204;refine(Fs _ _ n (by rw[aG];omega) (by omega) (by omega)).i ?_;rintro e w6 ⟨rfl,aE⟩);go_ret;exact⟨rfl,aD.j (aE.i aD.size)⟩
def yM(k l m:Int)(p:ByteArray)(n:Int)(w:World)(hp:p.size<=1048576)(aB:NI k l m p n=false):Calls prog 154 #[NH k l m p,.int .i64 n] w λe w'=>e=.returned (.string empty)/\Below w.heap.size w w':=by
 go_enter func154,ntmps154;go_wp2_with (go_at_call 202;refine(tg k l m p n _ hp).i ?_;rw[aB];rintro e w1 ⟨rfl,aA⟩);go_ret;exact⟨rfl,(LG _ _).j (aA.i (by simp))⟩
