import Derived.Lib.AppendStr
import Derived.Test.YtjdmogljfdffeaaGreatDoorPrG37
set_option maxHeartbeats 16000000
namespace Go.Proofs.YtjdmogljfdffeaaGreatDoor
open Tryz
open Go.RowKit
set_option maxRecDepth 4000
set_option linter.all false
variable {size:Nat}{e:TypeId}{w:World}
theorem rv{P:Program}{g:Array Oper}{o:Oper}{a:Act}{K:Act->World->Prop}{Q:Exit->Act->World->Prop}{E:Prop}(y:o.guard=none)(j x:Operand)(t u:TypeId)
  (C:o.op=.call { callee:=.builtin .append,args:=#[j,x],argTypes:=#[t,u] })
  (b:Nat)(e:TypeId)(i:TypeInfo)(G:P.underlying t=some (.slice e))(H:P.underlying u=some .string)(B:P.info? e=some i)(M:i.zero=some (.int .u8 0))
  (m:i.size=1)(r:i.bytes=1)
  (v:Value)(n:Nat)(f:List Value)(F:a.eval j=v)(p:w.ownsRow b e 1 v n f)(s:ByteArray)(L:a.eval x=.string s)
  (q:n+s.size<=maxLen)(k:n+s.size<=140737488355328)(l:b<=w.heap.size)
  (h:∀d c,c.ownsRow b e 1 d (n+s.size) (f++Lib.strCells s)->w.grownBy c v.ownBlock->K (a.put o.dst d) c):if Region.wanted o (yielded g a.tmps)=true then Oper.wp P o a w K Q else E:=by
 have I:Region.wanted o (yielded g a.tmps)=true:=by simp[Region.wanted,y]
 rw[AF I];obtain⟨d,c,D,z,A,N⟩:=Lib.run_append_own_string (P:=P) w b t u o.type e i G H B M m r v n f p s q k l;unfold Oper.wp execOp;simp only[C,resolve,invoke,builtin,GX,JD,IG,List.map_toArray,IC,KI,F,L,D];exact h d c z A
theorem infoByte:(prog.info? 5).map (λi=>(i.zero,i.size,i.bytes))=some (some (.int .u8 0),1,1):=κ
theorem G7{P:Program}{z:Value}{a:Nat}(h:(P.info? e).map (λi=>(i.zero,i.size,i.bytes))=some (some z,size,a)):∃i,P.info? e=some i/\i.zero=some z/\i.size=size/\i.bytes=a:=by
 obtain⟨i,c,b⟩:=EM.1 h;simp only[EG]at b;exact⟨i,c,b⟩
theorem em{W b:World}{v:Value}{n B:Nat}{f:List Value}(c:Below B W w)(own:w.ownsRow B e size v n f)(a:w.grownBy b v.ownBlock)(g:B<=w.heap.size):Below B W b :=c.j ⟨a.os,a.tape,a.output,a.size,λk h=>a.block k ω (λd=>by have:=(own.lt k d.symm).1;omega)⟩
theorem sN{a:Nat}{v:Value}{n c:Nat}{d b:List Value}(h:w.ownsRow a e size v n d)(f:n=c)(g:d=b):w.ownsRow a e size v c b:=by subst f g;exact h
def ZK(l:List Int):List Value:=l.map (Value.int .u8)
theorem ua(s:ByteArray):Lib.strCells s=ZK (KU s):=by simp[ZK,KU,Lib.strCells]
theorem Bj(a:List (ByteArray×ByteArray×Bool))(h:∀x∈a,NZ x=true):(a.flatMap MQ).length<=123*a.length:=by have:=sd a h;unfold QY at this;rwa [BU]at this
theorem Ds(a:List (ByteArray×ByteArray×Bool))(k:Nat)(x d:ByteArray×ByteArray×Bool)(h:k<a.length)(b:x=a.getD k d):(a.take (k+1)).flatMap MQ=(a.take k).flatMap MQ++MQ x:=by
 rw[AX h,List.flatMap_append];simp[List.getD,h]at b;rw[b];simp
theorem dh(a:Option Addr)(d:List (ByteArray×ByteArray×Bool))(c:Nat)(w:World)(h:Chs w a d)(hl:d.length<=1048576)(hs:∀x∈d,x.1.size<=1048576/\x.2.1.size<=1048576):Calls prog 25 #[.slice a d.length c] w λe b=>e=.returned (.string (KZ d))/\Below w.heap.size w b:=by
 unfold KZ
 cases hok:NL d with
 | false =>
  simp only[EW,IJ];go_enter func25,ntmps25;go_wp2_with (go_at_call 20;refine(oq a d c _ h hl hs).A ?_;rw[hok];rintro e w2 ⟨rfl,H⟩);go_ret;exact⟨rfl,H⟩
 | true =>
  simp only[GZ];obtain⟨hn,b⟩:=WO hok;have W:=Z b;clear b;obtain⟨R,b,P,Q,g⟩:=G7 infoByte;have f:=Z (AH b (AH P (AH Q g)));clear b P Q g;go_enter func25,ntmps25;go_wp2_with (go_at_call 20;refine(oq a d c _ h hl hs).A ?_;rw[hok];rintro e w2 ⟨rfl,H⟩);go_loopw [3,4] (λy i wr=>∃k:Nat,k<=d.length/\i=.int .i64 k/\wr.ownsRow w.heap.size 5 1 y ((d.take k).flatMap MQ).length (ZK ((d.take k).flatMap MQ))/\Below w.heap.size w wr) (λ_ i _=>d.length-(intOf i).toNat)
  case atStart=>exact⟨0,AO _,rfl,CJ _ #[] 0 H.size σ σ,H.alloc H.size _⟩
  case round =>
   obtain⟨k,hk,rfl,t,G⟩:=hrel
   by_cases M:k<d.length
   ·have p:=h.z G
    obtain⟨b,o,j,l,g2,rfl,L,cE,cU,T⟩:=p.at M;have lb:b<wr.heap.size:=by have:=DI wr _ L;simpa using this
    have q:b<w.heap.size:=by
     rcases h with h|⟨n,s,g,m,_⟩
     ·subst h;simp at M
     cases g;exact m
    have hm:Hid ((j,l,g2)∈d):=by show _∈_;rw[T.l];simp[List.getD,M]
    have g:=W.l _ hm.l;have P:j.size<=255:=by simp[NZ,OU,NY]at g;omega
    have Q:l.size<=255:=by simp[NZ,OU,NY]at g;omega
    have dV:IntKind.u8.wrap (j.size:Int)=(j.size:Int):=by simp[IntKind.wrap,IntKind.bits,IntKind.signed];omega
    have dZ:IntKind.u8.wrap (l.size:Int)=(l.size:Int):=by simp[IntKind.wrap,IntKind.bits,IntKind.signed];omega
    have cP:=Z (Bj (d.take k) (λx m=>W.l x (DM m)));have cC:=Z (Ds d k _ _ M T.l);obtain⟨n,m⟩:∃n,n=((d.take k).flatMap MQ).length:=⟨_,rfl⟩;have dR:n<=100000:=by have:=cP.l;rw[BF]at this;omega
    have cW:(k:Int)<(d.length:Int):=ω
    have dQ:(0:Int)<=(k:Int):=ω
    have cJ:=G.size;have B:=Z G;rw[<-m]at t;have bY:=Z m;have X:=Z t;clear t G g m p
    cases g2 with
    | true =>
     have C:=Z (X.l.alloc (.cells #[.int .u8 1,.int .u8 (j.size:Int)] 5));go_wp2_with fail
     go_region_law (first|(have U:=N;refine rv ρ _ _ _ _ ρ w.heap.size 5 R underlying22 underlying9 f.l.1 f.l.2.1 f.l.2.2.1 f.l.2.2.2 _ (n+2) _ ρ z.l j ρ (by unfold maxLen;omega) ω I ?_;intro v5 A F D;have K:=Z F;have v:=Z (em p.l z.l D I);have cH:=v.l.size;clear F D)|(refine QM _ ρ _ _ _ ρ w.heap.size underlying22 f.l rfl ω u3 n (ZK ((d.take k).flatMap MQ)) ρ C.l ⟨wr.heap.size,0,none⟩ 2 2 [.int .u8 1,.int .u8 (j.size:Int)] ρ rfl (World.news_of_block (AW wr _)) (by intro u s;simp at s;rcases s with rfl|rfl<;>rfl) ξ (wr.heap.size+1) σ ?_;intro g y S E m O bI;have z:=Z E;have p:=Z (em (B.l.alloc cJ _).drew C.l m ξ);have N:S.cell? ⟨b,o+k*3,none⟩=some (.string j):=(p.l.cell (p:=⟨b,o+k*3,none⟩) q).j ((B.l.cell (p:=⟨b,o+k*3,none⟩) q).symm.j L);have I:=p.l.size;clear E m O))
     all_goals
      go_wp2;refine⟨⟨k+1,ω,ν,?_,v.l⟩,by simp[intOf];omega⟩;rw[cC.l];have e:=K.l;exact sN e (by rw[bY.l];simp[MQ,ME];omega) (by rw[ua];simp[MQ,ZK])
    | false =>
     have C:=Z (X.l.alloc (.cells #[.int .u8 0,.int .u8 (j.size:Int)] 5));go_wp2_with fail
     go_region_law (first|(have U:=N;refine rv ρ _ _ _ _ ρ w.heap.size 5 R underlying22 underlying9 f.l.1 f.l.2.1 f.l.2.2.1 f.l.2.2.2 _ (n+2) _ ρ z.l j ρ (by unfold maxLen;omega) ω I ?_;intro v5 A F D;have K:=Z F;have v:=Z (em p.l z.l D I);have cH:=v.l.size;clear F D)|(refine QM _ ρ _ _ _ ρ w.heap.size underlying22 f.l rfl ω u3 n (ZK ((d.take k).flatMap MQ)) ρ C.l ⟨wr.heap.size,0,none⟩ 2 2 [.int .u8 0,.int .u8 (j.size:Int)] ρ rfl (World.news_of_block (AW wr _)) (by intro u s;simp at s;rcases s with rfl|rfl<;>rfl) ξ (wr.heap.size+1) σ ?_;intro g y S E m O bI;have z:=Z E;have p:=Z (em (B.l.alloc cJ _).drew C.l m ξ);have N:S.cell? ⟨b,o+k*3,none⟩=some (.string j):=(p.l.cell (p:=⟨b,o+k*3,none⟩) q).j ((B.l.cell (p:=⟨b,o+k*3,none⟩) q).symm.j L);have I:=p.l.size;clear E m O))
     all_goals
      have dH:A.cell? ⟨b,o+k*3+1,none⟩=some (.string l):=(v.l.cell (p:=⟨b,o+k*3+1,none⟩) q).j ((B.l.cell (p:=⟨b,o+k*3+1,none⟩) q).symm.j cE);have eB:b<A.heap.size:=ω
      obtain⟨E,D⟩:∃m,m=n+2+j.size:=⟨_,rfl⟩;rw[<-D]at K;have cZ:E<=200000:=ω
      have cQ:=Z D;have O:=Z (K.l.alloc (.cells #[.int .u8 (l.size:Int)] 5));clear N L cE cU z p D;go_wp2_with fail
      go_region_law (first|(have U:=qd;refine rv ρ _ _ _ _ ρ w.heap.size 5 R underlying22 underlying9 f.l.1 f.l.2.1 f.l.2.2.1 f.l.2.2.2 _ (E+1) _ ρ N.l l ρ (by unfold maxLen;omega) ω cI ?_;intro v9 w9 F z;have cS:=Z F;have L:=Z (em m.l N.l z cI);have dU:=L.l.size;clear F z)|(refine QM _ ρ _ _ _ ρ w.heap.size underlying22 f.l rfl ω v5 E _ ρ O.l ⟨A.heap.size,0,none⟩ 1 1 [.int .u8 (l.size:Int)] ρ rfl (World.news_of_block (AW A _)) (by intro u s;simp at s;subst s;rfl) ξ (A.heap.size+1) σ ?_;intro g7 cT w7 D p bG cY;have N:=Z D;have m:=Z (em (v.l.alloc cH _).drew O.l p ξ);have qd:w7.cell? ⟨b,o+k*3+1,none⟩=some (.string l):=(m.l.cell (p:=⟨b,o+k*3+1,none⟩) q).j ((v.l.cell (p:=⟨b,o+k*3+1,none⟩) q).symm.j dH);have cI:=m.l.size;clear D p bG))
      all_goals
       go_wp2;refine⟨⟨k+1,ω,ν,?_,L.l⟩,by simp[intOf];omega⟩;rw[cC.l];have e:=cS.l;exact sN e (by rw[cQ.l,bY.l];simp[MQ,ME];omega) (by rw[ua,ua];simp[MQ,ZK])
   have p:k=d.length:=ω
   subst p;rw[DA]at t
   have n:0<(d.flatMap MQ).length:=by
    match d,hn with
    | x::r,_=>simp[MQ];split<;>simp<;>omega
   obtain⟨L,b⟩:∃L,Hid (L=d.flatMap MQ):=⟨_,Z rfl⟩;have o:Hid (QY d=strOfNums L):=by show _=_;rw[b.l];rfl
   rw[<-b.l]at t n;rcases MO t with ⟨_,u⟩|⟨g,y,rfl,q,s,l⟩
   ·omega
   have j:∀i,i<L.length->wr.cell? ⟨g,0+i,none⟩=some (.int .u8 (L.getD i 0)):=λi m=>by
    rw[BH];refine l.cell i _ ?_;unfold ZK;rw[List.getElem?_map,BQ m];simp[List.getD,m]
   have i:=ES (P:=prog) wr 22 5 underlying22 underlying5 g 0 L.length y L rfl j 9 underlying9;clear l t j;go_wp2;go_ret;exact⟨by rw[o.l];rfl,G⟩
