import Derived.Lib.AppendStr
import Derived.Test.YtmlejnbjclkdjaaGreatDoorPrG44
set_option maxHeartbeats 16000000
namespace Go.Proofs.YtmlejnbjclkdjaaGreatDoor
open Tryz
open Go.RowKit
set_option maxRecDepth 4000
set_option linter.all false
variable {size:Nat}{e:TypeId}{w:Nb}
theorem rf{P:Program}{g:Array Oper}{o:Oper}{a:Act}{K:Act->Nb->Prop}{Q:Exit->Act->Nb->Prop}{E:Prop}(y:o.guard=none)(j x:Operand)(t u:TypeId)
  (C:o.op=.call { callee:=.builtin .append,args:=#[j,x],argTypes:=#[t,u] })
  (b:Nat)(e:TypeId)(i:TypeInfo)(G:P.underlying t=some (.slice e))(H:P.underlying u=some .string)(B:P.info? e=some i)(L:i.zero=some (.int .u8 0))
  (m:i.size=1)(r:i.bytes=1)
  (v:Nc)(n:Nat)(f:List Nc)(F:a.eval j=v)(p:w.ownsRow b e 1 v n f)(s:Y)(J:a.eval x=Mz s)
  (q:n+s.size<=maxLen)(k:n+s.size<=140737488355328)(l:b<=w.heap.size)
  (h:∀d c,c.ownsRow b e 1 d (n+s.size) (f++Lib.strCells s)->w.grownBy c v.ownBlock->K (a.put o.dst d) c):if Region.wanted o (yielded g a.tmps)=true then Oper.wp P o a w K Q else E:=by
 have I:Region.wanted o (yielded g a.tmps)=true:=by simp[Region.wanted,y]
 rw[AE I];obtain⟨d,c,D,z,A,M⟩:=Lib.run_append_own_string (P:=P) w b t u o.type e i G H B L m r v n f p s q k l;unfold Oper.wp execOp;simp only[C,resolve,invoke,builtin,IF,JK,IP,List.map_toArray,IK,KS,F,J,D];exact h d c z A
theorem infoByte:(prog.info? 5).map (λi=>(i.zero,i.size,i.bytes))=some (some (.int .u8 0),1,1):=κ
theorem Je{P:Program}{z:Nc}{a:Nat}(h:(P.info? e).map (λi=>(i.zero,i.size,i.bytes))=some (some z,size,a)):∃i,P.info? e=some i/\i.zero=some z/\i.size=size/\i.bytes=a:=by
 obtain⟨i,c,b⟩:=EZ.1 h;simp only[BV]at b;exact⟨i,c,b⟩
theorem ea{W b:Nb}{v:Nc}{n B:Nat}{f:List Nc}(c:Below B W w)(own:w.ownsRow B e size v n f)(a:w.grownBy b v.ownBlock)(g:B<=w.heap.size):Below B W b :=c.j ⟨a.os,a.tape,a.output,a.size,λk h=>a.block k ω (λd=>by have:=(own.lt k d.symm).1;omega)⟩
theorem sS{a:Nat}{v:Nc}{n c:Nat}{d b:List Nc}(h:w.ownsRow a e size v n d)(f:n=c)(g:d=b):w.ownsRow a e size v c b:=by subst f g;exact h
def YZ(l:List Int):List Nc:=l.map (Value.int .u8)
theorem tq(s:Y):Lib.strCells s=YZ (LI s):=by simp[YZ,LI,Lib.strCells]
theorem Cp(a:List (Y×Y×Bool))(h:∀x∈a,PJ x=true):(a.flatMap NV).length<=123*a.length:=by have:=rn a h;unfold SC at this;rwa [CJ]at this
theorem Fu(a:List (Y×Y×Bool))(k:Nat)(x d:Y×Y×Bool)(h:k<a.length)(b:x=a.getD k d):(a.take (k+1)).flatMap NV=(a.take k).flatMap NV++NV x:=by
 rw[AY h,List.flatMap_append];simp[List.getD,h]at b;rw[b];simp
theorem cw(a:M6)(d:List (Y×Y×Bool))(c:Nat)(w:Nb)(h:Chs w a d)(hl:d.length<=1048576)(hs:∀x∈d,x.1.size<=1048576/\x.2.1.size<=1048576):Calls prog 135 #[.slice a d.length c] w λe b=>e=M3 (Mz (LT d))/\Below w.heap.size w b:=by
 unfold LT
 cases hok:PA d with
 | false =>
  simp only[FH,IS];go_enter func135,ntmps135;go_wp2_with (go_at_call 187;refine(nh a d c _ h hl hs).z ?_;rw[hok];rintro e w2 ⟨rfl,H⟩);go_ret;exact⟨rfl,H⟩
 | true =>
  simp only[IH];obtain⟨hn,b⟩:=WR hok;have U:=Z b;clear b;obtain⟨Q,b,O,P,g⟩:=Je infoByte;have f:=Z (AH b (AH O (AH P g)));clear b O P g;go_enter func135,ntmps135;go_wp2_with (go_at_call 187;refine(nh a d c _ h hl hs).z ?_;rw[hok];rintro e w2 ⟨rfl,H⟩);go_loopw [3,4] (λy i wr=>∃k:Nat,k<=d.length/\i=.int .i64 k/\wr.ownsRow w.heap.size 5 1 y ((d.take k).flatMap NV).length (YZ ((d.take k).flatMap NV))/\Below w.heap.size w wr) (λ_ i _=>d.length-(intOf i).toNat)
  case atStart=>exact⟨0,AM _,rfl,DT _ #[] 0 H.size σ σ,H.alloc H.size _⟩
  case round =>
   obtain⟨k,hk,rfl,t,G⟩:=hrel
   by_cases M:k<d.length
   ·have p:=h.I G
    obtain⟨b,o,j,l,g2,rfl,K,W,cN,S⟩:=p.at M;have lb:b<wr.heap.size:=by have:=DM wr _ K;simpa using this
    have q:b<w.heap.size:=by
     rcases h with h|⟨n,s,g,m,_⟩
     ·subst h;simp at M
     cases g;exact m
    have hm:Hid ((j,l,g2)∈d):=by show _∈_;rw[S.l];simp[List.getD,M]
    have g:=U.l _ hm.l;have O:j.size<=255:=by simp[PJ,QD,PE]at g;omega
    have P:l.size<=255:=by simp[PJ,QD,PE]at g;omega
    have dM:IntKind.u8.wrap (j.size:Int)=(j.size:Int):=by simp[IntKind.wrap,IntKind.bits,IntKind.signed];omega
    have dN:IntKind.u8.wrap (l.size:Int)=(l.size:Int):=by simp[IntKind.wrap,IntKind.bits,IntKind.signed];omega
    have cI:=Z (Cp (d.take k) (λx m=>U.l x (DE m)));have bZ:=Z (Fu d k _ _ M S.l);obtain⟨n,m⟩:∃n,n=((d.take k).flatMap NV).length:=⟨_,rfl⟩;have dH:n<=100000:=by have:=cI.l;rw[AP]at this;omega
    have cP:(k:Int)<(d.length:Int):=ω
    have cZ:(0:Int)<=(k:Int):=ω
    have cE:=G.size;have B:=Z G;rw[<-m]at t;have X:=Z m;have V:=Z t;clear t G g m p
    cases g2 with
    | true =>
     have C:=Z (V.l.alloc (.cells #[.int .u8 1,.int .u8 (j.size:Int)] 5));go_wp2_with fail
     go_region_law (first|(have T:=L;refine rf ρ _ _ _ _ ρ w.heap.size 5 Q underlying22 underlying9 f.l.1 f.l.2.1 f.l.2.2.1 f.l.2.2.2 _ (n+2) _ ρ z.l j ρ (by unfold maxLen;omega) ω I ?_;intro v5 A F D;have J:=Z F;have v:=Z (ea p.l z.l D I);have cB:=v.l.size;clear F D)|(refine SI _ ρ _ _ _ ρ w.heap.size underlying22 f.l rfl ω u3 n (YZ ((d.take k).flatMap NV)) ρ C.l ⟨wr.heap.size,0,none⟩ 2 2 [.int .u8 1,.int .u8 (j.size:Int)] ρ rfl (World.news_of_block (AU wr _)) (by intro u s;simp at s;rcases s with rfl|rfl<;>rfl) ξ (wr.heap.size+1) σ ?_;intro g y R E m N bH;have z:=Z E;have p:=Z (ea (B.l.alloc cE _).drew C.l m ξ);have L:R.cell? ⟨b,o+k*3,none⟩=some (Mz j):=(p.l.cell (p:=⟨b,o+k*3,none⟩) q).j ((B.l.cell (p:=⟨b,o+k*3,none⟩) q).symm.j K);have I:=p.l.size;clear E m N))
     all_goals
      go_wp2;refine⟨⟨k+1,ω,ν,?_,v.l⟩,by simp[intOf];omega⟩;rw[bZ.l];have e:=J.l;exact sS e (by rw[X.l];simp[NV,NH];omega) (by rw[tq];simp[NV,YZ])
    | false =>
     have C:=Z (V.l.alloc (.cells #[.int .u8 0,.int .u8 (j.size:Int)] 5));go_wp2_with fail
     go_region_law (first|(have T:=L;refine rf ρ _ _ _ _ ρ w.heap.size 5 Q underlying22 underlying9 f.l.1 f.l.2.1 f.l.2.2.1 f.l.2.2.2 _ (n+2) _ ρ z.l j ρ (by unfold maxLen;omega) ω I ?_;intro v5 A F D;have J:=Z F;have v:=Z (ea p.l z.l D I);have cB:=v.l.size;clear F D)|(refine SI _ ρ _ _ _ ρ w.heap.size underlying22 f.l rfl ω u3 n (YZ ((d.take k).flatMap NV)) ρ C.l ⟨wr.heap.size,0,none⟩ 2 2 [.int .u8 0,.int .u8 (j.size:Int)] ρ rfl (World.news_of_block (AU wr _)) (by intro u s;simp at s;rcases s with rfl|rfl<;>rfl) ξ (wr.heap.size+1) σ ?_;intro g y R E m N bH;have z:=Z E;have p:=Z (ea (B.l.alloc cE _).drew C.l m ξ);have L:R.cell? ⟨b,o+k*3,none⟩=some (Mz j):=(p.l.cell (p:=⟨b,o+k*3,none⟩) q).j ((B.l.cell (p:=⟨b,o+k*3,none⟩) q).symm.j K);have I:=p.l.size;clear E m N))
     all_goals
      have cT:A.cell? ⟨b,o+k*3+1,none⟩=some (Mz l):=(v.l.cell (p:=⟨b,o+k*3+1,none⟩) q).j ((B.l.cell (p:=⟨b,o+k*3+1,none⟩) q).symm.j W);have dP:b<A.heap.size:=ω
      obtain⟨E,D⟩:∃m,m=n+2+j.size:=⟨_,rfl⟩;rw[<-D]at J;have cS:E<=200000:=ω
      have cJ:=Z D;have N:=Z (J.l.alloc (.cells #[.int .u8 (l.size:Int)] 5));clear L K W cN z p D;go_wp2_with fail
      go_region_law (first|(have T:=qd;refine rf ρ _ _ _ _ ρ w.heap.size 5 Q underlying22 underlying9 f.l.1 f.l.2.1 f.l.2.2.1 f.l.2.2.2 _ (E+1) _ ρ L.l l ρ (by unfold maxLen;omega) ω W ?_;intro v9 w9 F z;have cL:=Z F;have K:=Z (ea m.l L.l z W);have dL:=K.l.size;clear F z)|(refine SI _ ρ _ _ _ ρ w.heap.size underlying22 f.l rfl ω v5 E _ ρ N.l ⟨A.heap.size,0,none⟩ 1 1 [.int .u8 (l.size:Int)] ρ rfl (World.news_of_block (AU A _)) (by intro u s;simp at s;subst s;rfl) ξ (A.heap.size+1) σ ?_;intro g7 cM w7 D p bE cQ;have L:=Z D;have m:=Z (ea (v.l.alloc cB _).drew N.l p ξ);have qd:w7.cell? ⟨b,o+k*3+1,none⟩=some (Mz l):=(m.l.cell (p:=⟨b,o+k*3+1,none⟩) q).j ((v.l.cell (p:=⟨b,o+k*3+1,none⟩) q).symm.j cT);have W:=m.l.size;clear D p bE))
      all_goals
       go_wp2;refine⟨⟨k+1,ω,ν,?_,K.l⟩,by simp[intOf];omega⟩;rw[bZ.l];have e:=cL.l;exact sS e (by rw[cJ.l,X.l];simp[NV,NH];omega) (by rw[tq,tq];simp[NV,YZ])
   have p:k=d.length:=ω
   subst p;rw[CW]at t
   have n:0<(d.flatMap NV).length:=by
    match d,hn with
    | x::r,_=>simp[NV];split<;>simp<;>omega
   obtain⟨L,b⟩:∃L,Hid (L=d.flatMap NV):=⟨_,Z rfl⟩;have o:Hid (SC d=strOfNums L):=by show _=_;rw[b.l];rfl
   rw[<-b.l]at t n;rcases NU t with ⟨_,u⟩|⟨g,y,rfl,q,s,l⟩
   ·omega
   have j:∀i,i<L.length->wr.cell? ⟨g,0+i,none⟩=some (.int .u8 (L.getD i 0)):=λi m=>by
    rw[BG];refine l.cell i _ ?_;unfold YZ;rw[JI,BQ m];simp[List.getD,m]
   have i:=FO (P:=prog) wr 22 5 underlying22 underlying5 g 0 L.length y L rfl j 9 underlying9;clear l t j;go_wp2;go_ret;exact⟨by rw[o.l];rfl,G⟩
