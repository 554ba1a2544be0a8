import Derived.Lib.AppendStr
import Derived.Test.YtkdedmclofhndaaGreatDoorPrG38
set_option maxHeartbeats 16000000
namespace Go.Proofs.YtkdedmclofhndaaGreatDoor
open Tryz
open Go.RowKit
set_option maxRecDepth 4000
set_option linter.all false
variable {size:Nat}{e:TypeId}{w:xV}
theorem sq{P:Program}{g:Array Oper}{o:Oper}{a:Act}{K:Act->xV->Prop}{Q:Exit->Act->xV->Prop}{E:Prop}(y:o.guard=none)(j x:Operand)(t u:TypeId)
  (C:o.op=.call { callee:=.builtin .append,args:=#[j,x],argTypes:=#[t,u] })
  (b:Nat)(e:TypeId)(i:TypeInfo)(G:P.underlying t=some (.slice e))(H:P.underlying u=some .string)(B:P.info? e=some i)(L:i.zero=some (.int .u8 0))
  (m:i.size=1)(r:i.bytes=1)
  (v:qD)(n:Nat)(f:List qD)(F:a.eval j=v)(p:w.ownsRow b e 1 v n f)(s:yZ)(J:a.eval x=yQ s)
  (q:n+s.size<=maxLen)(k:n+s.size<=140737488355328)(l:b<=w.heap.size)
  (h:∀d c,c.ownsRow b e 1 d (n+s.size) (f++Lib.strCells s)->w.grownBy c v.ownBlock->K (a.put o.dst d) c):if Region.wanted o (yielded g a.tmps)=true then Oper.wp P o a w K Q else E:=by
 have I:Region.wanted o (yielded g a.tmps)=true:=by simp[Region.wanted,y]
 rw[AI I];obtain⟨d,c,D,z,A,M⟩:=Lib.run_append_own_string (P:=P) w b t u o.type e i G H B L m r v n f p s q k l;unfold Oper.wp execOp;simp only[C,resolve,invoke,builtin,IC,IZ,IB,List.map_toArray,FU,JN,F,J,D];exact h d c z A
theorem infoByte:(prog.info? 5).map (λi=>(i.zero,i.size,i.bytes))=some (some (.int .u8 0),1,1):=κ
theorem pe{P:Program}{z:qD}{a:Nat}(h:(P.info? e).map (λi=>(i.zero,i.size,i.bytes))=some (some z,size,a)):∃i,P.info? e=some i/\i.zero=some z/\i.size=size/\i.bytes=a:=by
 obtain⟨i,c,b⟩:=DZ.1 h;simp only[EJ]at b;exact⟨i,c,b⟩
theorem dz{W b:xV}{v:qD}{n B:Nat}{f:List qD}(c:Below B W w)(own:w.ownsRow B e size v n f)(a:w.grownBy b v.ownBlock)(g:B<=w.heap.size):Below B W b :=c.E ⟨a.os,a.tape,a.output,a.size,λk h=>a.block k ω (λd=>by have:=(own.lt k d.symm).1;omega)⟩
theorem vA{a:Nat}{v:qD}{n c:Nat}{d b:List qD}(h:w.ownsRow a e size v n d)(f:n=c)(g:d=b):w.ownsRow a e size v c b:=by subst f g;exact h
def ZE(l:List Int):List qD:=l.map (Value.int .u8)
theorem ur(s:yZ):Lib.strCells s=ZE (LF s):=by simp[ZE,LF,Lib.strCells]
theorem Fx(a:List (yZ×yZ×Bool))(h:∀x∈a,OX x=true):(a.flatMap NN).length<=123*a.length:=by have:=sw a h;unfold ST at this;rwa [CY]at this
theorem It(a:List (yZ×yZ×Bool))(k:Nat)(x d:yZ×yZ×Bool)(h:k<a.length)(b:x=a.getD k d):(a.take (k+1)).flatMap NN=(a.take k).flatMap NN++NN x:=by
 rw[BH h,List.flatMap_append];simp[List.getD,h]at b;rw[b];simp
theorem cw(a:xA)(d:List (yZ×yZ×Bool))(c:Nat)(w:xV)(h:Chs w a d)(hl:d.length<=1048576)(hs:∀x∈d,x.1.size<=1048576/\x.2.1.size<=1048576):Calls prog 139 #[yI a d.length c] w λe b=>e=yT (yQ (MA d))/\yX w b:=by
 unfold MA
 cases hok:OM d with
 | false =>
  simp only[FA,JA];go_enter func139,ntmps139;go_wp2_with (go_at_call 136;refine(pi a d c _ h hl hs).J ?_;rw[hok];rintro e w2 ⟨rfl,H⟩);go_ret;exact⟨rfl,H⟩
 | true =>
  simp only[IU];obtain⟨hn,b⟩:=XW hok;have U:=Y b;clear b;obtain⟨Q,b,O,P,g⟩:=pe infoByte;have f:=Y (AG b (AG O (AG P g)));clear b O P g;go_enter func139,ntmps139;go_wp2_with (go_at_call 136;refine(pi a d c _ h hl hs).J ?_;rw[hok];rintro e w2 ⟨rfl,H⟩);go_loopw [3,4] (λy i wr=>∃k:Nat,k<=d.length/\i=Z k/\wr.ownsRow w.heap.size 5 1 y ((d.take k).flatMap NN).length (ZE ((d.take k).flatMap NN))/\yX w wr) (λ_ i _=>d.length-(intOf i).toNat)
  case atStart=>exact⟨0,AL _,rfl,DG _ #[] 0 H.size σ σ,H.alloc H.size _⟩
  case round =>
   obtain⟨k,hk,rfl,t,G⟩:=hrel
   by_cases M:k<d.length
   ·have p:=h.I G
    obtain⟨b,o,j,l,g2,rfl,K,bW,cM,S⟩:=p.at M;have lb:b<wr.heap.size:=by have:=DQ wr _ K;simpa using this
    have q:b<w.heap.size:=by
     rcases h with h|⟨n,s,g,m,_⟩
     ·subst h;simp at M
     cases g;exact m
    have hm:Hid ((j,l,g2)∈d):=by show _∈_;rw[S.j];simp[List.getD,M]
    have g:=U.j _ hm.j;have O:j.size<=255:=by simp[OX,PC,OB]at g;omega
    have P:l.size<=255:=by simp[OX,PC,OB]at g;omega
    have dB:IntKind.u8.wrap (j.size:Int)=(j.size:Int):=by simp[IntKind.wrap,IntKind.bits,IntKind.signed];omega
    have dF:IntKind.u8.wrap (l.size:Int)=(l.size:Int):=by simp[IntKind.wrap,IntKind.bits,IntKind.signed];omega
    have cH:=Y (Fx (d.take k) (λx m=>U.j x (DM m)));have X:=Y (It d k _ _ M S.j);obtain⟨n,m⟩:∃n,n=((d.take k).flatMap NN).length:=⟨_,rfl⟩;have cY:n<=100000:=by have:=cH.j;rw[AX]at this;omega
    have cO:(k:Int)<(d.length:Int):=ω
    have cX:(0:Int)<=(k:Int):=ω
    have cC:=G.size;have B:=Y G;rw[<-m]at t;have W:=Y m;have V:=Y t;clear t G g m p
    cases g2 with
    | true =>
     have C:=Y (V.j.alloc (.cells #[.int .u8 1,.int .u8 (j.size:Int)] 5));go_wp2_with fail
     go_region_law (first|(have T:=L;refine sq ρ _ _ _ _ ρ w.heap.size 5 Q underlying24 underlying9 f.j.1 f.j.2.1 f.j.2.2.1 f.j.2.2.2 _ (n+2) _ ρ z.j j ρ (by unfold maxLen;omega) ω I ?_;intro v5 A F D;have J:=Y F;have v:=Y (dz p.j z.j D I);have bZ:=v.j.size;clear F D)|(refine RP _ ρ _ _ _ ρ w.heap.size underlying24 f.j rfl ω u3 n (ZE ((d.take k).flatMap NN)) ρ C.j (yA wr.heap.size 0) 2 2 [.int .u8 1,.int .u8 (j.size:Int)] ρ rfl (World.news_of_block (AU wr _)) (by intro u s;simp at s;rcases s with rfl|rfl<;>rfl) ξ (wr.heap.size+1) σ ?_;intro g y R E m N bF;have z:=Y E;have p:=Y (dz (B.j.alloc cC _).drew C.j m ξ);have L:R.cell? (yA b (o+k*3))=some (yQ j):=(p.j.cell (p:=(yA b (o+k*3))) q).E ((B.j.cell (p:=(yA b (o+k*3))) q).symm.E K);have I:=p.j.size;clear E m N))
     all_goals
      go_wp2;refine⟨⟨k+1,ω,ν,?_,v.j⟩,by simp[intOf];omega⟩;rw[X.j];have e:=J.j;exact vA e (by rw[W.j];simp[NN,MR];omega) (by rw[ur];simp[NN,ZE])
    | false =>
     have C:=Y (V.j.alloc (.cells #[.int .u8 0,.int .u8 (j.size:Int)] 5));go_wp2_with fail
     go_region_law (first|(have T:=L;refine sq ρ _ _ _ _ ρ w.heap.size 5 Q underlying24 underlying9 f.j.1 f.j.2.1 f.j.2.2.1 f.j.2.2.2 _ (n+2) _ ρ z.j j ρ (by unfold maxLen;omega) ω I ?_;intro v5 A F D;have J:=Y F;have v:=Y (dz p.j z.j D I);have bZ:=v.j.size;clear F D)|(refine RP _ ρ _ _ _ ρ w.heap.size underlying24 f.j rfl ω u3 n (ZE ((d.take k).flatMap NN)) ρ C.j (yA wr.heap.size 0) 2 2 [.int .u8 0,.int .u8 (j.size:Int)] ρ rfl (World.news_of_block (AU wr _)) (by intro u s;simp at s;rcases s with rfl|rfl<;>rfl) ξ (wr.heap.size+1) σ ?_;intro g y R E m N bF;have z:=Y E;have p:=Y (dz (B.j.alloc cC _).drew C.j m ξ);have L:R.cell? (yA b (o+k*3))=some (yQ j):=(p.j.cell (p:=(yA b (o+k*3))) q).E ((B.j.cell (p:=(yA b (o+k*3))) q).symm.E K);have I:=p.j.size;clear E m N))
     all_goals
      have cS:A.cell? (yA b (o+k*3+1))=some (yQ l):=(v.j.cell (p:=(yA b (o+k*3+1))) q).E ((B.j.cell (p:=(yA b (o+k*3+1))) q).symm.E bW);have dH:b<A.heap.size:=ω
      obtain⟨E,D⟩:∃m,m=n+2+j.size:=⟨_,rfl⟩;rw[<-D]at J;have cQ:E<=200000:=ω
      have cI:=Y D;have N:=Y (J.j.alloc (.cells #[.int .u8 (l.size:Int)] 5));clear L K bW cM z p D;go_wp2_with fail
      go_region_law (first|(have T:=qd;refine sq ρ _ _ _ _ ρ w.heap.size 5 Q underlying24 underlying9 f.j.1 f.j.2.1 f.j.2.2.1 f.j.2.2.2 _ (E+1) _ ρ L.j l ρ (by unfold maxLen;omega) ω cA ?_;intro v9 w9 F z;have cJ:=Y F;have K:=Y (dz m.j L.j z cA);have cZ:=K.j.size;clear F z)|(refine RP _ ρ _ _ _ ρ w.heap.size underlying24 f.j rfl ω v5 E _ ρ N.j (yA A.heap.size 0) 1 1 [.int .u8 (l.size:Int)] ρ rfl (World.news_of_block (AU A _)) (by intro u s;simp at s;subst s;rfl) ξ (A.heap.size+1) σ ?_;intro g7 cL w7 D p bC cP;have L:=Y D;have m:=Y (dz (v.j.alloc bZ _).drew N.j p ξ);have qd:w7.cell? (yA b (o+k*3+1))=some (yQ l):=(m.j.cell (p:=(yA b (o+k*3+1))) q).E ((v.j.cell (p:=(yA b (o+k*3+1))) q).symm.E cS);have cA:=m.j.size;clear D p bC))
      all_goals
       go_wp2;refine⟨⟨k+1,ω,ν,?_,K.j⟩,by simp[intOf];omega⟩;rw[X.j];have e:=cJ.j;exact vA e (by rw[cI.j,W.j];simp[NN,MR];omega) (by rw[ur,ur];simp[NN,ZE])
   have p:k=d.length:=ω
   subst p;rw[DF]at t
   have n:0<(d.flatMap NN).length:=by
    match d,hn with
    | x::r,_=>simp[NN];split<;>simp<;>omega
   obtain⟨L,b⟩:∃L,Hid (L=d.flatMap NN):=⟨_,Y rfl⟩;have o:Hid (ST d=strOfNums L):=by show _=_;rw[b.j];rfl
   rw[<-b.j]at t n;rcases MC t with ⟨_,u⟩|⟨g,y,rfl,q,s,l⟩
   ·omega
   have j:∀i,i<L.length->wr.cell? (yA g (0+i))=some (.int .u8 (L.getD i 0)):=λi m=>by
    rw[BK];refine l.cell i _ ?_;unfold ZE;rw[FL,AO m];simp[List.getD,m]
   have i:=ES (P:=prog) wr 24 5 underlying24 underlying5 g 0 L.length y L rfl j 9 underlying9;clear l t j;go_wp2;go_ret;exact⟨by rw[o.j];rfl,G⟩
