import Derived.Lib.AppendStr
import Derived.Test.YteflhojcomcfaaaGreatDoorPrG38
set_option maxHeartbeats 16000000
namespace Go.Proofs.YteflhojcomcfaaaGreatDoor
open Tryz
open Go.RowKit
set_option maxRecDepth 4000
set_option linter.all false
variable {size:Nat}{e:TypeId}{w:Q9}
theorem yj{P:Program}{g:Array Oper}{o:Oper}{a:Act}{K:Act->Q9->Prop}{Q:Exit->Act->Q9->Prop}{E:Prop}(y:o.guard=none)(j x:Operand)(t u:TypeId)
  (C:o.op=.call { callee:=.builtin .append,args:=#[j,x],argTypes:=#[t,u] })
  (b:Nat)(e:TypeId)(i:TypeInfo)(H:P.underlying t=some (.slice e))(I:P.underlying u=some .string)(B:P.info? e=some i)(M:i.zero=some (.int .u8 0))
  (m:i.size=1)(r:i.bytes=1)
  (v:Ra)(n:Nat)(f:List Ra)(F:a.eval j=v)(p:w.ownsRow b e 1 v n f)(s:Q4)(L:a.eval x=Ow s)
  (q:n+s.size<=maxLen)(k:n+s.size<=140737488355328)(l:b<=w.heap.size)
  (h:∀d c,c.ownsRow b e 1 d (n+s.size) (f++Lib.strCells s)->w.grownBy c v.ownBlock->K (a.put o.dst d) c):if Region.wanted o (yielded g a.tmps)=true then Oper.wp P o a w K Q else E:=by
 have J:Region.wanted o (yielded g a.tmps)=true:=by simp[Region.wanted,y]
 rw[G J];obtain⟨d,c,D,z,A,N⟩:=Lib.run_append_own_string (P:=P) w b t u o.type e i H I B M m r v n f p s q k l;unfold Oper.wp execOp;simp only[C,resolve,invoke,builtin,IF,IZ,IE,List.map_toArray,FY,JN,F,L,D];exact h d c z A
theorem infoByte:(prog.info? 5).map (λi=>(i.zero,i.size,i.bytes))=some (some (.int .u8 0),1,1):=h
theorem uz{P:Program}{z:Ra}{a:Nat}(h:(P.info? e).map (λi=>(i.zero,i.size,i.bytes))=some (some z,size,a)):∃i,P.info? e=some i/\i.zero=some z/\i.size=size/\i.bytes=a:=by
 obtain⟨i,c,b⟩:=EC.1 h;simp only[EK]at b;exact⟨i,c,b⟩
theorem ks{W b:Q9}{v:Ra}{n B:Nat}{g:List Ra}(c:Below B W w)(own:w.ownsRow B e size v n g)(a:w.grownBy b v.ownBlock)(h:B<=w.heap.size):Below B W b :=c.E ⟨a.os,a.tape,a.output,a.size,λk i=>a.block k d (λf=>by have:=(own.lt k f.symm).1;omega)⟩
theorem yB{a:Nat}{v:Ra}{n c:Nat}{d b:List Ra}(h:w.ownsRow a e size v n d)(f:n=c)(g:d=b):w.ownsRow a e size v c b:=by subst f g;exact h
def gj(l:List Int):List Ra:=l.map (Value.int .u8)
theorem mJ(s:Q4):Lib.strCells s=gj (LF s):=by simp[gj,LF,Lib.strCells]
theorem Ia(a:List (Q4×Q4×Bool))(h:∀x∈a,QK x=true):(a.flatMap OM).length<=123*a.length:=by have:=ym a h;unfold VJ at this;rwa [CY]at this
theorem Kl(a:List (Q4×Q4×Bool))(k:Nat)(x d:Q4×Q4×Bool)(h:k<a.length)(b:x=a.getD k d):(a.take (k+1)).flatMap OM=(a.take k).flatMap OM++OM x:=by
 rw[BJ h,List.flatMap_append];simp[List.getD,h]at b;rw[b];simp
theorem jz(a:Q5)(p:List (Q4×Q4×Bool))(c:Nat)(w:Q9)(h:Chs w a p)(hl:p.length<=1048576)(hs:∀l∈p,l.1.size<=1048576/\l.2.1.size<=1048576):Calls prog 176 #[Y a p.length c] w λe b=>e=Q2 (Ow (MN p))/\Q3 w b:=by
 unfold MN
 cases hok:PZ p with
 | false =>
  simp only[FD,JA];go_enter func176,ntmps176;go_wp2_with (go_at_call 173;refine(vg a p c _ h hl hs).J ?_;rw[hok];rintro e w2 ⟨rfl,O⟩);go_ret;exact⟨z,O⟩
 | true =>
  simp only[IV];obtain⟨hn,b⟩:=dr hok;have aQ:=LE b;clear b;obtain⟨X,b,V,W,g⟩:=uz infoByte;have q:=LE (AG b (AG V (AG W g)));clear b V W g;go_enter func176,ntmps176;go_wp2_with (go_at_call 173;refine(vg a p c _ h hl hs).J ?_;rw[hok];rintro e w2 ⟨rfl,O⟩);go_loopw [3,4] (λy i wr=>∃k:Nat,k<=p.length/\i=Z k/\wr.ownsRow w.heap.size 5 1 y ((p.take k).flatMap OM).length (gj ((p.take k).flatMap OM))/\Q3 w wr) (λ_ i _=>p.length-(intOf i).toNat)
  case atStart=>exact⟨0,AL,z,DH _ #[] 0 O.size j j,O.alloc O.size _⟩
  case round =>
   obtain⟨k,hk,rfl,B,N⟩:=hrel
   by_cases S:k<p.length
   .have v:=h.I N
    obtain⟨b,o,s,t,g2,rfl,R,bW,cM,u⟩:=v.at S;have lb:b<wr.heap.size:=by have:=DP wr _ R;simpa using this
    have y:b<w.heap.size:=by
     rcases h with h|⟨n,A,g,m,_⟩
     .subst h;simp at S
     cases g;exact m
    have hm:Hid ((s,t,g2)∈p):=by show _∈_;rw[u.j];simp[List.getD,S]
    have g:=aQ.j _ hm.j;have V:s.size<=255:=by simp[QK,QP,PA]at g;omega
    have W:t.size<=255:=by simp[QK,QP,PA]at g;omega
    have dB:IntKind.u8.wrap (s.size:Int)=(s.size:Int):=by simp[IntKind.wrap,IntKind.bits,IntKind.signed];omega
    have dF:IntKind.u8.wrap (t.size:Int)=(t.size:Int):=by simp[IntKind.wrap,IntKind.bits,IntKind.signed];omega
    have cH:=LE (Ia (p.take k) (λl m=>aQ.j l (DR m)));have bV:=LE (Kl p k _ _ S u.j);obtain⟨n,m⟩:=nMz (((p.take k).flatMap OM).length);have cY:n<=100000:=by have:=cH.j;rw[AZ]at this;omega
    have cO:(k:Int)<(p.length:Int):=d
    have cX:(0:Int)<=(k:Int):=d
    have cC:=N.size;have G:=LE N;rw[<-m]at B;have bR:=LE m;have aR:=LE B;clear B N g m v
    cases g2 with
    | true =>
     have H:=LE (aR.j.alloc (.cells #[.int .u8 1,.int .u8 (s.size:Int)] 5));go_wp2_with fail
     go_region_law (first|(have I:=T;refine yj f _ _ _ _ f w.heap.size 5 X underlying22 underlying9 q.j.1 q.j.2.1 q.j.2.2.1 q.j.2.2.2 _ (n+2) _ f E.j s f (by unfold maxLen;omega) d P ?_;intro v5 F M K;have Q:=LE M;have C:=LE (ks v.j E.j K P);have bZ:=C.j.size;clear M K)|(refine UG _ f _ _ _ f w.heap.size underlying22 q.j z d u3 n (gj ((p.take k).flatMap OM)) f H.j (Ki wr.heap.size 0) 2 2 [.int .u8 1,.int .u8 (s.size:Int)] f z (World.news_of_block (AV wr _)) (by intro m A;simp at A;rcases A with rfl|rfl<;>rfl) ξ (wr.heap.size+1) j ?_;intro g D x L J U bF;have E:=LE L;have v:=LE (ks (G.j.alloc cC _).drew H.j J ξ);have T:x.cell? (Ki b (o+k*3))=some (Ow s):=(v.j.cell (p:=(Ki b (o+k*3))) y).E ((G.j.cell (p:=(Ki b (o+k*3))) y).symm.E R);have P:=v.j.size;clear L J U))
     all_goals
      go_wp2;refine⟨⟨k+1,d,ν,?_,C.j⟩,by simp[intOf];omega⟩;rw[bV.j];have e:=Q.j;exact yB e (by rw[bR.j];simp[OM,NK];omega) (by rw[mJ];simp[OM,gj])
    | false =>
     have H:=LE (aR.j.alloc (.cells #[.int .u8 0,.int .u8 (s.size:Int)] 5));go_wp2_with fail
     go_region_law (first|(have I:=T;refine yj f _ _ _ _ f w.heap.size 5 X underlying22 underlying9 q.j.1 q.j.2.1 q.j.2.2.1 q.j.2.2.2 _ (n+2) _ f E.j s f (by unfold maxLen;omega) d P ?_;intro v5 F M K;have Q:=LE M;have C:=LE (ks v.j E.j K P);have bZ:=C.j.size;clear M K)|(refine UG _ f _ _ _ f w.heap.size underlying22 q.j z d u3 n (gj ((p.take k).flatMap OM)) f H.j (Ki wr.heap.size 0) 2 2 [.int .u8 0,.int .u8 (s.size:Int)] f z (World.news_of_block (AV wr _)) (by intro m A;simp at A;rcases A with rfl|rfl<;>rfl) ξ (wr.heap.size+1) j ?_;intro g D x L J U bF;have E:=LE L;have v:=LE (ks (G.j.alloc cC _).drew H.j J ξ);have T:x.cell? (Ki b (o+k*3))=some (Ow s):=(v.j.cell (p:=(Ki b (o+k*3))) y).E ((G.j.cell (p:=(Ki b (o+k*3))) y).symm.E R);have P:=v.j.size;clear L J U))
     all_goals
      have cS:F.cell? (Ki b (o+k*3+1))=some (Ow t):=(C.j.cell (p:=(Ki b (o+k*3+1))) y).E ((G.j.cell (p:=(Ki b (o+k*3+1))) y).symm.E bW);have dH:b<F.heap.size:=d
      obtain⟨K,J⟩:=nMz (n+2+s.size);rw[<-J]at Q;have cQ:K<=200000:=d
      have cI:=LE J;have U:=LE (Q.j.alloc (.cells #[.int .u8 (t.size:Int)] 5));clear T R bW cM E v J;go_wp2_with fail
      go_region_law (first|(have I:=qd;refine yj f _ _ _ _ f w.heap.size 5 X underlying22 underlying9 q.j.1 q.j.2.1 q.j.2.2.1 q.j.2.2.2 _ (K+1) _ f T.j t f (by unfold maxLen;omega) d cA ?_;intro v9 w9 M J;have cJ:=LE M;have R:=LE (ks v.j T.j J cA);have cZ:=R.j.size;clear M J)|(refine UG _ f _ _ _ f w.heap.size underlying22 q.j z d v5 K _ f U.j (Ki F.heap.size 0) 1 1 [.int .u8 (t.size:Int)] f z (World.news_of_block (AV F _)) (by intro m A;simp at A;subst A;rfl) ξ (F.heap.size+1) j ?_;intro g7 cL w7 L E bC cP;have T:=LE L;have v:=LE (ks (C.j.alloc bZ _).drew U.j E ξ);have qd:w7.cell? (Ki b (o+k*3+1))=some (Ow t):=(v.j.cell (p:=(Ki b (o+k*3+1))) y).E ((C.j.cell (p:=(Ki b (o+k*3+1))) y).symm.E cS);have cA:=v.j.size;clear L E bC))
      all_goals
       go_wp2;refine⟨⟨k+1,d,ν,?_,R.j⟩,by simp[intOf];omega⟩;rw[bV.j];have e:=cJ.j;exact yB e (by rw[cI.j,bR.j];simp[OM,NK];omega) (by rw[mJ,mJ];simp[OM,gj])
   have t:k=p.length:=d
   subst t;rw[DG]at B
   have o:0<(p.flatMap OM).length:=by
    match p,hn with
    | l::r,_=>simp[OM];split<;>simp<;>omega
   obtain⟨L,b⟩:=nHz (p.flatMap OM);have s:Hid (VJ p=strOfNums L):=by show _=_;rw[b.j];rfl
   rw[<-b.j]at B o;rcases MS B with ⟨_,A⟩|⟨g,D,rfl,v,y,m⟩
   .omega
   have l:∀i,i<L.length->wr.cell? (Ki g (0+i))=some (.int .u8 (L.getD i 0)):=λi n=>by
    rw[BK];refine m.cell i _ ?_;unfold gj;rw[FO,AO n];simp[List.getD,n]
   have i:=EO (P:=prog) wr 22 5 underlying22 underlying5 g 0 L.length D L z l 9 underlying9;clear m B l;go_wp2;go_ret;exact⟨by rw[s.j];rfl,N⟩
