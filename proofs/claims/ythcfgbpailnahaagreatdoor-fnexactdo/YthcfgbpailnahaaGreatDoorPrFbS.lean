import Derived.Lib.AppendStr
import Derived.Test.YthcfgbpailnahaaGreatDoorPrG42
set_option maxHeartbeats 16000000
namespace Go.Proofs.YthcfgbpailnahaaGreatDoor
open Tryz
open Go.RowKit
set_option maxRecDepth 4000
set_option linter.all false
variable {size:Nat}{e:TypeId}{w:World}
def kf{P:Program}{aE:Array Oper}{o:Oper}{a:Act}{K:Act->World->Prop}{Q:Exit->Act->World->Prop}{E:Prop}(aH:o.guard=none)(sl x:Operand)(t u:TypeId)
  (ho:o.op=.call { callee:=.builtin .append,args:=#[sl,x],argTypes:=#[t,u] })
  (base:Nat)(e:TypeId)(i:TypeInfo)(ht:P.underlying t=some (.slice e))(hu:P.underlying u=some .string)(hi:P.info? e=some i)(hz:i.zero=some (.int .u8 0))
  (aC:i.size=1)(aG:i.bytes=1)
  (v:Value)(n:Nat)(xs:List Value)(hs:a.eval sl=v)(aD:w.ownsRow base e 1 v n xs)(s:ByteArray)(hx:a.eval x=.string s)
  (aF:n+s.size<=maxLen)(aA:n+s.size<=140737488355328)(aB:base<=w.heap.size)
  (h:∀v' w',w'.ownsRow base e 1 v' (n+s.size) (xs++Lib.strCells s)->w.grownBy w' v.ownBlock->K (a.put o.dst v') w'):if Region.wanted o (yielded aE a.tmps)=true then Oper.wp P o a w K Q else E:=by
 have hw:Region.wanted o (yielded aE a.tmps)=true:=by simp[Region.wanted,aH]
 rw[AK hw];obtain⟨v',w',hr,h2,h3,h4⟩:=Lib.run_append_own_string (P:=P) w base t u o.type e i ht hu hi hz aC aG v n xs aD s aF aA aB;unfold Oper.wp execOp;simp only[ho,resolve,invoke,builtin,GY,JK,IJ,List.map_toArray,FD,IU,hs,hx,hr];exact h v' w' h2 h3
def infoByte:(prog.info? 5).map (λi=>(i.zero,i.size,i.bytes))=some (some (.int .u8 0),1,1):=by kernel_rfl
def E9{P:Program}{z:Value}{aA:Nat}(h:(P.info? e).map (λi=>(i.zero,i.size,i.bytes))=some (some z,size,aA)):∃i,P.info? e=some i/\i.zero=some z/\i.size=size/\i.bytes=aA:=by
 obtain⟨i,hi,hh⟩:=EF.1 h;simp only[EA]at hh;exact⟨i,hi,hh⟩
def ZJ{W w1:World}{v:Value}{n B:Nat}{xs:List Value}(hb:Below B W w)(own:w.ownsRow B e size v n xs)(hg:w.grownBy w1 v.ownBlock)(hB:B<=w.heap.size):Below B W w1 :=hb.j ⟨hg.os,hg.tape,hg.output,hg.size,λk hk=>hg.block k (by omega) (λhe=>by have:=(own.lt k he.symm).1;omega)⟩
def nT{base:Nat}{v:Value}{n n':Nat}{xs aA:List Value}(h:w.ownsRow base e size v n xs)(hn:n=n')(hx:xs=aA):w.ownsRow base e size v n' aA:=by subst hn hx;exact h
def XA(l:List Int):List Value:=l.map (Value.int .u8)
def mo(s:ByteArray):Lib.strCells s=XA (LF s):=by simp[XA,LF,Lib.strCells]
def xV(rs:List (ByteArray×ByteArray×Bool))(h:∀x∈rs,OE x=true):(rs.flatMap MZ).length<=123*rs.length:=by have:=kj rs h;unfold RA at this;rwa [BS]at this
def Bf(rs:List (ByteArray×ByteArray×Bool))(k:Nat)(x d:ByteArray×ByteArray×Bool)(h:k<rs.length)(hx:x=rs.getD k d):(rs.take (k+1)).flatMap MZ=(rs.take k).flatMap MZ++MZ x:=by
 rw[AQ h,List.flatMap_append];simp[List.getD,h]at hx;rw[hx];simp
def YW(a:Option Addr)(rs:List (ByteArray×ByteArray×Bool))(c:Nat)(w:World)(h:Chs w a rs)(hl:rs.length<=1048576)(hs:∀x∈rs,x.1.size<=1048576/\x.2.1.size<=1048576):Calls prog 148 #[.slice a rs.length c] w λe w'=>e=.returned (.string (LX rs))/\Below w.heap.size w w':=by
 unfold LX
 cases hok:OA rs with
 | false =>
  simp only[EJ,IX];go_enter func148,ntmps148;go_wp2_with (go_at_call 156;refine(io a rs c _ h hl hs).i ?_;rw[hok];rintro e w2 ⟨rfl,aT⟩);go_ret;exact⟨rfl,aT⟩
 | true =>
  simp only[IK];obtain⟨hn,aS⟩:=VQ hok;have aQ:=LE aS;clear aS;obtain⟨i1,cE,bT,bU,cJ⟩:=E9 infoByte;have HI:=LE (AG cE (AG bT (AG bU cJ)));clear cE bT bU cJ;go_enter func148,ntmps148;go_wp2_with (go_at_call 156;refine(io a rs c _ h hl hs).i ?_;rw[hok];rintro e w2 ⟨rfl,aT⟩);go_loopw [3,4] (λy i wr=>∃k:Nat,k<=rs.length/\i=.int .i64 k/\wr.ownsRow w.heap.size 5 1 y ((rs.take k).flatMap MZ).length (XA ((rs.take k).flatMap MZ))/\Below w.heap.size w wr) (λ_ i _=>rs.length-(intOf i).toNat)
  case atStart=>exact⟨0,AH _,rfl,DM _ #[] 0 aT.size (by simp) (by simp),aT.alloc aT.size _⟩
  case round =>
   obtain⟨k,hk,rfl,aE,aF⟩:=hrel
   by_cases aZ:k<rs.length
   ·have aU:=h.I aF
    obtain⟨b,o,s0,s1,g2,rfl,aY,cC,cQ,HS⟩:=aU.at aZ;have lb:b<wr.heap.size:=by have:=BE wr _ aY;simpa using this
    have aK:b<w.heap.size:=by
     rcases h with h|⟨b',o',h1,h2,_⟩
     ·subst h;simp at aZ
     cases h1;exact h2
    have hm:Hid ((s0,s1,g2)∈rs):=by show _∈_;rw[HS.o];simp[List.getD,aZ]
    have bF:=aQ.o _ hm.o;have bT:s0.size<=255:=by simp[OE,OG,NN]at bF;omega
    have bU:s1.size<=255:=by simp[OE,OG,NN]at bF;omega
    have dL:IntKind.u8.wrap (s0.size:Int)=(s0.size:Int):=by simp[IntKind.wrap,IntKind.bits,IntKind.signed];omega
    have dM:IntKind.u8.wrap (s1.size:Int)=(s1.size:Int):=by simp[IntKind.wrap,IntKind.bits,IntKind.signed];omega
    have cM:=LE (xV (rs.take k) (λx hx=>aQ.o x (DQ hx)));have cB:=LE (Bf rs k _ _ aZ HS.o);obtain⟨n,bP⟩:∃n,n=((rs.take k).flatMap MZ).length:=⟨_,rfl⟩;have dF:n<=100000:=by have:=cM.o;rw[BC]at this;omega
    have cT:(k:Int)<(rs.length:Int):=by omega
    have dB:(0:Int)<=(k:Int):=by omega
    have cI:=aF.size;have HB:=LE aF;rw[<-bP]at aE;have bW:=LE bP;have aR:=LE aE;clear aE aF bF bP aU
    cases g2 with
    | true =>
     have HO:=LE (aR.o.alloc (.cells #[.int .u8 1,.int .u8 (s0.size:Int)] 5));go_wp2_with fail
     go_region_law (first|(have _g:=qc;refine kf (by rfl) _ _ _ _ (by rfl) w.heap.size 5 i1 underlying172 underlying9 HI.o.1 HI.o.2.1 HI.o.2.2.1 HI.o.2.2.2 _ (n+2) _ (by rfl) aP.o s0 (by rfl) (by unfold maxLen;omega) (by omega) aW ?_;intro v5 w5 aD aB;have aX:=LE aD;have aN:=LE (ZJ aI.o aP.o aB aW);have cF:=aN.o.size;clear aD aB)|(refine QO _ (by rfl) _ _ _ (by rfl) w.heap.size underlying172 HI.o rfl (by omega) u3 n (XA ((rs.take k).flatMap MZ)) (by rfl) HO.o ⟨wr.heap.size,0,none⟩ 2 2 [.int .u8 1,.int .u8 (s0.size:Int)] (by rfl) rfl (World.news_of_block (AY wr _)) (by intro u hu;simp at hu;rcases hu with rfl|rfl<;>rfl) (by simp<;>omega) (wr.heap.size+1) (by simp) ?_;intro g cap w3 aC aA aO bI;have aP:=LE aC;have aI:=LE (ZJ (HB.o.alloc cI _).drew HO.o aA (by simp<;>omega));have qc:w3.cell? ⟨b,o+k*3,none⟩=some (.string s0):=(aI.o.cell (p:=⟨b,o+k*3,none⟩) aK).j ((HB.o.cell (p:=⟨b,o+k*3,none⟩) aK).symm.j aY);have aW:=aI.o.size;clear aC aA aO))
     all_goals
      go_wp2;refine⟨⟨k+1,by omega,by go_num,?_,aN.o⟩,by simp[intOf];omega⟩;rw[cB.o];have e:=aX.o;exact nT e (by rw[bW.o];simp[MZ,ML];omega) (by rw[mo];simp[MZ,XA])
    | false =>
     have HO:=LE (aR.o.alloc (.cells #[.int .u8 0,.int .u8 (s0.size:Int)] 5));go_wp2_with fail
     go_region_law (first|(have _g:=qc;refine kf (by rfl) _ _ _ _ (by rfl) w.heap.size 5 i1 underlying172 underlying9 HI.o.1 HI.o.2.1 HI.o.2.2.1 HI.o.2.2.2 _ (n+2) _ (by rfl) aP.o s0 (by rfl) (by unfold maxLen;omega) (by omega) aW ?_;intro v5 w5 aD aB;have aX:=LE aD;have aN:=LE (ZJ aI.o aP.o aB aW);have cF:=aN.o.size;clear aD aB)|(refine QO _ (by rfl) _ _ _ (by rfl) w.heap.size underlying172 HI.o rfl (by omega) u3 n (XA ((rs.take k).flatMap MZ)) (by rfl) HO.o ⟨wr.heap.size,0,none⟩ 2 2 [.int .u8 0,.int .u8 (s0.size:Int)] (by rfl) rfl (World.news_of_block (AY wr _)) (by intro u hu;simp at hu;rcases hu with rfl|rfl<;>rfl) (by simp<;>omega) (wr.heap.size+1) (by simp) ?_;intro g cap w3 aC aA aO bI;have aP:=LE aC;have aI:=LE (ZJ (HB.o.alloc cI _).drew HO.o aA (by simp<;>omega));have qc:w3.cell? ⟨b,o+k*3,none⟩=some (.string s0):=(aI.o.cell (p:=⟨b,o+k*3,none⟩) aK).j ((HB.o.cell (p:=⟨b,o+k*3,none⟩) aK).symm.j aY);have aW:=aI.o.size;clear aC aA aO))
     all_goals
      have cW:w5.cell? ⟨b,o+k*3+1,none⟩=some (.string s1):=(aN.o.cell (p:=⟨b,o+k*3+1,none⟩) aK).j ((HB.o.cell (p:=⟨b,o+k*3+1,none⟩) aK).symm.j cC);have dN:b<w5.heap.size:=by omega
      obtain⟨n5,bJ⟩:∃m,m=n+2+s0.size:=⟨_,rfl⟩;rw[<-bJ]at aX;have cV:n5<=200000:=by omega
      have cN:=LE bJ;have b7:=LE (aX.o.alloc (.cells #[.int .u8 (s1.size:Int)] 5));clear qc aY cC cQ aP aI bJ;go_wp2_with fail
      go_region_law (first|(have _g:=qd;refine kf (by rfl) _ _ _ _ (by rfl) w.heap.size 5 i1 underlying172 underlying9 HI.o.1 HI.o.2.1 HI.o.2.2.1 HI.o.2.2.2 _ (n5+1) _ (by rfl) cA.o s1 (by rfl) (by unfold maxLen;omega) (by omega) cH ?_;intro v9 w9 aM aH;have cO:=LE aM;have bV:=LE (ZJ bC.o cA.o aH cH);have dH:=bV.o.size;clear aM aH)|(refine QO _ (by rfl) _ _ _ (by rfl) w.heap.size underlying172 HI.o rfl (by omega) v5 n5 _ (by rfl) b7.o ⟨w5.heap.size,0,none⟩ 1 1 [.int .u8 (s1.size:Int)] (by rfl) rfl (World.news_of_block (AY w5 _)) (by intro u hu;simp at hu;subst hu;rfl) (by simp<;>omega) (w5.heap.size+1) (by simp) ?_;intro g7 cP w7 aL aG bE cU;have cA:=LE aL;have bC:=LE (ZJ (aN.o.alloc cF _).drew b7.o aG (by simp<;>omega));have qd:w7.cell? ⟨b,o+k*3+1,none⟩=some (.string s1):=(bC.o.cell (p:=⟨b,o+k*3+1,none⟩) aK).j ((aN.o.cell (p:=⟨b,o+k*3+1,none⟩) aK).symm.j cW);have cH:=bC.o.size;clear aL aG bE))
      all_goals
       go_wp2;refine⟨⟨k+1,by omega,by go_num,?_,bV.o⟩,by simp[intOf];omega⟩;rw[cB.o];have e:=cO.o;exact nT e (by rw[cN.o,bW.o];simp[MZ,ML];omega) (by rw[mo,mo];simp[MZ,XA])
   have cS:k=rs.length:=by omega
   subst cS;rw[DC]at aE
   have bQ:0<(rs.flatMap MZ).length:=by
    match rs,hn with
    | x::r,_=>simp[MZ];split<;>simp<;>omega
   obtain⟨L,HL⟩:∃L,Hid (L=rs.flatMap MZ):=⟨_,LE rfl⟩;have cL:Hid (RA rs=strOfNums L):=by show _=_;rw[HL.o];rfl
   rw[<-HL.o]at aE bQ;rcases MM aE with ⟨_,h0⟩|⟨g,cap,rfl,cY,cZ,aV⟩
   ·omega
   have aJ:∀i,i<L.length->wr.cell? ⟨g,0+i,none⟩=some (.int .u8 (L.getD i 0)):=λi hi=>by
    rw[BF];refine aV.cell i _ ?_;unfold XA;rw[KJ,AM hi];simp[List.getD,hi]
   have cX:=Za (P:=prog) wr 172 5 underlying172 underlying5 g 0 L.length cap L rfl aJ 9 underlying9;clear aV aE aJ;go_wp2;go_ret;exact⟨by rw[cL.o];rfl,aF⟩
