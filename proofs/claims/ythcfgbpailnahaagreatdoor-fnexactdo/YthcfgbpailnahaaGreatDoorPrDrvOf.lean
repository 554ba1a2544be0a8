import Derived.Test.YthcfgbpailnahaaGreatDoorPrG24
set_option maxHeartbeats 16000000
namespace Go.Proofs.YthcfgbpailnahaaGreatDoor
open _root_.ByteArray(empty)
open Tryz
open Go.RowKit
set_option linter.all false
def n4:(prog.info? 171).map (λi=>(i.zero,i.size,i.bytes))=some (some (.agg WY),65,72):=by kernel_rfl
def TU(ss:List ByteArray)(k:Nat):List (List Int):=(ss.take k).map LF++List.replicate (ss.length-k) (List.replicate 64 0)
def xA(ss:List ByteArray)(k:Nat)(h:k<=ss.length):(TU ss k).length=ss.length:=by simp[TU];omega
def B1(ss:List ByteArray)(k:Nat)(h:ss.length<=k):TU ss k=ss.map LF:=by unfold TU;rw[AT h,show ss.length-k=0 by omega];simp
def vN(ss:List ByteArray)(k:Nat)(h:k<ss.length):(TU ss k).set k (LF (ss.getD k empty))=TU ss (k+1):=by
 unfold TU;rw[BV _ _ (by simp;omega)];have e1:k-((ss.take k).map LF).length=0:=by simp;omega
 rw[e1,show ss.length-k=(ss.length-(k+1))+1 by omega,GQ,CI,AQ h,BK,BG];simp[List.getD,h]
def LP(ws:List (Int×ByteArray)):List (Int×List Int):=ws.map λx=>(x.1,LF x.2)
def PL(ws:List (Int×ByteArray)):(LP ws).length=ws.length:=by simp[LP]
def t8(ws:List (Int×ByteArray))(k:Nat)(h:k<ws.length):LP (ws.take (k+1))=LP (ws.take k)++[((ws.getD k (0,empty)).1,LF (ws.getD k (0,empty)).2)]:=by
 unfold LP;rw[AQ h,BK];simp[List.getD,h]
set_option maxRecDepth 100000 in
def aw(a:Option Addr)(ss:List ByteArray)(c:Nat)(a':Option Addr)(ws:List (Int×ByteArray))(c':Nat)(w:World)(h:Strs w a ss)(h':Wrs w a' ws)(hl:ss.length<=200)(cQ:ws.length<=300)(cA:∀s∈ss,s.size=64)(aS:∀x∈ws,x.2.size=64):Calls prog 77 #[LN a ss.length c a' ws.length c'] w λe w'=>∃g v,e=.returned (.agg #[.slice (some ⟨g,0,none⟩) ss.length ss.length,v])/\PR w' g (ss.map LF)/\w'.ownsRow (g+1) 171 65 v ws.length (NB (LP ws))/\w.heap.size<=g/\Below w.heap.size w w':=by
 obtain⟨i0,bF,bQ,bT,bU⟩:=XW n4;have HI:=LE (AG bF (AG bQ (AG bT bU)));clear bF bQ bT bU;go_enter func77,ntmps77;go_wp2_with (at_make;refine YO rfl _ _ 133 rfl 168 _ 64 64 underlying133 G6 ss.length rfl rfl (by omega) (by omega) ?_;intro wx aJ aT aV;rw[yN]at aJ;have bJ:=Drs.start w wx ss.length _ _ _ _ 136 171 aT (by simpa using aV) (by simpa using aJ);have b0:wx.cell? ⟨w.heap.size,0,none⟩=some (.slice a ss.length c):=(LH aT (by go_simp) (by simp;omega));have aW:wx.heap.size=w.heap.size+1+1+1:=(by simpa using aV);have aU:w.heap.size<wx.heap.size:=(by omega);have aR:=LE bJ;clear bJ aT aV aJ);have aO:Hid (List.replicate ss.length (List.replicate 64 0)=TU ss 0):=by show _=_;simp[TU]
 rw[aO.o]at aR;go_loopw [4,5,16] (λ_ _ i wr=>∃k:Nat,k<=ss.length/\i=.int .i64 k/\Drs w wr ss.length (.slice a' ws.length c') 171 (.slice none 0 0) (TU ss k) []) (λ_ _ i _=>ss.length-(intOf i).toNat)
 case atStart=>exact⟨0,AH _,rfl,aR.o⟩
 case round =>
  clear aR aW aU b0 aO;obtain⟨k,hk,rfl,hd⟩:=hrel
  by_cases aH:k<ss.length
  ·obtain⟨b,o,s,rfl,hc,HS⟩:=(h.I hd.bel).at aH
   have aA:s.size=64:=by rw[HS.o];exact cA _ (by simp[List.getD,aH])
   have cL:((LF s).map (Value.int .u8)).length=64:=by rw[BJ,ML,aA]
   have HL:=LE (xA ss k hk);have bW:(prog.info? 168).map (·.size)=some ((LF s).map (Value.int .u8)).length:=by rw[cL];kernel_rfl
   have cH:=UA (LF s);have hu:=underlying168;have cN:(0:Int)<=(k:Int):=by omega
   have cO:(k:Int)<(ss.length:Int):=by omega
   have HT:=LE (hd.pr.there (k:=k) (by rw[HL.o];exact aH));have HD:=LE hd;have aF:=LE aA;clear hd aA;go_wp2_with fail;clear hc
   go_region_held3 (λw'=>w'.cell? ⟨w.heap.size+1+1+1,0,none⟩=some (.slice (some ⟨w.heap.size+1+1,0,none⟩) ss.length ss.length)/\w'.there (w.heap.size+1+1) (k*64) 64)
    (first|assumption|exact⟨HD.o.d0,HT.o⟩|exact⟨(HD.o.drew.I aB).d0,(HD.o.drew.I aB).pr.there (by rw[HL.o];exact aH)⟩|exact⟨(DL _ _ _ _ _ (λe=>by simp at e)).j (HD.o.drew.I aB).d0,World.there_setCells ((HD.o.drew.I aB).pr.there (by rw[HL.o];exact aH)) _ _ _⟩)
    (first|(go_at_call 119;refine(bk s _ aF.o).i ?_;rintro e w2 ⟨rfl,aB⟩))
   have aC:=(HD.o.drew.I aB).fill rfl k (by rw[HL.o];exact aH) (LF s) (by rw[ML,aF.o]);rw[show(TU ss k).set k (LF s)=TU ss (k+1) by rw[HS.o];exact vN ss k aH]at aC;have HF:=LE aC;clear aC aB;go_wp2;go_roundw
   case rel=>exact⟨k+1,by omega,by go_num,HF.o⟩
   case measure=>simp[intOf];omega
  have aK:=B1 ss k (by omega)
  rw[aK]at hd;have q1:=hd.b1;have aZ:=LE hd;clear hd aK;go_wp2;go_loopw [7,31] (λ_ i wr=>∃(k:Nat) (v:Value),k<=ws.length/\i=.int .i64 k/\Drs w wr ss.length (.slice a' ws.length c') 171 v (ss.map LF) (LP (ws.take k))) (λ_ i _=>ws.length-(intOf i).toNat)
  case atStart=>exact⟨0,_,AH _,rfl,aZ.o⟩
  case round =>
   clear aZ q1;obtain⟨k2,v,cP,rfl,hd⟩:=hrel
   by_cases aI:k2<ws.length
   ·obtain⟨b,o,m,s,rfl,hc,cC,HS⟩:=(h'.I hd.bel).at aI
    have aA:s.size=64:=aS (m,s) (by rw[HS.o];simp[List.getD,aI]);have aP:(LF s).length=64:=by rw[ML,aA]
    have bE:(LP (ws.take k2)).length=k2:=by rw[PL];simp;omega
    have HL:=LE bE;have aF:=LE aA;have cM:=cn;have aX:=br;have aY:=tq;have aL:=pG (.int .i64 m) ((LF s).map (Value.int .u8)) WY (by rw[br,BJ,aP]);have aG:=yr (.int .i64 m) ((LF s).map (Value.int .u8)) 65 (by rw[BJ,aP]);have HD:=LE (hd.alloc (.cells #[.int .i64 m,.string s] 158));have cI:=hd.sz;have cS:w.heap.size+1+1+1<wr.heap.size:=by omega
    have q1:=hd.d1;have q2:=hd.fd1;clear hd aA bE;go_wp2_with fail;clear hc cC;have bP:(wr.alloc (.cells #[.int .i64 m,.string s] 158)).cell? ⟨wr.heap.size,0,none⟩=some (.int .i64 m):=by rw[DT _ _ _ _ rfl];rfl
    have cJ:(wr.alloc (.cells #[.int .i64 m,.string s] 158)).cell? ⟨wr.heap.size,1,none⟩=some (.string s):=by rw[DT _ _ _ _ rfl];rfl
    have bI:wr.heap.size<(wr.alloc (.cells #[.int .i64 m,.string s] 158)).heap.size:=by simp
    obtain⟨wy,bC⟩:∃wy,wy=wr.alloc (.cells #[.int .i64 m,.string s] 158):=⟨_,rfl⟩;rw[<-bC]at HD bP cJ bI⊢;clear bC q1 q2;have q1:=HD.o.d1;have q2:=HD.o.fd1;have aO:=LE bP;have HY:=LE bI
    go_region_law (first|(refine step_append_lies _ (by rfl) _ _ _ (by rfl) (w.heap.size+1+1+1+1) 171 i0 (.agg WY) 65 72 underlying134 HI.o.1 HI.o.2.1 HI.o.2.2.1 HI.o.2.2.2 (by kernel_rfl) (by omega) v (LP (ws.take k2)).length (NB (LP (ws.take k2))) (by rfl) HO.o ⟨w2.heap.size,0,none⟩ 1 1 (Value.int .i64 m::(LF s).map (Value.int .u8)) (by rfl) (by simp[aP]) (World.news_of_block (AY w2 _)) (bw m (LF s)) (by omega) (by rw[HL.o];unfold maxLen;omega) (by rw[HL.o];omega) (by simp<;>omega) (w2.heap.size+1) (by simp) ?_;intro g cap w3 aM aD cB cF;obtain⟨q4,q5⟩:=aQ.o.z aD;have b7:=LE aM;have bV:=LE aD;clear aM aD cB)|(refine LK (by rfl) 119 #[.string s] (by go_simp) (bk s _ aF.o) ?_;rintro e w2 ⟨rfl,aB⟩;refine⟨_,rfl,?_⟩;have y0:=(aB.cell (p:=⟨wr.heap.size,0,none⟩) HY.o).j aO.o;have y1:=(HD.o.drew.I aB).d1;have y2:=(HD.o.drew.I aB).sz;have y3:w.heap.size+1+1+1<w2.heap.size:=(by omega);have aQ:=LE ((HD.o.drew.I aB).alloc (.cells (Value.int .i64 m::(LF s).map (Value.int .u8)).toArray 171));have HO:=LE aQ.o.own))
    all_goals
     have aE:=aQ.o.push (x:=(m,LF s)) aP b7.o bV.o;rw[show(m,LF s)=((ws.getD k2 (0,empty)).1,LF (ws.getD k2 (0,empty)).2) by rw[<-HS.o],<-t8 ws k2 aI]at aE;have HP:=LE aE;clear aE aL aG aX aY cM;go_wp2;go_roundw
     case rel=>exact⟨k2+1,_,by omega,by go_num,HP.o⟩
     case measure=>simp[intOf];omega
   have cE:Hid (ws.take k2=ws):=AT (by omega)
   rw[cE.o]at hd;have HD:=LE hd;have q0:=hd.d0;have q1:=hd.d1;have q2:=hd.r0;have q3:=hd.r1;have q4:=hd.fr0;have q5:=hd.fr1;obtain⟨av,nv,cv,rfl⟩:∃a n c,v=.slice a n c:=by rcases MM hd.own with ⟨e,_⟩|⟨g,c,e,_⟩<;>exact⟨_,_,_,e⟩
   clear hd;go_wp2;have aN:=DJ (DJ HD.o.own (a:=⟨w.heap.size+1,0,none⟩) (by show w.heap.size+1<_;omega) (.slice (some ⟨w.heap.size+1+1,0,none⟩) ss.length ss.length)) (a:=⟨w.heap.size+1,1,none⟩) (by show w.heap.size+1<_;omega) (.slice av nv cv);rw[PL]at aN;refine AJ (v:=.agg #[.slice (some ⟨w.heap.size+1+1,0,none⟩) ss.length ss.length,.slice av nv cv]) (by simp[results,results77,go_sem,q2,q3]) rfl ⟨w.heap.size+1+1,_,rfl,?_,aN.i (by omega),by omega,?_⟩
   ·exact(HD.o.pr.other _ (by show w.heap.size+1≠w.heap.size+1+1;omega) _).other _ (by show w.heap.size+1≠w.heap.size+1+1;omega) _
   exact(HD.o.bel.setCell (by show w.heap.size<=w.heap.size+1;omega) _).setCell (by show w.heap.size<=w.heap.size+1;omega) _
