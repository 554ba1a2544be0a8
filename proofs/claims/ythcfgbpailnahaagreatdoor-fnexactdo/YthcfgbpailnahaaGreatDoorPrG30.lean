import Derived.Test.YthcfgbpailnahaaGreatDoorPrG29
import Derived.Sort.LoopGhostIn
import Derived.Scope
import Derived.Stop.RegionWithIn
import Derived.Sort.CutIn
set_option maxHeartbeats 32000000
set_option maxRecDepth 8000
set_option linter.all false
namespace Go.Proofs.YthcfgbpailnahaaGreatDoor
open _root_.ByteArray(empty)
section
open Tryz
open Go.RowKit
section
set_option maxHeartbeats 4000000
theorem Bl(v0 v1:Value)(x:List Int)(frm size n:Int)(m:Int)(w:World)(aE:x.length=64)(bC:IntKind.i64.wrap (frm+m)=frm+m)
  (aP:∀wx,Below w.heap.size w wx->Calls prog 270 #[.agg #[v0,v1],.int .i64 (frm+m)] wx λe w'=>e=.returned (.tuple #[.agg (x.map (Value.int .u8)).toArray,.bool true])/\Below wx.heap.size wx w')
  (ty:TypeId)(v:Value)(hv:w.cell? ⟨1,0,none⟩=some (.iface ty v))(h0:w.cell? ⟨0,0,none⟩=some (.iface 318 (.agg #[.pointer (some ⟨3,223,none⟩)])))(hg:1<w.heap.size):Calls prog 211 #[cz v0 v1 frm size n,.int .i64 m] w λe w'=>e=.returned (TW (MX (strOfNums x) n))/\Below w.heap.size w w':=by
 have aR:∀o1 o2,Below w.heap.size w ((w.alloc o1).alloc o2):=λo1 o2=>(LG _ _).alloc (by simp) _
 have aK:=LE (λwx (hb:Below w.heap.size w wx)=>oN (strOfNums x) n wx ty v ((hb.cell (p:=⟨1,0,none⟩) hg).j hv) ((hb.cell (p:=⟨0,0,none⟩) (by show 0<_;omega)).j h0) (by have:=hb.size;omega))
 obtain⟨k,l,q,p,b,aQ⟩:∃k l q p b,TW (MX (strOfNums x) n)=.tuple #[NH k l q p,.bool b]:=by
  cases MX (strOfNums x) n with
  | none=>exact⟨_,_,_,_,_,rfl⟩
  | some y=>obtain⟨k,l,q,p⟩:=y;exact⟨_,_,_,_,_,rfl⟩
 rw[aQ]at aK⊢;clear aQ hv h0;have bE:(x.map (Value.int .u8)).toArray.size=64:=by simp[aE]
 have aI:Hid ((prog.info? 168).map (·.size)=some (x.map (Value.int .u8)).length):=by show _=_;rw[BJ,aE];kernel_rfl
 have aY:=λk wx=>vk k v0 v1 wx
 obtain⟨sx,aL⟩:∃sx,Hid (sx=strOfNums x):=⟨_,LE rfl⟩;rw[<-aL.o]at aK;have aJ:=LE aP;clear aP;go_enter func211,ntmps211;go_wp2_with fail;refine(aJ.o _ (aR _ _)).i ?_;rintro e w2 ⟨rfl,aF⟩;have aT:=LE (((B4.new w (.iface 260 (.agg #[v0,v1])) (.int .i64 frm) (.int .i64 size) (.int .i64 n) 214).alloc (.cells #[.int .i64 0,.int .i64 0,.int .i64 0,.string empty] 204)).I aF);have aN:=(B4.new (w.alloc (.cells #[.iface 260 (.agg #[v0,v1]),.int .i64 frm,.int .i64 size,.int .i64 n] 214)) (.int .i64 0) (.int .i64 0) (.int .i64 0) (.string empty) 204).I aF;rw[AU]at aN;have aV:=LE aN;have aO:=LE ((aR (.cells #[.iface 260 (.agg #[v0,v1]),.int .i64 frm,.int .i64 size,.int .i64 n] 214) (.cells #[.int .i64 0,.int .i64 0,.int .i64 0,.string empty] 204)).j (aF.i (by simp<;>omega)));clear aF aY aN
 go_wp2_with (first
   | (with_reducible refine UX 168 _ _ rfl ?_;refine ZA rfl 168 _ _ rfl (x.map (Value.int .u8)) (UA x) rfl rfl _ _ (by rw[BJ,aE];kernel_rfl) aI.o ?_;intro wx aC aG aZ;have aW:=aC.text (P:=prog) x 0 64 64 aE (λi hi=>by simp[List.getD,show i<x.length by omega]) 172 5 9 underlying172 underlying5 underlying9;rw[<-aL.o]at aW;have aD:=aC.drew.text (P:=prog) x 0 64 64 aE (λi hi=>by simp[List.getD,show i<x.length by omega]) 172 5 9 underlying172 underlying5 underlying9;rw[<-aL.o]at aD;have aA:=LE (aV.o.I aG);have aU:=LE (aT.o.I aG);have aH:=LE (aO.o.j (aG.i aO.o.size));clear aG aZ aC)
   | fail)
 have r0:=aA.o.c0;have r1:=aA.o.c1;have r2:=aA.o.c2;have r3:=aA.o.c3;have f0:=aA.o.f0;have f1:=aA.o.f1;have f2:=aA.o.f2;have f3:=aA.o.f3;have q3:=aU.o.c3;have aX:(convert 172 9 (.slice (some ⟨w2.heap.size,0,none⟩) 64 64)).run prog wx.drew=.ok (.string sx) wx.drew:=aD
 go_region_with (first|(go_at_call 231;refine(aK.o _ (aH.o.drew)).i ?_;rintro e w3 ⟨rfl,aM⟩;have aB:=aA.o.drew.I aM;have aS:=LE (aH.o.drew.j (aM.i aH.o.drew.size));have c0:=aB.c0;have c1:=aB.c1;have c2:=aB.c2;have c3:=aB.c3;have f0:=aB.f0;have f1:=aB.f1;have f2:=aB.f2;have f3:=aB.f3;clear aM aB))
 all_goals
  go_wp2;refine AJ (v:=.tuple #[NH k l q p,.bool b]) (by simp[results,results211,go_sem,c0,c1,c2,c3]) rfl ⟨rfl,?_⟩;exact(((aS.o.setCell (by show _<=w.heap.size+1;omega) _).setCell (by show _<=w.heap.size+1;omega) _).setCell (by show _<=w.heap.size+1;omega) _).setCell (by show _<=w.heap.size+1;omega) _
end
theorem tF(wk wl wm:Int)(wp:ByteArray)(k l m:Int)(p:ByteArray)(w:World):Calls prog 167 #[NH wk wl wm wp,NH k l m p] w λe w'=>e=.returned (.bool (PE wk wl k l))/\Below w.heap.size w w':=by
 have aB:∀o1 o2,Below w.heap.size w ((w.alloc o1).alloc o2):=λo1 o2=>(LG _ _).alloc (by simp) _
 rw[<-Fv];obtain⟨B,hB⟩:∃B,UO wk wl k l=B:=⟨_,rfl⟩;have HB:=LE hB;rw[hB];clear hB
 by_cases aA:k=1\/k=2
 ·by_cases hl:l=wl
  ·have e:B=true:=by rw[<-HB.o];unfold UO;rw[AK aA];simp[hl]
   subst e;subst hl;clear HB
   rcases aA with rfl|rfl<;>(go_enter func167,ntmps167;go_wp2;all_goals (go_ret;exact⟨rfl,aB _ _⟩))
  have aK:(l == wl)=false:=by simp[hl]
  by_cases hw:wk=1
  ·subst hw
   have e:B=false:=by rw[<-HB.o];unfold UO;rw[AK aA];simp[hl]
   subst e;clear HB
   rcases aA with rfl|rfl<;>(go_enter func167,ntmps167;go_wp2;all_goals (go_ret;exact⟨rfl,aB _ _⟩))
  have aJ:(wk == 1)=false:=by simp[hw]
  by_cases aC:wl<l
  focus
   have e:B=true:=by rw[<-HB.o];unfold UO;rw[AK aA];simp[hw,aC]
  rotate_left
  focus
   have e:B=false:=by rw[<-HB.o];unfold UO;rw[AK aA];simp[hw,aC,hl]
  rotate_left
  all_goals
   subst e;clear HB
   rcases aA with rfl|rfl<;>(go_enter func167,ntmps167;go_wp2;all_goals (go_ret;exact⟨by simp[aC],aB _ _⟩))
 have aE:¬k=1:=λe=>aA (.inl e)
 have aG:¬k=2:=λe=>aA (.inr e)
 have aF:(k == 1)=false:=by simp[aE]
 have aH:(k == 2)=false:=by simp[aG]
 by_cases h3:k=3
 focus
  subst h3
  by_cases aD:wl<=l
  focus
   by_cases hw:wk=1
   focus
    subst hw;have e:B=false:=by rw[<-HB.o];unfold UO;simp
   rotate_left
   focus
    have aJ:(wk == 1)=false:=by simp[hw]
    have e:B=true:=by rw[<-HB.o];unfold UO;simp[hw,aD]
   rotate_left
  rotate_left 2
  focus
   have e:B=false:=by rw[<-HB.o];unfold UO;simp[aD]
  rotate_left
 rotate_left 3
 focus
  have aI:(k == 3)=false:=by simp[h3]
  have e:B=false:=by rw[<-HB.o];unfold UO;rw[AE aA,AE h3]
 rotate_left
 all_goals
  subst e;clear HB aA;go_enter func167,ntmps167;go_wp2
  all_goals (go_ret;exact⟨rfl,aB _ _⟩)
theorem ut(n:Nat)(f s:Int)(hn:n<=1048576)(aA:-9223372036854775808<=f)(aB:f<=9223372036854775807)(w:World):Calls prog 165 #[.int .i64 (n:Int),.int .i64 f,.int .i64 s] w λe w'=>e=.returned (.bool (decide (0<=f/\0<=s/\s<=(n:Int)-f)))/\w'=w:=by
 by_cases h1:0<=f
 ·have hw:IntKind.i64.wrap ((n:Int)-f)=(n:Int)-f:=by simp[IntKind.wrap,IntKind.bits,IntKind.signed];omega
  by_cases h2:0<=s
  ·by_cases h3:s<=(n:Int)-f
   ·have e:decide (0<=f/\0<=s/\s<=(n:Int)-f)=true:=AO ⟨h1,h2,h3⟩
    rw[e];go_enter func165,ntmps165;go_wp2;go_ret;exact⟨by simp[h3],rfl⟩
   have e:decide (0<=f/\0<=s/\s<=(n:Int)-f)=false:=AI (λh=>h3 h.2.2)
   rw[e];go_enter func165,ntmps165;go_wp2;go_ret;exact⟨by simp[h3],rfl⟩
  have e:decide (0<=f/\0<=s/\s<=(n:Int)-f)=false:=AI (λh=>h2 h.2.1)
  rw[e];go_enter func165,ntmps165;go_wp2;go_ret;exact⟨rfl,rfl⟩
 have e:decide (0<=f/\0<=s/\s<=(n:Int)-f)=false:=AI (λh=>h1 h.1)
 rw[e];go_enter func165,ntmps165;go_wp2;go_ret;exact⟨rfl,rfl⟩
end
section
open Tryz
open Go.RowKit Go.Shelf
attribute [local go_sem] Oper.semAt_some
theorem Fo(a b:ByteArray):(a++b).data.toList=a.data.toList++b.data.toList:=by rw[ByteArray.data_append,Array.toList_append]
theorem rV(a:ByteArray):(Lib.byteCells a.data.toList).length=a.size:=by rw[Lib.byteCells_length];exact Array.length_toList
theorem yJ(a:ByteArray):(⟨a.data.toList.toArray⟩:ByteArray)=a:=by rw[Array.toArray_toList]
theorem km{w:World}{b0 b1:Nat}{e:TypeId}{s:Nat}{v:Value}{n:Nat}{xs:List Value}(h:w.ownsRow b1 e s v n xs)(hb:b0<=b1):w.ownsRow b0 e s v n xs:=by
 refine⟨h.1,?_⟩;rcases h.2 with h1|⟨g,cap,cur,hv,aA,hr⟩
 ·exact .inl h1
 exact .inr ⟨g,cap,cur,hv,by omega,hr⟩
theorem xJ{w2:World}{g:Nat}{vv:Value}{ws:List (Int×ByteArray)}(aA:w2.ownsRow (g+1) 171 65 vv ws.length (NB (LP ws))):∃a2 c2,vv=.slice a2 (LP ws).length c2/\OwnS w2 a2 (NB (LP ws)):=by
 rw[PL];rcases MM aA with ⟨e,h0⟩|⟨g2,cap,e,h1,h2,hr⟩
 ·have:ws=[]:=AC h0
  subst this;exact⟨none,0,e,.inl rfl⟩
 exact⟨_,cap,e,.inr ⟨g2,rfl,hr⟩⟩
theorem Db(a:Option Addr)(ss:List ByteArray)(c:Nat)(a':Option Addr)(ws:List (Int×ByteArray))(c':Nat)(frm size first aB n:Int)(w:World)(h:Strs w a ss)(h':Wrs w a' ws)(hl:ss.length<=1048576)(iK:ws.length<=1048576)(hs:∀s∈ss,s.size<=1048576)(gE:∀x∈ws,x.2.size<=1048576)(eP:-9223372036854775808<=first/\first<=9223372036854775807)
  (ty:TypeId)(v:Value)(hv:w.cell? ⟨1,0,none⟩=some (.iface ty v))(h0:w.cell? ⟨0,0,none⟩=some (.iface 318 (.agg #[.pointer (some ⟨3,223,none⟩)])))(hg:1<w.heap.size)(dP:UM ss ws frm size n):Calls prog 121 #[LN a ss.length c a' ws.length c',.int .i64 frm,.int .i64 size,.int .i64 first,.int .i64 aB,.int .i64 n] w λe w'=>YH w w' e (RM ss ws frm size first aB n):=by
 have dN:RM ss ws frm size first aB n=NG (λk=>(NY ws ss).getD k empty) frm.toNat first n size.toNat 0 2 aB empty ([],0,aB):=by unfold RM;rw[AK dP,Ap]
 rw[dN];clear dN;obtain⟨eU,hn,f0,s0,f1,s1⟩:=dP;obtain⟨fm,rfl⟩:∃k:Nat,frm=(k:Int):=⟨frm.toNat,by omega⟩;obtain⟨N,rfl⟩:∃k:Nat,size=(k:Int):=⟨size.toNat,by omega⟩;simp only[DG];have hd:decide (1<=n/\n<=8)=true:=AO hn;obtain⟨⟨i8,fV,fW⟩,eL,hw⟩:=OZ eU
 obtain⟨SF,bE⟩:∃SF:Nat->ByteArray,SF=λk=>(NY ws ss).getD k empty:=⟨_,rfl⟩
 rw[<-bE];have iE:=LE bE
 obtain⟨bT,cN⟩:∃bT,Hid (bT=NG SF fm first n N 0 2 aB empty ([],0,aB)):=⟨_,LE rfl⟩
 rw[<-cN.o];clear bE;have cP:N<=200:=by omega
 have fI:Hid (∀wx,Calls prog 165 #[.int .i64 (ss.length:Int),.int .i64 (fm:Int),.int .i64 (N:Int)] wx λe w'=>e=.returned (.bool true)/\w'=wx):=λwx=>by
  have:=ut ss.length (fm:Int) (N:Int) hl (by omega) (by omega) wx;rw[AO (show 0<=(fm:Int)/\0<=(N:Int)/\(N:Int)<=(ss.length:Int)-(fm:Int) by omega)]at this;exact this
 have HV:=LE (λ(wx:World) (hb:Below w.heap.size w wx)=>UI a ss c a' ws c' wx (h.I hb) (h'.I hb) hl iK hs gE);rw[eU]at HV;have eX:=LE (λ(wx:World) (hb:Below w.heap.size w wx)=>aw a ss c a' ws c' wx (h.I hb) (h'.I hb) fV fW (λs hs=>by have:=eL s hs;omega) (λx hx=>by have:=AZ (hw x hx);omega));have eI:=LE (λwx=>QZ n wx);rw[hd]at eI
 have fT:∀o1 o2 o3,Below w.heap.size w (((w.alloc o1).alloc o2).alloc o3):=λo1 o2 o3=>((LG _ _).alloc (by simp) _).alloc (by simp;omega) _
 have eE:=LE fT;have HH:=LE h;have gZ:=LE h';have eK:=LE hw;have gW:=LE eL;have eZ:=LE (λwx (hb:Below w.heap.size w wx)=>((hb.cell (p:=⟨1,0,none⟩) hg).j hv));have eY:=LE (λwx (hb:Below w.heap.size w wx)=>((hb.cell (p:=⟨0,0,none⟩) (by show 0<_;omega)).j h0));clear h h' hw eL hv h0 hs gE fT eU hd;refine(EL (n:=4)).1 ?_;refine callsIn_of_wp_marks func121 rfl trivial ?_ rfl;simp only[ntmps121,FX,BY,AR,Nat.reduceAdd,Nat.reduceSub,FI,FJ,FW,EO,DU,ED]
 gi_wp2
 refine wpIn_wide.2 (wp_scope_straight ((wpIn_wide (n:=4)).1 ?_))
 gi_wp2_with (first
  | (refine⟨trivial,?_⟩;gi_at_call 73;refine(EL.2 (HV.o _ (eE.o _ _ _))).i ?_;rintro e w1 ⟨rfl,cS⟩;have r6:=(((NT w #[.slice a ss.length c,.slice a' ws.length c'] 44 w.heap.size rfl).alloc (.cells #[.int .i64 first] 3)).alloc (.cells #[.slice none 0 0,.int .i64 0,.int .i64 0] 175)).I cS;have r7:=((NT (w.alloc (.cells #[.slice a ss.length c,.slice a' ws.length c'] 44)) #[.int .i64 first] 3 (w.heap.size+1) (by simp)).alloc (.cells #[.slice none 0 0,.int .i64 0,.int .i64 0] 175)).I cS;have r8:=(NT ((w.alloc (.cells #[.slice a ss.length c,.slice a' ws.length c'] 44)).alloc (.cells #[.int .i64 first] 3)) #[.slice none 0 0,.int .i64 0,.int .i64 0] 175 (w.heap.size+1+1) (by simp)).I cS;have fO:=(eE.o (.cells #[.slice a ss.length c,.slice a' ws.length c'] 44) (.cells #[.int .i64 first] 3) (.cells #[.slice none 0 0,.int .i64 0,.int .i64 0] 175)).j (cS.i (by simp<;>omega));have fF:=LE r7;have fG:=LE r8;have aV:=LE fO;have q0:=r6.x 0;have q1:=r6.x 1;have ql:=r6.lt;clear r6 r7 r8 fO cS)
  | (refine⟨trivial,?_⟩;gi_at_call 72;refine(EL.2 (eI.o _)).i ?_;refine MT ?_)
  | (refine⟨trivial,?_⟩;gi_at_call 165;refine(EL.2 (fI.o _)).i ?_;refine MT ?_)
  | (refine⟨trivial,?_⟩;gi_at_call 77;refine(EL.2 (eX.o _ aV.o)).i ?_;rintro e w2 ⟨g,vv,rfl,fZ,dH,iJ,bJ⟩;clear q0 q1 ql;obtain⟨a2,c2,iQ,fX⟩:∃a2 c2,vv=.slice a2 (LP ws).length c2/\OwnS w2 a2 (NB (LP ws)):=xJ dH;subst iQ;have cA:=LE (Below.then aV.o (AA _) bJ);have cJ:=LE (fF.o.I bJ);have cM:=LE (fG.o.I bJ);have cI:=LE fZ;have cF:=LE fX;clear bJ fZ dH fX iJ)
  | (refine⟨trivial,?_⟩;gi_at_call 163;refine(EL.2 (nV _ _ _ _ _ _ _)).i ?_;rintro e w3 ⟨rfl,bV⟩;have aI:=LE (Below.then cA.o (AA _) bV);have cL:=LE (cJ.o.I bV);have aD:=LE (cM.o.I bV);have fE:=LE (cI.o.I bV);have fB:=LE (cF.o.I bV);clear bV))
 have aF:w.heap.size<=w3.heap.size:=aI.o.size;have iM:=aD.o.lt
 have aN:∀p∈LP ws,p.2.length=64:=λp hp=>by
  obtain⟨x,hx,rfl⟩:=CE.1 hp;have:=AZ (eK.o x hx);show(LF x.2).length=64;rw[ML];omega
 have cZ:Hld w3 a2 (LP ws):=by
  rcases fB.o with h0|⟨g2,rfl,h2⟩
  ·refine .inl (AC ?_)
   have:=BT List.length h0;rw[lk _ aN,AR]at this;omega
  exact h2.hld aN
 have fC:Hid (∀wx,Below w3.heap.size w3 wx->∀m:Nat,m<N->Calls prog 211 #[cz (.slice a2 (LP ws).length c2) (.iface 133 (.slice (some ⟨g,0,none⟩) ss.length ss.length)) (fm:Int) (N:Int) n,.int .i64 (m:Int)] wx λe w'=>e=.returned (TW (MX (SF (fm+m)) n))/\Below wx.heap.size wx w'):=λwx hb m hm=>by
  have fU:fm+m<ss.length:=by omega
  have gD:fm+m<(QE (LP ws) (ss.map LF)).length:=by rw[ZZ];simp;omega
  have hX:strOfNums ((QE (LP ws) (ss.map LF)).getD (fm+m) [])=SF (fm+m):=by
   rw[iE.o,<-kk];simp[NK,List.getD,gD]
  have eO:Below w.heap.size w wx:=aI.o.j (hb.i aF);rw[<-hX];refine Bl _ _ _ _ _ _ _ wx (YL (jr _ _ aN fE.o.len) gD) (by simp[IntKind.wrap,IntKind.bits,IntKind.signed];omega) (λwy hy=>?_) ty v (eZ.o _ eO) (eY.o _ eO) (by have:=eO.size;omega);have bJ:=hb.j (hy.i hb.size);have:=nI a2 (LP ws) c2 g ss.length ss.length (fm+m) (ss.map LF) wy (cZ.I bJ) aN (λp hp=>by obtain⟨y,hy,rfl⟩:=CE.1 hp;exact(AZ (eK.o y hy)).1) (by rw[PL];exact fW) (fE.o.I bJ) (by simp) fV fU;rw[show((fm:Int)+(m:Int))=((fm+m:Nat):Int) by omega];exact this
 obtain⟨cv,gY⟩:∃cv,Hid (cv=Value.iface 133 (.slice (some ⟨g,0,none⟩) ss.length ss.length)):=⟨_,LE rfl⟩;obtain⟨v0,iF⟩:∃v0,Hid (v0=Value.slice a2 (LP ws).length c2):=⟨_,LE rfl⟩;rw[<-gY.o,<-iF.o]at fC⊢
 have D0:Hid (ScL w3 (((w3.alloc (.cells #[.iface 260 (.agg #[v0,cv]),.int .i64 (fm:Int),.int .i64 (N:Int),.int .i64 n] 214)).alloc (.cells #[.slice none 0 0,.int .i64 0,.int .i64 aB] 175)).alloc (.cells #[.int .i64 2,.int .i64 aB,.int .i64 0,.string ⟨#[]⟩] 204)) [] (((w3.alloc (.cells #[.iface 260 (.agg #[v0,cv]),.int .i64 (fm:Int),.int .i64 (N:Int),.int .i64 n] 214)).alloc (.cells #[.slice none 0 0,.int .i64 0,.int .i64 aB] 175)).alloc (.cells #[.int .i64 2,.int .i64 aB,.int .i64 0,.string ⟨#[]⟩] 204)).heap.size (.iface 260 (.agg #[v0,cv])) (.int .i64 (fm:Int)) (.int .i64 (N:Int)) (.int .i64 n) (.slice none 0 0) [] 0 aB 2 aB 0 ⟨#[]⟩):=by
  refine⟨((NT _ _ _ _ rfl).alloc _).alloc _,(NT _ _ _ _ (by simp)).alloc _,NT _ _ _ _ (by simp),BZ _ _ _ _,λk hk=>(by cases hk),((LG _ _).alloc (by simp) _).alloc (by simp;omega) _,λr hr=>(by cases hr),List.nodup_nil⟩
 clear eX HV eI fI eE fF fG aV cJ cM cA cI cF fB cZ aN HH gZ eK gW eZ eY;refine wpIn_label ?_
 gi_wp2
 refine wpIn_loop_ghost (λk A W=>∃(Rs:List Nat) (y:Value) (aA:List ByteArray) (u:Nat) (l wk wl wm:Int) (wp:ByteArray) (gJ gK gL gM gN gQ gR gS gU:Value),A={ tmps:=#[LN a ss.length c a' ws.length c',.int .i64 (fm:Int),.int .i64 (N:Int),.int .i64 first,.int .i64 aB,.int .i64 n,.pointer (some ⟨w.heap.size,0,none⟩),undef,undef,.pointer (some ⟨w.heap.size+1,0,none⟩),undef,undef,.pointer (some ⟨w.heap.size+1+1,0,none⟩),.pointer (some ⟨w3.heap.size,0,none⟩),.pointer (some ⟨w3.heap.size+1,0,none⟩),.pointer (some ⟨w3.heap.size+1+1,0,none⟩),gJ,undef,undef,.agg #[.slice a ss.length c,.slice a' ws.length c'],.bool true,.bool false,.bool false,.int .i64 n,.bool true,.bool false,.bool false,.bool false,.pointer (some ⟨w.heap.size,0,none⟩),.slice a ss.length c,.int .i64 (ss.length:Int),.int .i64 (fm:Int),.int .i64 (N:Int),.bool true,.bool false,.bool false,undef,.agg #[.slice a ss.length c,.slice a' ws.length c'],.agg #[.slice (some ⟨g,0,none⟩) ss.length ss.length,v0],(.iface 260 (.agg #[v0,cv])),.int .i64 (fm:Int),.int .i64 (N:Int),.int .i64 n,.agg #[.iface 260 (.agg #[v0,cv]),.int .i64 (fm:Int),.int .i64 (N:Int),.int .i64 n],.int .i64 aB,.agg #[.slice none 0 0,.int .i64 0,.int .i64 aB],.int .i64 aB,.agg #[.int .i64 2,.int .i64 aB,.int .i64 0,.string ⟨#[]⟩],gK,gL,gM,gN,gQ,gR,gS,gU,undef,undef,undef,undef,undef,undef,undef,undef,undef,undef,undef,undef,undef,undef,undef,undef,undef,undef,undef,undef,undef,undef,undef,undef,undef,undef],defers:=Rs.map (λr=>({ target:=.collected r,args:=#[] }:Deferred)) }/\k=N-u/\u<=N/\aA.length<=u/\Hid (ScL w3 W Rs W.heap.size (.iface 260 (.agg #[v0,cv])) (.int .i64 (fm:Int)) (.int .i64 (N:Int)) (.int .i64 n) y aA (u:Int) l wk wl wm wp)/\Hid (Chn (S:=SF) (frm:=fm) (n:=n) (size:=N) first bT u [] wk wl empty (aA,(u:Int),l))) N ⟨[],.slice none 0 0,[],0,aB,2,aB,0,⟨#[]⟩,undef,undef,undef,undef,undef,undef,undef,undef,undef,rfl,by omega,AH _,AA _,D0,?_⟩ ?_
 ·intro _
  refine⟨AH _,?_⟩;rw[cN.o];rfl
 rintro k _ W ⟨Rs,y,aA,u,l,wk,wl,wm,wp,gJ,gK,gL,gM,gN,gQ,gR,gS,gU,rfl,rfl,jC,i3,aG,cB⟩
 clear D0;have iI:W.cell? ⟨w3.heap.size+1,1,none⟩=some (.int .i64 (u:Int)):=aG.o.fb.x 1;have i4:=aG.o.fb.lt
 by_cases fU:u<N
 ·have eS:(u:Int)<(N:Int):=by omega
  have iR:W.cell? ⟨w3.heap.size,0,none⟩=some (.iface 260 (.agg #[v0,cv])):=aG.o.lb.x 0;have iS:W.cell? ⟨w3.heap.size,1,none⟩=some (.int .i64 (fm:Int)):=aG.o.lb.x 1;have iT:W.cell? ⟨w3.heap.size,2,none⟩=some (.int .i64 (N:Int)):=aG.o.lb.x 2;have iU:W.cell? ⟨w3.heap.size,3,none⟩=some (.int .i64 n):=aG.o.lb.x 3;have jF:=aG.o.lb.lt
  gi_wp2_with (refine⟨trivial,?_⟩;gi_at_call 166;refine(Hg _ _ _ _ _ _ _ _).i ?_;rintro e w4 ⟨rfl,rfl⟩)
  clear iI iR iS iT iU;have iL:w3.heap.size+2<W.heap.size:=aG.o.bb.lt;obtain⟨WS,bI⟩:∃WS,WS=((W.alloc (.cells #[.pointer none,.slice none 0 0] 217)).alloc (.cells #[.iface 260 (.agg #[v0,cv]),.int .i64 (fm:Int),.int .i64 (N:Int),.int .i64 n] 214)).alloc (.cells #[.int .i64 (u:Int)] 3):=⟨_,rfl⟩;have eN:Below W.heap.size W WS:=by rw[bI];exact((LG _ _).alloc (by simp) _).alloc (by simp;omega) _
  have iX:WS.heap.size=W.heap.size+3:=by rw[bI];simp
  have NS:ScN w3 WS Rs W.heap.size (.iface 260 (.agg #[v0,cv])) (.int .i64 (fm:Int)) (.int .i64 (N:Int)) (.int .i64 n) y aA (u:Int) l wk wl wm wp empty:=by
   have e1:=AY W (.cells #[.pointer none,.slice none 0 0] 217);have e2:=AY (W.alloc (.cells #[.pointer none,.slice none 0 0] 217)) (.cells #[.iface 260 (.agg #[v0,cv]),.int .i64 (fm:Int),.int .i64 (N:Int),.int .i64 n] 214);have e3:=AY ((W.alloc (.cells #[.pointer none,.slice none 0 0] 217)).alloc (.cells #[.iface 260 (.agg #[v0,cv]),.int .i64 (fm:Int),.int .i64 (N:Int),.int .i64 n] 214)) (.cells #[.int .i64 (u:Int)] 3);simp only[AU]at e2 e3;refine⟨aG.o.I eN,.inl ⟨AA _,.slice none 0 0,?_,World.ownsRowF_nil _ _ _ _,by simp[Value.ownBlock]⟩,?_,?_,λk e=>(aG.o.own.lt k e).2,iL⟩
   ·rw[bI,JL _ _ (by simp;omega),JL _ _ (by simp)];exact e1
   ·rw[bI,JL _ _ (by simp)];exact e2
   rw[bI];exact e3
  rw[<-bI];have eJ:=LE eN;have bC:=LE NS;clear bI eN NS
  refine wpIn_rangeFunc_ownH rfl (by omega) (gf:=210) (lb:=#[.pointer (some ⟨W.heap.size+1+1,0,none⟩),.pointer (some ⟨W.heap.size+1,0,none⟩)]) rfl trivial (enters_of func210 (by kernel_rfl) rfl)
   (rH 3 (by omega) (W.heap.size+1) (W.heap.size+1+1) fm N u SF n v0 cv w3 WS cP (by omega) bC.o.sl.be fC bC.o.g1 bC.o.g2)
   KpP.t (KpP.b (by omega) (by omega) (by omega)) (AB _ _) (λ_=>rfl)
   (λpre X=>InS first bT w3 Rs W.heap.size (.iface 260 (.agg #[v0,cv])) (.int .i64 (fm:Int)) (.int .i64 (N:Int)) (.int .i64 n) y aA u l pre X)
   (λcc pre X=>InX first bT w3 Rs W.heap.size (.iface 260 (.agg #[v0,cv])) (.int .i64 (fm:Int)) (.int .i64 (N:Int)) (.int .i64 n) y aA u l cc pre X)
   (InS.own _ (by omega)) (λcc=>InX.own _ (by omega) (by omega) cc)
   ⟨wk,wl,wm,wp,empty,bC.o,AH _,cB.o⟩
   (λx A' X=>∃P,X.heap[P]?=some (.cells #[.int .i64 (RF SF fm n x.1).1,.int .i64 (RF SF fm n x.1).2.1,.int .i64 (RF SF fm n x.1).2.2.1,.string (RF SF fm n x.1).2.2.2] 204 (0,0))/\W.heap.size+2<P/\A'={ tmps:=#[LN a ss.length c a' ws.length c',.int .i64 (fm:Int),.int .i64 (N:Int),.int .i64 first,.int .i64 aB,.int .i64 n,.pointer (some ⟨w.heap.size,0,none⟩),undef,undef,.pointer (some ⟨w.heap.size+1,0,none⟩),undef,undef,.pointer (some ⟨w.heap.size+1+1,0,none⟩),.pointer (some ⟨w3.heap.size,0,none⟩),.pointer (some ⟨w3.heap.size+1,0,none⟩),.pointer (some ⟨w3.heap.size+1+1,0,none⟩),.pointer (some ⟨W.heap.size,0,none⟩),.int .i64 (x.1:Int),.pointer (some ⟨P,0,none⟩),.agg #[.slice a ss.length c,.slice a' ws.length c'],.bool true,.bool false,.bool false,.int .i64 n,.bool true,.bool false,.bool false,.bool false,.pointer (some ⟨w.heap.size,0,none⟩),.slice a ss.length c,.int .i64 (ss.length:Int),.int .i64 (fm:Int),.int .i64 (N:Int),.bool true,.bool false,.bool false,undef,.agg #[.slice a ss.length c,.slice a' ws.length c'],.agg #[.slice (some ⟨g,0,none⟩) ss.length ss.length,v0],(.iface 260 (.agg #[v0,cv])),.int .i64 (fm:Int),.int .i64 (N:Int),.int .i64 n,.agg #[.iface 260 (.agg #[v0,cv]),.int .i64 (fm:Int),.int .i64 (N:Int),.int .i64 n],.int .i64 aB,.agg #[.slice none 0 0,.int .i64 0,.int .i64 aB],.int .i64 aB,.agg #[.int .i64 2,.int .i64 aB,.int .i64 0,.string ⟨#[]⟩],.pointer (some ⟨w3.heap.size+1,1,none⟩),.int .i64 (u:Int),.int .i64 (N:Int),.bool true,.agg #[.iface 260 (.agg #[v0,cv]),.int .i64 (fm:Int),.int .i64 (N:Int),.int .i64 n],.pointer (some ⟨w3.heap.size+1,1,none⟩),.int .i64 (u:Int),.func (.func 210) #[] #[.pointer (some ⟨W.heap.size+1+1,0,none⟩),.pointer (some ⟨W.heap.size+1,0,none⟩)],.int .i64 (x.1:Int),mw (RF SF fm n x.1),undef,undef,undef,undef,undef,undef,undef,undef,undef,undef,undef,undef,undef,undef,undef,undef,undef,undef,undef,undef,undef,undef,undef,undef],defers:=[] }) ?hax ?assign ?body ?done ?stop
  case hax =>
   rintro x a' s X Y row ⟨P,hP,hb,ha⟩ hg hr;refine⟨P,(hg.block P (AS.1 hP).1 (λe=>?_)).j hP,hb,ha⟩;obtain⟨_,o,ho,hc⟩:=hr P e.symm
   rw[hP]at ho;cases ho;cases hc
  case assign =>
   intro lp pre x X K hI hK
   have jB:WS.heap.size<=X.heap.size:=by
    obtain⟨wk,wl,wm,wp,op,aE,_,_⟩:=hI;have:=(AS.1 aE.g2).1;omega
   gi_wp2
   have cU:Below X.heap.size X (X.alloc (.cells #[.int .i64 (RF SF fm n x.1).1,.int .i64 (RF SF fm n x.1).2.1,.int .i64 (RF SF fm n x.1).2.2.1,.string (RF SF fm n x.1).2.2.2] 204)):=LG _ _;refine hK _ _ ((qu cU).from _) ⟨cU.i (by omega),cU.block _ (by omega),cU.block _ (by omega)⟩ (InS.own _ (AA _) _ _ _ none hI (fd cU) (λr e=>by cases e)) ⟨X.heap.size,AY _ _,by omega,?_⟩;rfl
  case body =>
   rintro lp pre x _ X i6 ⟨rr,iP⟩ ⟨wk,wl,wm,wp,op,aE,fY,bP⟩ ⟨P,hP,iZ,rfl⟩ i9;have eV:=x.2.1;obtain⟨pk,pl,pm,pp,bQ⟩:∃pk pl pm pp,RF SF fm n x.1=(pk,pl,pm,pp):=⟨_,_,_,_,rfl⟩;have jA:=(SR (jb x bQ)).2.2.2.2.2.2;have iD:=LE bQ;rw[bQ]at hP⊢;simp only at hP⊢;have aR:=LE (λhh=>bP.no (x:=x) bQ eP hh);have aX:=LE (λ(e1:pk=1) eT aM=>bP.part (x:=x) (by rw[bQ,e1]) eP eT aM);have aW:=LE (λeT aM hk=>bP.end (x:=x) bQ eP eT aM hk)
   have eG:Hid (Good u (pre++[x])->u<=x.1):=λhg=>by have:=hg.snoc.2;omega
   have gH:(pre++[x]).length=pre.length+1:=by simp
   obtain⟨px,dL⟩:∃px,px=pre++[x]:=⟨_,rfl⟩;rw[<-dL]at aR aX aW eG gH⊢;obtain⟨xn,gI⟩:∃xn,x.1=xn:=⟨_,rfl⟩;rw[gI]at aR aX aW eG eV⊢;clear bQ iD dL gI x bP
   obtain⟨Z,hZ⟩:∃Z,IntKind.i64.wrap (first+(xn:Int))=Z:=⟨_,rfl⟩
   rw[hZ]at aR aX aW;have b0:X.cell? ⟨w3.heap.size+1+1,0,none⟩=some (.int .i64 wk):=aE.sl.bb.x 0;have b1:X.cell? ⟨w3.heap.size+1+1,1,none⟩=some (.int .i64 wl):=aE.sl.bb.x 1;have b2:X.cell? ⟨w3.heap.size+1+1,2,none⟩=some (.int .i64 wm):=aE.sl.bb.x 2;have b3:X.cell? ⟨w3.heap.size+1+1,3,none⟩=some (.string wp):=aE.sl.bb.x 3;have bl:w3.heap.size+1+1<X.heap.size:=aE.sl.bb.lt;have fr:=(cL.o.I aE.sl.be).x 0;have iV:=(cL.o.I aE.sl.be).lt;have p0:=PX hP 0 (.int .i64 pk) rfl;have p1:=PX hP 1 (.int .i64 pl) rfl;have p2:=PX hP 2 (.int .i64 pm) rfl;have p3:=PX hP 3 (.string pp) rfl;have iG:=(AS.1 hP).1;have cE:=LE aE;have HP:=LE hP;have iY:W.heap.size+2<X.heap.size:=(AS.1 aE.g2).1;clear aE hP iP
   by_cases hm:pm=Z
   ·subst hm
    have dR:=LE (λwx=>tF wk wl wm wp pk pl pm pp wx)
    cases aM:PE wk wl pk pl with
    | false =>
     rw[aM]at dR;have HF:=LE (aR.o (by rw[aM];simp));clear aR aX aW aM
     gi_wp2_with (refine⟨trivial,?_⟩;gi_at_call 167;refine(show CallsIn Fence.wide _ _ _ _ _ _ from EL.2 (dR.o _)).i ?_;rintro e w5 ⟨rfl,aS⟩)
     exact⟨(qu aS).from _,.inl ⟨rfl,⟨wk,wl,wm,wp,cE.o.sl.I aS⟩,HF.o⟩⟩
    | true =>
     rw[aM]at dR;have aK:=LE (λe1=>aX.o e1 rfl (by rw[<-e1];exact aM));have aY:=LE (λhk=>aW.o rfl aM hk);clear aR aX aW aM;have eC:¬(P=w3.heap.size+1+1):=by omega
     have iO:¬(w3.heap.size+1+1=P):=by omega
     have eR:(Lib.byteCells op.data.toList).length+pp.size<=140737488355328:=by
      rw[rV];omega
     have cW:=Fo op pp
     have eB:∀(Y:World) (i:Nat) (v:Value),KeepsOthers Y (Y.setCell ⟨w3.heap.size+1+1,i,none⟩ v):=λY i v=>KeepsOthers.setCell _ _ _
     have eF:=LE cW;clear cW
     gi_upto_region 14 with (first
      | (refine⟨trivial,?_⟩;gi_at_call 167;refine(show CallsIn Fence.wide _ _ _ _ _ _ from EL.2 (dR.o _)).i ?_;rintro e w5 ⟨rfl,aS⟩;have aO:=cE.o.kept (fd aS) (λr e=>by cases e);have bU:=(aS.block P iG).j HP.o;clear p0 p1 p2 p3 b0 b1 b2 b3;have p0:=PX bU 0 (.int .i64 pk) rfl;have p1:=PX bU 1 (.int .i64 pl) rfl;have p2:=PX bU 2 (.int .i64 pm) rfl;have p3:=PX bU 3 (.string pp) rfl;have b0:w5.cell? ⟨w3.heap.size+1+1,0,none⟩=some (.int .i64 wk):=aO.sl.bb.x 0;have b1:w5.cell? ⟨w3.heap.size+1+1,1,none⟩=some (.int .i64 wl):=aO.sl.bb.x 1;have b2:w5.cell? ⟨w3.heap.size+1+1,2,none⟩=some (.int .i64 wm):=aO.sl.bb.x 2;have b3:w5.cell? ⟨w3.heap.size+1+1,3,none⟩=some (.string wp):=aO.sl.bb.x 3;have f0:w5.frozen? ⟨w3.heap.size+1+1,0,none⟩=false:=aO.sl.bb.q 0;have f1:w5.frozen? ⟨w3.heap.size+1+1,1,none⟩=false:=aO.sl.bb.q 1;have f2:w5.frozen? ⟨w3.heap.size+1+1,2,none⟩=false:=aO.sl.bb.q 2;have f3:w5.frozen? ⟨w3.heap.size+1+1,3,none⟩=false:=aO.sl.bb.q 3;have l5:=aS.size;have eH:=LE (aO.setWas pk pl pm pp);have iC:=LE bU;have eW:=LE aS;clear aO bU aS)
      | (refine⟨trivial,?_⟩;gi_at_call 168;refine(show CallsIn Fence.wide _ _ _ _ _ _ from EL.2 (xK W.heap.size W.heap.size (Lib.byteCells op.data.toList) pp _ eH.o.bu eR (by simp;omega))).i ?_;rintro e w9 ⟨rfl,cV,aL,dZ⟩;obtain⟨ba,cT⟩:=oK eH.o.bu;have b7:=oG cT dZ aL.size;have fQ:=eH.o.wrote (op':=op++pp) aL dZ (.inr (by rw[eF.o,Lib.byteCells_append];exact cV));have fS:=(dZ P _ ((BD _ _ _ _ eC).j ((BD _ _ _ _ eC).j ((BD _ _ _ _ eC).j ((BD _ _ _ _ eC).j iC.o)))) (by intro e;cases e;omega) (by intro cc fz e;simp at e));have fA:=LE ((qu eW.o).j ((eB _ _ _).j ((eB _ _ _).j ((eB _ _ _).j ((eB _ _ _).j b7)))));have gX:=LE (((((eW.o.i (show w3.heap.size<=X.heap.size by omega)).setCell (p:=⟨w3.heap.size+1+1,0,none⟩) (by show w3.heap.size<=w3.heap.size+1+1;omega) (.int .i64 pk)).setCell (p:=⟨w3.heap.size+1+1,1,none⟩) (by show w3.heap.size<=w3.heap.size+1+1;omega) (.int .i64 pl)).setCell (p:=⟨w3.heap.size+1+1,2,none⟩) (by show w3.heap.size<=w3.heap.size+1+1;omega) (.int .i64 pm)).setCell (p:=⟨w3.heap.size+1+1,3,none⟩) (by show w3.heap.size<=w3.heap.size+1+1;omega) (.string pp) |>.j (aL.i (by omega)));have dU:=LE fQ;have cH:=LE fS;have l9:w5.heap.size<=w9.heap.size:=(by have:=aL.size;simpa using this);clear cV aL dZ cT b7 fQ fS p0 p1 p2 p3 b0 b1 b2 b3 f0 f1 f2 f3))
     have p0:=PX cH.o 0 (.int .i64 pk) rfl;have p1:=PX cH.o 1 (.int .i64 pl) rfl;have p2:=PX cH.o 2 (.int .i64 pm) rfl;have p3:=PX cH.o 3 (.string pp) rfl;have iW:P<w9.heap.size:=by omega
     by_cases bW:pk=1
     ·have HI:Hid (InS first bT w3 Rs W.heap.size (.iface 260 (.agg #[v0,cv])) (.int .i64 (fm:Int)) (.int .i64 (N:Int)) (.int .i64 n) y aA u l px w9):=⟨pk,pl,pm,pp,op++pp,dU.o,by rw[DI,gH];omega,by have:=aK.o bW;rw[bW];exact this⟩
      have eQ:(pk != 1)=false:=by simp[bW]
      clear aK aY
      gi_wp2
      exact⟨fA.o.from _,⟨gX.o,dU.o.g1.j cE.o.g1.symm,dU.o.g2.j cE.o.g2.symm⟩,HI.o⟩
     have eQ:(pk != 1)=true:=by simp[bW]
     have cC:=LE (aY.o bW);have cQ:=dU.o.kept (W':=w9.drew) (row:=none) ⟨rfl,rfl,rfl,AA _,λ_ _ _=>rfl⟩ (λr e=>by cases e);have aZ:=LE cQ;have fH:=LE (λwx iH hs=>Iu W.heap.size W.heap.size (op++pp).data.toList wx iH hs);have gF:=yJ (op++pp);rw[gF]at fH;clear gF cQ aK aY bW
     gi_upto_region 15 with fail
     gi_region_with (first
      | (refine⟨trivial,?_⟩;gi_at_call 170;refine(show CallsIn Fence.wide _ _ _ _ _ _ from EL.2 (fH.o _ aZ.o.bu (by simp;omega))).i ?_;rintro e gV ⟨rfl,aT,aP,aQ⟩;obtain⟨ba,cT⟩:=oK aZ.o.bu;have b7:=oG cT aQ aP.size;have iA:=LE (fA.o.j (⟨b7.size,b7.same⟩:KeepsOthers w9 gV));have cO:=aZ.o.wrote (op':=op++pp) aP aQ aT;have aH:=aQ P _ (show w9.drew.heap[P]?=_ from cH.o) (by intro e;cases e;omega) (by intro cc fz e;simp at e);have r0:=PX aH 0 (.int .i64 pk) rfl;have r1:=PX aH 1 (.int .i64 pl) rfl;have r2:=PX aH 2 (.int .i64 pm) rfl;have r3:=PX aH 3 (.string pp) rfl;have jE:w9.heap.size<=gV.heap.size:=aP.size;have aJ:=LE cO;have iB:=LE aH;clear aT aP aQ cT b7 cO aH)
      | (refine⟨trivial,?_⟩;gi_at_call 169;refine(show CallsIn Fence.wide _ _ _ _ _ _ from EL.2 (uG w3.heap.size (w3.heap.size+1) y aA (u:Int) l pk pl pm pp (op++pp) xn _ aJ.o.sl.fb aJ.o.sl.own (by omega) (by omega) (aJ.o.sl.own_ne (by omega)) (by omega) (by omega))).i ?_;rintro e jG ⟨rfl,gG⟩;have fJ:=LE gG;clear gG))
     all_goals
      gi_wp2
      obtain⟨y2,eM⟩:=aJ.o.sl.take fJ.o;refine⟨(iA.o.j (aJ.o.sl.takeKeeps fJ.o)).from _,.inr ⟨rfl,xn,y2,(if pk=2 then aA++[op++pp] else aA),pl,pk,pl,pm,pp,?_,eV,λhg=>⟨eG.o hg,?_,?_⟩⟩⟩
      ·rw[show((xn+1:Nat):Int)=(xn:Int)+1 by omega]
       exact eM
      ·split
       ·simp
       omega
      ·rw[show((xn+1:Nat):Int)=(xn:Int)+1 by omega]
       exact cC.o hg
   have i7:(pm == Z)=false:=by simp[hm]
   have iN:(pm != Z)=true:=by simp[hm]
   have HF:=LE (aR.o (λh=>hm h.1));clear aR aX aW
   gi_wp2
   refine⟨trivial,?_⟩
   gi_wp2
   exact⟨KeepsFrom.refl _ _,.inl ⟨rfl,⟨wk,wl,wm,wp,cE.o.sl⟩,HF.o⟩⟩
  case done =>
   rintro D xs X hD ⟨dV,cX⟩ ⟨wk,wl,wm,wp,op,aE,fY,bP⟩ bF;have HF:=LE (bP.done dV cX);have HZ:=LE (aE.sl.push bF (by omega) (by omega));clear bP cX aE fY bF aG bC eJ cB;have zl:=HZ.o.fb.lt
   obtain⟨ya,yc,dQ⟩:∃ya yc,y=Value.slice ya aA.length yc:=by
    rcases MM HZ.o.own with ⟨h1,h2⟩|⟨gg,cap,h1,_⟩
    ·exact⟨none,0,by rw[h1,h2]⟩
    exact⟨_,cap,h1⟩
   subst dQ;have z0:X.cell? ⟨w3.heap.size+1,0,none⟩=some (Value.slice ya aA.length yc):=HZ.o.fb.x 0;have z1:X.cell? ⟨w3.heap.size+1,1,none⟩=some (.int .i64 (u:Int)):=HZ.o.fb.x 1;have z2:X.cell? ⟨w3.heap.size+1,2,none⟩=some (.int .i64 l):=HZ.o.fb.x 2;have rb:=aD.o.I HZ.o.be;obtain⟨y0,y1,y2⟩:=rb.k3;obtain⟨x0,x1,x2⟩:=rb.z3;have xl:=rb.lt;have dB:¬(w.heap.size+1+1=w3.heap.size+1):=by omega
   have aU:¬(w3.heap.size+1=w.heap.size+1+1):=by omega
   clear rb
   gi_wp2
   have aC:=HZ.o.fin (w:=w) aD.o (by omega) aI.o;refine je w3.heap.size (ScF1 w w3 (w.heap.size+1+1) (Value.slice ya aA.length yc) aA (u:Int) l) (λX r h1 h2 h3=>ScF1.put aF X r h1 h2 h3) (λX hX=>?_) (D::Rs) _ HZ.o.nd aC.2 aC.1;obtain⟨dM,dF,aL⟩:=hX;obtain⟨e0,e1,e2⟩:=dM.k3;refine⟨.agg #[Value.slice ya aA.length yc,.int .i64 (u:Int),.int .i64 l],by simp[results,results121,go_sem,e0,e1,e2],?_⟩;rw[<-HF.o];exact⟨_,rfl,km dF aF,aL⟩
  case stop =>
   rintro D cc pre X hD dV hx bF;rcases hx with ⟨rfl,⟨wk,wl,wm,wp,hl⟩,cY⟩|⟨rfl,x,y',ents',l',wk,wl,wm,wp,hl,eV,cY⟩
   ·have HF:=LE (cY dV)
    have HZ:=LE (hl.push bF (by omega) (by omega));clear cY hl bF aG bC eJ cB;have zl:=HZ.o.fb.lt
    obtain⟨ya,yc,dQ⟩:∃ya yc,y=Value.slice ya aA.length yc:=by
     rcases MM HZ.o.own with ⟨h1,h2⟩|⟨gg,cap,h1,_⟩
     ·exact⟨none,0,by rw[h1,h2]⟩
     exact⟨_,cap,h1⟩
    subst dQ;have z0:X.cell? ⟨w3.heap.size+1,0,none⟩=some (Value.slice ya aA.length yc):=HZ.o.fb.x 0;have z1:X.cell? ⟨w3.heap.size+1,1,none⟩=some (.int .i64 (u:Int)):=HZ.o.fb.x 1;have z2:X.cell? ⟨w3.heap.size+1,2,none⟩=some (.int .i64 l):=HZ.o.fb.x 2;have rb:=aD.o.I HZ.o.be;obtain⟨y0,y1,y2⟩:=rb.k3;obtain⟨x0,x1,x2⟩:=rb.z3;have xl:=rb.lt;have dB:¬(w.heap.size+1+1=w3.heap.size+1):=by omega
    have aU:¬(w3.heap.size+1=w.heap.size+1+1):=by omega
    clear rb
    gi_wp2
    have aC:=HZ.o.fin (w:=w) aD.o (by omega) aI.o;refine je w3.heap.size (ScF1 w w3 (w.heap.size+1+1) (Value.slice ya aA.length yc) aA (u:Int) l) (λX r h1 h2 h3=>ScF1.put aF X r h1 h2 h3) (λX hX=>?_) (D::Rs) _ HZ.o.nd aC.2 aC.1;obtain⟨dM,dF,aL⟩:=hX;obtain⟨e0,e1,e2⟩:=dM.k3;refine⟨.agg #[Value.slice ya aA.length yc,.int .i64 (u:Int),.int .i64 l],by simp[results,results121,go_sem,e0,e1,e2],?_⟩;rw[<-HF.o];exact⟨_,rfl,km dF aF,aL⟩
   obtain⟨jD,i5,hc⟩:=cY dV
   have HZ:=LE (hl.push bF (by omega) (by omega));have HC:=LE hc;clear cY hl bF hc aG bC eJ cB
   gi_wp2
   exact⟨N-(x+1),by omega,D::Rs,y',ents',x+1,l',wk,wl,wm,wp,_,_,_,_,_,_,_,_,_,rfl,rfl,by omega,by omega,HZ,HC⟩
 have HF:=LE (cB.o.done (Good.nil u) (.inl (by simp;omega)))
 have HZ:=aG;have eS:¬((u:Int)<(N:Int)):=by omega
 have zl:=HZ.o.fb.lt
 obtain⟨ya,yc,dQ⟩:∃ya yc,y=Value.slice ya aA.length yc:=by
  rcases MM HZ.o.own with ⟨h1,h2⟩|⟨gg,cap,h1,_⟩
  ·exact⟨none,0,by rw[h1,h2]⟩
  exact⟨_,cap,h1⟩
 subst dQ;have z0:W.cell? ⟨w3.heap.size+1,0,none⟩=some (Value.slice ya aA.length yc):=HZ.o.fb.x 0;have z1:W.cell? ⟨w3.heap.size+1,1,none⟩=some (.int .i64 (u:Int)):=HZ.o.fb.x 1;have z2:W.cell? ⟨w3.heap.size+1,2,none⟩=some (.int .i64 l):=HZ.o.fb.x 2;have rb:=aD.o.I HZ.o.be;obtain⟨y0,y1,y2⟩:=rb.k3;obtain⟨x0,x1,x2⟩:=rb.z3;have xl:=rb.lt;have dB:¬(w.heap.size+1+1=w3.heap.size+1):=by omega
 have aU:¬(w3.heap.size+1=w.heap.size+1+1):=by omega
 clear rb
 gi_wp2
 have aC:=HZ.o.fin (w:=w) aD.o (by omega) aI.o;refine je w3.heap.size (ScF1 w w3 (w.heap.size+1+1) (Value.slice ya aA.length yc) aA (u:Int) l) (λX r h1 h2 h3=>ScF1.put aF X r h1 h2 h3) (λX hX=>?_) Rs _ HZ.o.nd aC.2 aC.1;obtain⟨dM,dF,aL⟩:=hX;obtain⟨e0,e1,e2⟩:=dM.k3;refine⟨.agg #[Value.slice ya aA.length yc,.int .i64 (u:Int),.int .i64 l],by simp[results,results121,go_sem,e0,e1,e2],?_⟩;rw[<-HF.o];exact⟨_,rfl,km dF aF,aL⟩
end
section
open Tryz
open Go.RowKit
theorem zQ(a:Option Addr)(ss:List ByteArray)(c:Nat)(a':Option Addr)(ws:List (Int×ByteArray))(c':Nat)(frm size first aC n:Int)(w:World)(h:Strs w a ss)(h':Wrs w a' ws)(hl:ss.length<=1048576)(aG:ws.length<=1048576)(hs:∀s∈ss,s.size<=1048576)(aH:∀x∈ws,x.2.size<=1048576)(aE:-9223372036854775808<=frm/\frm<=9223372036854775807)(aF:¬UM ss ws frm size n):Calls prog 121 #[LN a ss.length c a' ws.length c',.int .i64 frm,.int .i64 size,.int .i64 first,.int .i64 aC,.int .i64 n] w λe w'=>YH w w' e ([],0,0):=by
 have aD:∀o1 o2 o3,Below w.heap.size w (((w.alloc o1).alloc o2).alloc o3):=λo1 o2 o3=>((LG _ _).alloc (by simp) _).alloc (by simp;omega) _
 have HV:=LE (λ(wx:World) (hb:Below w.heap.size w wx)=>UI a ss c a' ws c' wx (h.I hb) (h'.I hb) hl aG hs aH);have HT:=LE (λwx=>ut ss.length frm size hl aE.1 aE.2 wx)
 cases hok:LS ss ws
 focus
  have hd:decide (1<=n/\n<=8)=decide (1<=n/\n<=8):=rfl;have ht:decide (0<=frm/\0<=size/\size<=(ss.length:Int)-frm)=decide (0<=frm/\0<=size/\size<=(ss.length:Int)-frm):=rfl
 rotate_left
 focus
  by_cases hn:1<=n/\n<=8
  focus
   have hd:decide (1<=n/\n<=8)=true:=AO hn;have ht:decide (0<=frm/\0<=size/\size<=(ss.length:Int)-frm)=false:=AI (λhh=>aF ⟨hok,hn,hh.1,hh.2.1,by omega,hh.2.2⟩)
  rotate_left
  focus
   have hd:decide (1<=n/\n<=8)=false:=AI hn;have ht:decide (0<=frm/\0<=size/\size<=(ss.length:Int)-frm)=decide (0<=frm/\0<=size/\size<=(ss.length:Int)-frm):=rfl
  rotate_left
 rotate_left 2
 all_goals
  clear aF;go_enter func121,ntmps121;go_wp2;refine wp_scope_straight ?_
  go_wp2_with (first|(go_at_call 73;refine(HV.o _ (aD _ _ _)).i ?_;rw[hok];rintro e w1 ⟨rfl,aB⟩;have r6:=(((NT w #[.slice a ss.length c,.slice a' ws.length c'] 44 w.heap.size rfl).alloc (.cells #[.int .i64 first] 3)).alloc (.cells #[.slice none 0 0,.int .i64 0,.int .i64 0] 175)).I aB;have aA:=(NT ((w.alloc (.cells #[.slice a ss.length c,.slice a' ws.length c'] 44)).alloc (.cells #[.int .i64 first] 3)) #[.slice none 0 0,.int .i64 0,.int .i64 0] 175 (w.heap.size+1+1) (by simp)).I aB;have HB:=LE ((aD (.cells #[.slice a ss.length c,.slice a' ws.length c'] 44) (.cells #[.int .i64 first] 3) (.cells #[.slice none 0 0,.int .i64 0,.int .i64 0] 175)).j (aB.i (by simp<;>omega)));have q0:=r6.x 0;have ql:=r6.lt;have b0:=aA.x 0;have b1:=aA.x 1;have b2:=aA.x 2;have aI:=aA.q 0;have aJ:=aA.q 1;have aK:=aA.q 2;have bl:=aA.lt;clear aB r6 aA)|(go_at_call 72;refine(QZ _ _).i ?_;rw[hd];refine MT ?_)|(go_at_call 165;refine(HT.o _).i ?_;rw[ht];refine MT ?_))
  try simp only[Exit.noGoto]
  refine AJ (v:=.agg #[.slice none 0 0,.int .i64 0,.int .i64 0]) (by simp[results,results121,go_sem,b0,b1,b2]) rfl ?_;exact⟨.slice none 0 0,rfl,BZ _ _ _ _,((HB.o.setCell (by show w.heap.size<=w.heap.size+1+1;omega) _).setCell (by show w.heap.size<=w.heap.size+1+1;omega) _).setCell (by show w.heap.size<=w.heap.size+1+1;omega) _⟩
theorem sH(a:Option Addr)(ss:List ByteArray)(c:Nat)(a':Option Addr)(ws:List (Int×ByteArray))(c':Nat)(frm size first aA n:Int)(w:World)(h:Strs w a ss)(h':Wrs w a' ws)(hl:ss.length<=1048576)(aC:ws.length<=1048576)(hs:∀s∈ss,s.size<=1048576)(aD:∀x∈ws,x.2.size<=1048576)(aF:-9223372036854775808<=frm/\frm<=9223372036854775807)(aE:-9223372036854775808<=first/\first<=9223372036854775807)
  (ty:TypeId)(v:Value)(hv:w.cell? ⟨1,0,none⟩=some (.iface ty v))(h0:w.cell? ⟨0,0,none⟩=some (.iface 318 (.agg #[.pointer (some ⟨3,223,none⟩)])))(hg:1<w.heap.size):Calls prog 121 #[LN a ss.length c a' ws.length c',.int .i64 frm,.int .i64 size,.int .i64 first,.int .i64 aA,.int .i64 n] w λe w'=>YH w w' e (RM ss ws frm size first aA n):=by
 by_cases aB:UM ss ws frm size n
 ·exact Db a ss c a' ws c' frm size first aA n w h h' hl aC hs aD aE ty v hv h0 hg aB
 have e:RM ss ws frm size first aA n=([],0,0):=by unfold RM;rw[AE aB]
 rw[e]
 exact zQ a ss c a' ws c' frm size first aA n w h h' hl aC hs aD aF aB
section
def XU(P:List (List Pr))(k i:Nat):List Pr:=QA (k+2*NL (P.take i)) (P.getD i []).length
def WP(P:List (List Pr))(k j i:Nat):List Pr:=if i<j then XU P k i else P.getD i []
theorem Iq(P:List (List Pr))(k j i:Nat):(WP P k j i).length=(P.getD i []).length:=by unfold WP;split;exact XX _ _;rfl
theorem tQ(p:Option Addr)(P:List (List Pr))(c k:Nat)(o:Nat->Nat)(w:World)(h:UY w o p P)(hk:0<k)(hl:k+2*NL P<=100000000)(hP:P.length<=1048576):Calls prog 46 #[.slice p P.length c,.int .i64 (k:Int)] w λe w'=>e=.returned (.int .i64 ((k+2*NL P:Nat):Int))/\Only o (λl=>7<=l) w w'/\PsR w' o p P.length (XU P k):=by
 have HH:=LE h;clear h;go_enter func46,ntmps46;go_wp2;go_loopw [1,5] (λx i wr=>∃j:Nat,j<=P.length/\i=.int .i64 (j:Int)/\x=.int .i64 ((k+2*NL (P.take j):Nat):Int)/\Only o (λl=>7<=l) w wr/\PsR wr o p P.length (WP P k j)) (λ_ i _=>P.length-(intOf i).toNat)
 case atStart=>exact⟨0,AH _,rfl,by simp[NL],XP (AB _ _),HH.o.congr (λi _=>by simp[WP])⟩
 case round =>
  obtain⟨j,hj,rfl,rfl,aB,aA⟩:=hrel
  by_cases aH:j<P.length
  ·have aJ:(j:Int)<(P.length:Int):=by omega
   have aK:(0:Int)<=(j:Int):=by omega
   obtain⟨b,p',c',rfl,lb,hc,ho,aC⟩:=aA.put aH;rw[Iq]at hc aC;have e0:WP P k j j=P.getD j []:=by simp[WP]
   rw[e0]at ho;have t1:=qV P j aH;have t2:=sp P (j+1);obtain⟨rs,aD⟩:∃rs,Hid (rs=P.getD j []):=⟨_,LE rfl⟩;obtain⟨n,HN⟩:∃n,Hid (n=k+2*NL (P.take j)):=⟨_,LE rfl⟩;have HE:=LE (λw' x=>tm p' (P.getD j []) c' n w' x (by have:=HN.o;omega) (by have:=HN.o;omega));rw[<-aD.o]at hc HE t1;rw[<-HN.o];obtain⟨n2,aG⟩:∃n2:Nat,Hid (n2=n+2*rs.length):=⟨_,LE rfl⟩;rw[<-aG.o]at HE;have HO:=LE ho;have HW:=LE aB;have HP:=LE aC;clear aB aA ho aC;go_wp2_with (go_at_call 95;refine(HE.o _ (by rw[aD.o];exact HO.o.own)).i ?_;rintro e w3 ⟨rfl,aE,aI⟩);have hN:=aG.o;have hn:=HN.o;rw[aD.o]at aE aI;refine⟨⟨j+1,by omega,by go_num,?_,HW.o.j (VH aE (λg e=>by rw[HO.o.prb e];omega)),(HP.o w3 _ aE aI (XX _ _)).congr (λi hi=>?_)⟩,by simp[intOf];omega⟩
   ·congr 2;omega
   unfold WP
   by_cases aF:i=j
   ·rw[AK aF,AK (by omega),aF];unfold XU;rw[hn]
   rw[AE aF]
   by_cases h2:i<j
   ·rw[AK h2,AK (by omega)]
   rw[AE h2,AE (by omega)]
  obtain rfl:j=P.length:=by omega
  rw[DC];have HW:=LE aB;have HR:=LE aA;clear aA aB;go_wp2;go_ret;exact⟨rfl,HW.o,HR.o.congr (λi hi=>by unfold WP;rw[AK hi])⟩
theorem Ah(p:Option Addr)(P:List (List Pr))(c k:Nat)(o:Nat->Nat)(w:World)(h:PsR w o p P.length (XU P k))(hk:0<k)(hl:k+2*NL P<=100000000)(hP:P.length<=1048576):Calls prog 52 #[.slice p P.length c,.int .i64 (k:Int)] w λe w'=>e=.returned (.int .i64 ((k+2*NL P:Nat):Int))/\Below w.heap.size w w':=by
 have HH:=LE h;clear h;go_enter func52,ntmps52;go_wp2;go_loopw [1,5] (λx i wr=>∃j:Nat,j<=P.length/\i=.int .i64 (j:Int)/\x=.int .i64 ((k+2*NL (P.take j):Nat):Int)/\Below w.heap.size w wr) (λ_ i _=>P.length-(intOf i).toNat)
 case atStart=>exact⟨0,AH _,rfl,by simp[NL],AB _ _⟩
 case round =>
  obtain⟨j,hj,rfl,rfl,aA⟩:=hrel
  by_cases aC:j<P.length
  ·have aE:(j:Int)<(P.length:Int):=by omega
   have aF:(0:Int)<=(j:Int):=by omega
   obtain⟨b,p',c',rfl,lb,hc,ho,_⟩:=(HH.o.only (K:=λ_=>False) (XP aA) (λk=>k) (λ_ k=>k)).put aC;have t1:=qV P j aC;have t2:=sp P (j+1);obtain⟨m,HM⟩:∃m,Hid (m=(P.getD j []).length):=⟨_,LE rfl⟩;obtain⟨n,HN⟩:∃n,Hid (n=k+2*NL (P.take j)):=⟨_,LE rfl⟩;have e0:XU P k j=QA n m:=by unfold XU;rw[HM.o,HN.o]
   rw[e0]at hc ho;rw[XX]at hc;rw[<-HM.o]at t1;have HE:=LE (λw' x=>sm p' m c' n w' x (by have:=HN.o;omega) (by have:=HN.o;omega));rw[<-HN.o];obtain⟨n2,aB⟩:∃n2:Nat,Hid (n2=n+2*m):=⟨_,LE rfl⟩;rw[<-aB.o]at HE;have aG:(0:Int)<=(n2:Int):=by omega
   clear e0;have HO:=LE ho;have HW:=LE aA;clear aA ho;go_wp2_with (go_at_call 99;refine(HE.o _ HO.o.own).i ?_;rintro e w3 ⟨rfl,aD⟩);have hN:=aB.o;have hn:=HN.o;refine⟨⟨j+1,by omega,by go_num,?_,HW.o.j (aD.i HW.o.size)⟩,by simp[intOf];omega⟩
   congr 2;omega
  obtain rfl:j=P.length:=by omega
  rw[DC];have HW:=LE aA;clear aA;go_wp2;go_ret;exact⟨rfl,HW.o⟩
def wk1(x:Wo):Nat:=1+x.ss.length+2*x.ws.length
def wk2(x:Wo):Nat:=wk1 x+2*x.rs.length
def wk3(x:Wo):Nat:=wk2 x+2*NL x.P
def wk4(x:Wo):Nat:=wk3 x+x.ts.length
abbrev tx(x:Wo)(w:World)(q:Wp)(o:Nat->Nat):Prop:=WoG ((SA 1 x.ss.length).map Value.string) (LU (RQ (1+x.ss.length) x.ws.length)) (LI (QA (wk1 x) x.rs.length)) x.P.length (XU x.P (wk2 x)) ((SA (wk3 x) x.ts.length).map Value.string) w q o
theorem YF{ss:List ByteArray}(h:ss.map Value.string=[]):ss.length=0:=by have:=BT List.length h;simpa using this
theorem aa{ws:List (Int×ByteArray)}(h:LU ws=[]):ws.length=0:=by
 cases ws with
 | nil=>rfl
 | cons a l=>simp[LU]at h
theorem wX{rs:List Pr}(h:LI rs=[]):rs.length=0:=by have:=BT List.length h;rw[RC,AR]at this;omega
theorem OwL.other{w w':World}{o:Nat->Nat}{k:Nat}{a:Option Addr}{cs aA:List Value}(h:OwL w o k a cs)(h':OwnS w' a aA)(e:aA≠[]->cs≠[]):OwL w' o k a aA :=mv h' (λg e1 e2=>h.gb (m:=1) (λe3=>absurd e3 (e e2)) (by rw[e1];rfl))
theorem OwL.apart{w:World}{o:Nat->Nat}{k k' m m':Nat}{a a':Option Addr}{cs aA:List Value}(h:OwL w o k a cs)(h':OwL w o k' a' aA)(hk:k≠k')(hm:cs=[]->m=0)(aB:aA=[]->m'=0):blk a m=none\/blk a' m'=none\/blk a m≠blk a' m':=by
 cases e:blk a m with
 | none=>exact .inl rfl
 | some g=>exact .inr (.inr λe'=>hk ((h.gb hm e).symm.j (h'.gb aB e'.symm)))
theorem Row.only{w w':World}{o:Nat->Nat}{K:Nat->Prop}{g:Nat}{cs:List Value}(r:Row w g cs)(hc:Only o K w w')(hk:¬K (o g)):Row w' g cs:=QW r (hc.block g r.lt hk) (AD r.lt hc.size)
section
variable (x:Wo) (q:Wp) (o:Nat->Nat) (w:World)
theorem pZ(h:OO x w q o)(ho:∀b,o b≠0->b<w.heap.size)(hm:x.le 1048576)(ht:NL x.P<=1048576):Calls prog 12 #[MD x q,.int .i64 1] w λe w'=>e=.returned (.int .i64 (wk4 x:Int))/\Only o (λk=>k≠0) w w'/\tx x w' q o:=by
 obtain⟨m1,_,m2,_,m3,_,m4,_,m5,_⟩:=hm;have e1:wk1 x=1+x.ss.length+2*x.ws.length:=rfl;have e2:wk2 x=wk1 x+2*x.rs.length:=rfl;have e3:wk3 x=wk2 x+2*NL x.P:=rfl;have CD:=LE (λw' o=>zT q.a x.ss q.c q.a' x.ws q.c' 1 w' o (by omega) (by omega));have CS:=LE (λw' o=>Cn x.W x.S x.L x.T x.H x.F x.R x.U x.O q.s x.rs q.cs (wk1 x) w' o (by omega) (by omega));have CP:=LE (λw' k=>tQ q.p x.P q.cp (wk2 x) o w' k (by omega) (by omega) m4);have CT:=LE (λw' o=>yy q.t x.ts q.ct (wk3 x) w' o (by omega) (by omega));rw[<-e1]at CD;rw[<-e2]at CS;rw[<-e3]at CP;rw[show wk3 x+x.ts.length=wk4 x from rfl]at CT;unfold LN at CD;unfold LV at CS;unfold MD;clear e1 e2 e3;have HH:=LE h;clear h;go_enter func12,ntmps12;go_wp2_with fail;generalize aG:w.alloc _=v1;obtain⟨hb,z,bA⟩:=LJ aG;clear aG z;have H1:=HH.o.I hb
 have o0:o w.heap.size=0:=IW λk=>by have:=ho _ k;omega
 have rA:=bA.l;have W1:Only o (λk=>k≠0) w v1:=XP hb;refine(CD.o v1 ⟨H1.h1.own,H1.h2.own,H1.h1.apart H1.h2 (by omega) YF aa⟩).i ?_;rintro e w1 ⟨rfl,⟨wa,wb,ma,mb,mc⟩,hd⟩;have V:Only o (λk=>k=1\/k=2) v1 w1:=((XP ma).j (VH mb (λg e=>.inl (H1.h1.gb YF e)))).j (VH mc (λg e=>.inr (H1.h2.gb aa e)));have rA:=rA.only V (by rw[o0];omega);have H2:=WoG.mk (H1.h1.other hd.s (λk e=>k (by rw[YF e];rfl))) (H1.h2.other hd.p (λk e=>k (by rw[aa e];rfl))) (H1.h3.only V (by omega)) (H1.h4.only V (by omega) (λi=>by omega)) (H1.h5.only V (by omega));have W1:=W1.j (V.i (λk _=>by omega));clear V ma mb mc hd hb bA H1;obtain⟨q0,q1,q2,q3,q4,q5,q6,q7,q8,q9,aA,aB,aC,aD,aE,aF,ql⟩:=c16 rA;go_wp2_with fail;refine(CS.o w1 H2.h3.own).i ?_;rintro e w2 ⟨rfl,hg,hd⟩;clear q0 q1 q2 q3 q4 q5 q6 q7 q8 q9 aA aB aC aD aE aF ql;have V:Only o (λk=>k=3) w1 w2:=VH hg (λg e=>H2.h3.prb e)
 have rA:=rA.only V (by rw[o0];omega);have H3:=WoG.mk (H2.h1.only V (by omega)) (H2.h2.only V (by omega)) (H2.h3.other hd (λk e=>k (by rw[wX e];rfl))) (H2.h4.only V (by omega) (λi=>by omega)) (H2.h5.only V (by omega));have W1:=W1.j (V.i (λk _=>by omega));clear V hg hd H2;obtain⟨q0,q1,q2,q3,q4,q5,q6,q7,q8,q9,aA,aB,aC,aD,aE,aF,ql⟩:=c16 rA;go_wp2_with fail;refine(CP.o w2 H3.h4).i ?_;rintro e w3 ⟨rfl,V,hd⟩;clear q0 q1 q2 q3 q4 q5 q6 q7 q8 q9 aA aB aC aD aE aF ql;have rA:=rA.only V (by rw[o0];omega);have H4:=WoG.mk (H3.h1.only V (by omega)) (H3.h2.only V (by omega)) (H3.h3.only V (by omega)) hd (H3.h5.only V (by omega));have W1:=W1.j (V.i (λk _=>by omega));clear V hd H3;obtain⟨q0,q1,q2,q3,q4,q5,q6,q7,q8,q9,aA,aB,aC,aD,aE,aF,ql⟩:=c16 rA;go_wp2_with fail;refine(CT.o w3 H4.h5.own).i ?_;rintro e w4 ⟨rfl,hg,hd⟩;have V:Only o (λk=>k=4) w3 w4:=VH hg (λg e=>H4.h5.gb YF e)
 have H5:=WoG.mk (H4.h1.only V (by omega)) (H4.h2.only V (by omega)) (H4.h3.only V (by omega)) (H4.h4.only V (by omega) (λi=>by omega)) (H4.h5.other hd (λk e=>k (by rw[YF e];rfl)));have W1:=LE (W1.j (V.i (λk _=>by omega)));have H5:=LE H5;clear V hg hd H4 rA;go_wp2;go_ret;exact⟨rfl,W1.o,H5.o⟩
theorem Id(h:tx x w q o)(hm:x.le 1048576)(ht:NL x.P<=1048576):Calls prog 14 #[MD x q,.int .i64 1] w λe w'=>e=.returned (.int .i64 (wk4 x:Int))/\Below w.heap.size w w':=by
 obtain⟨m1,_,m2,_,m3,_,m4,_,m5,_⟩:=hm;have e1:wk1 x=1+x.ss.length+2*x.ws.length:=rfl;have e2:wk2 x=wk1 x+2*x.rs.length:=rfl;have e3:wk3 x=wk2 x+2*NL x.P:=rfl;have CD:=LE (λw' k1 k2=>Fx q.a x.ss.length q.c q.a' x.ws.length q.c' 1 w' k1 k2 (by omega) (by omega));have CS:=LE (λw' o=>Dh x.W x.S x.L x.T x.H x.F x.R x.U x.O q.s x.rs.length q.cs (wk1 x) w' o (by omega) (by omega));have CP:=LE (λw' k=>Ah q.p x.P q.cp (wk2 x) o w' k (by omega) (by omega) m4);have CT:=LE (λw' o=>tj q.t x.ts.length q.ct (wk3 x) w' o (by omega) (by omega));rw[<-e1]at CD;rw[<-e2]at CS;rw[<-e3]at CP;rw[show wk3 x+x.ts.length=wk4 x from rfl]at CT;have p1:(0:Int)<=(wk1 x:Int):=by omega
 have p2:(0:Int)<=(wk2 x:Int):=by omega
 have p3:(0:Int)<=(wk3 x:Int):=by omega
 have p4:(0:Int)<=(wk4 x:Int):=by omega
 unfold LN at CD;unfold LV at CS;unfold MD;clear e1 e2 e3;have HH:=LE h;clear h;go_enter func14,ntmps14;go_wp2_with fail;generalize aG:w.alloc _=v1;obtain⟨hb,z,bA⟩:=LJ aG;clear aG z;have rA:=bA.l;clear bA;refine(CD.o v1 (HH.o.I hb).h1.own (HH.o.I hb).h2.own).i ?_;rintro e w1 ⟨rfl,hg⟩;have rA:=rA.I hg;have hb:=hb.j (hg.i hb.size);clear hg;obtain⟨q0,q1,q2,q3,q4,q5,q6,q7,q8,q9,aA,aB,aC,aD,aE,aF,ql⟩:=c16 rA;go_wp2_with fail;refine(CS.o w1 (HH.o.I hb).h3.own).i ?_;rintro e w2 ⟨rfl,hg⟩;clear q0 q1 q2 q3 q4 q5 q6 q7 q8 q9 aA aB aC aD aE aF ql;have rA:=rA.I hg;have hb:=hb.j (hg.i hb.size);clear hg;obtain⟨q0,q1,q2,q3,q4,q5,q6,q7,q8,q9,aA,aB,aC,aD,aE,aF,ql⟩:=c16 rA;go_wp2_with fail;refine(CP.o w2 (HH.o.I hb).h4).i ?_;rintro e w3 ⟨rfl,hg⟩;clear q0 q1 q2 q3 q4 q5 q6 q7 q8 q9 aA aB aC aD aE aF ql;have rA:=rA.I hg;have hb:=hb.j (hg.i hb.size)
 clear hg;obtain⟨q0,q1,q2,q3,q4,q5,q6,q7,q8,q9,aA,aB,aC,aD,aE,aF,ql⟩:=c16 rA;go_wp2_with fail;refine(CT.o w3 (HH.o.I hb).h5.own).i ?_;rintro e w4 ⟨rfl,hg⟩;have HB:=LE (hb.j (hg.i hb.size));clear hb hg rA;go_wp2;go_ret;exact⟨rfl,HB.o⟩
end
end
theorem Fh(x:Wo)(q:Wp)(w:World)(hl:x.rs.length<=1048576):Calls prog 116 #[LV x.W x.S x.L x.T x.H x.F x.R x.U x.O q.s x.rs.length q.cs] w λe w'=>e=.returned (.bool (PK x))/\Below w.heap.size w w':=by
 unfold LV
 by_cases h0:x.W=0
 rotate_left
 ·have e:PK x=false:=AI (λhh=>h0 hh.1)
  rw[e];go_enter func116,ntmps116;go_wp2;go_ret;exact⟨rfl,MB _ _⟩
 by_cases h1:x.S=0
 rotate_left
 ·have e:PK x=false:=AI (λhh=>h1 hh.2.1)
  rw[e];go_enter func116,ntmps116;go_wp2;go_ret;exact⟨rfl,MB _ _⟩
 by_cases h2:x.L=0
 rotate_left
 ·have e:PK x=false:=AI (λhh=>h2 hh.2.2.1)
  rw[e];go_enter func116,ntmps116;go_wp2;go_ret;exact⟨rfl,MB _ _⟩
 by_cases h3:(x.T=0/\x.H=0/\x.F=0/\x.R=0)
 rotate_left
 ·have e:PK x=false:=AI (λhh=>h3 hh.2.2.2.1)
  rw[e];have aB:(Value.agg #[.int .i64 x.T,.int .i64 x.H,.int .i64 x.F,.int .i64 x.R]=Value.agg #[.int .i64 0,.int .i64 0,.int .i64 0,.int .i64 0])=False:=by simp;omega
  go_enter func116,ntmps116;go_wp2
  all_goals (go_ret;exact⟨rfl,MB _ _⟩)
 by_cases h4:x.U=0
 rotate_left
 ·have e:PK x=false:=AI (λhh=>h4 hh.2.2.2.2.1)
  rw[e];go_enter func116,ntmps116;go_wp2;go_ret;exact⟨rfl,MB _ _⟩
 by_cases h5:x.O=0
 rotate_left
 ·have e:PK x=false:=AI (λhh=>h5 hh.2.2.2.2.2.1)
  rw[e];go_enter func116,ntmps116;go_wp2;go_ret;exact⟨rfl,MB _ _⟩
 by_cases h6:x.rs.length=0
 rotate_left
 ·have e:PK x=false:=AI (λhh=>h6 hh.2.2.2.2.2.2)
  rw[e];have aA:¬(x.rs.length:Int)=0:=by omega
  go_enter func116,ntmps116;go_wp2;go_ret;have e6:((x.rs.length:Int) == 0)=false:=EP.2 aA;exact⟨by show Ending.returned (Value.bool ((x.rs.length:Int) == 0))=_;rw[e6],MB _ _⟩
 have e:PK x=true:=AO ⟨h0,h1,h2,h3,h4,h5,h6⟩;rw[e];obtain⟨aC,aD,aE,aF⟩:=h3;have aA:(x.rs.length:Int)=0:=by omega
 go_enter func116,ntmps116;go_wp2;go_ret;exact⟨rfl,MB _ _⟩
theorem zL(x:Wo)(q:Wp)(w:World)(hl:x.rs.length<=1048576):Calls prog 61 #[LV x.W x.S x.L x.T x.H x.F x.R x.U x.O q.s x.rs.length q.cs] w λe w'=>e=.returned (.bool (PK x))/\Below w.heap.size w w':=by
 unfold LV
 by_cases h0:x.W=0
 rotate_left
 ·have e:PK x=false:=AI (λhh=>h0 hh.1)
  rw[e];go_enter func61,ntmps61;go_wp2;go_ret;exact⟨rfl,MB _ _⟩
 by_cases h1:x.S=0
 rotate_left
 ·have e:PK x=false:=AI (λhh=>h1 hh.2.1)
  rw[e];go_enter func61,ntmps61;go_wp2;go_ret;exact⟨rfl,MB _ _⟩
 by_cases h2:x.L=0
 rotate_left
 ·have e:PK x=false:=AI (λhh=>h2 hh.2.2.1)
  rw[e];go_enter func61,ntmps61;go_wp2;go_ret;exact⟨rfl,MB _ _⟩
 by_cases h3:(x.T=0/\x.H=0/\x.F=0/\x.R=0)
 rotate_left
 ·have e:PK x=false:=AI (λhh=>h3 hh.2.2.2.1)
  rw[e];have aB:(Value.agg #[.int .i64 x.T,.int .i64 x.H,.int .i64 x.F,.int .i64 x.R]=Value.agg #[.int .i64 0,.int .i64 0,.int .i64 0,.int .i64 0])=False:=by simp;omega
  go_enter func61,ntmps61;go_wp2
  all_goals (go_ret;exact⟨rfl,MB _ _⟩)
 by_cases h4:x.U=0
 rotate_left
 ·have e:PK x=false:=AI (λhh=>h4 hh.2.2.2.2.1)
  rw[e];go_enter func61,ntmps61;go_wp2;go_ret;exact⟨rfl,MB _ _⟩
 by_cases h5:x.O=0
 rotate_left
 ·have e:PK x=false:=AI (λhh=>h5 hh.2.2.2.2.2.1)
  rw[e];go_enter func61,ntmps61;go_wp2;go_ret;exact⟨rfl,MB _ _⟩
 by_cases h6:x.rs.length=0
 rotate_left
 ·have e:PK x=false:=AI (λhh=>h6 hh.2.2.2.2.2.2)
  rw[e];have aA:¬(x.rs.length:Int)=0:=by omega
  go_enter func61,ntmps61;go_wp2;go_ret;have e6:((x.rs.length:Int) == 0)=false:=EP.2 aA;exact⟨by show Ending.returned (Value.bool ((x.rs.length:Int) == 0))=_;rw[e6],MB _ _⟩
 have e:PK x=true:=AO ⟨h0,h1,h2,h3,h4,h5,h6⟩;rw[e];obtain⟨aC,aD,aE,aF⟩:=h3;have aA:(x.rs.length:Int)=0:=by omega
 go_enter func61,ntmps61;go_wp2;go_ret;exact⟨rfl,MB _ _⟩
