import Derived.Test.YthcfgbpailnahaaGreatDoorPrG29
set_option maxHeartbeats 32000000
namespace Go.Proofs.YthcfgbpailnahaaGreatDoor
open _root_.ByteArray(empty)
open Tryz
open Go.RowKit
set_option maxRecDepth 8000
set_option linter.all false
theorem dp(x:Int)(h0:-9223372036854775808<=x)(h1:x<=9223372036854775807):IntKind.i64.wrap x=x:=by
 simp[IntKind.wrap,IntKind.bits,IntKind.signed];omega
theorem De:(prog.info? 9).map (λi=>(i.zero,i.size,i.bytes))=some (some (.string empty),1,16):=by kernel_rfl
theorem vC{P:Program}{e:TypeId}{z:Value}{size aA:Nat}(h:(P.info? e).map (λi=>(i.zero,i.size,i.bytes))=some (some z,size,aA)):∃i,P.info? e=some i/\i.zero=some z/\i.size=size/\i.bytes=aA:=by
 obtain⟨i,hi,hh⟩:=EF.1 h;simp only[EA]at hh;exact⟨i,hi,hh⟩
theorem Ef(w:World)(cs:Array Value)(t:TypeId):∀j u,cs.toList[j]?=some u->(w.alloc (.cells cs t)).cell? ((⟨w.heap.size,0,none⟩:Addr).add j)=some u:=World.news_of_block (AY w (.cells cs t))
theorem wE(k:ByteArray):∀u∈[Value.string k],u.oneCell'=true:=by
 intro u hu;simp only[DK,EN,IY]at hu;subst hu;rfl
theorem Ik(ss:List ByteArray)(ws:List (Int×ByteArray))(frm size first aA n:Int)(h:¬UM ss ws frm size n):RM ss ws frm size first aA n=([],0,0):=by unfold RM;rw[AE h]
theorem Fi(a:Option Addr)(ss:List ByteArray)(c:Nat)(a':Option Addr)(ws:List (Int×ByteArray))(c':Nat)(frm size first aD n:Int)(w:World)(h:Strs w a ss)(h':Wrs w a' ws)(hl:ss.length<=1048576)(aG:ws.length<=1048576)(hs:∀s∈ss,s.size<=1048576)(aH:∀x∈ws,x.2.size<=1048576)(aB:¬UM ss ws frm size n):Calls prog 150 #[LN a ss.length c a' ws.length c',.int .i64 frm,.int .i64 size,.int .i64 first,.int .i64 aD,.int .i64 n] w λe w'=>YH w w' e ([],0,0):=by
 have aE:∀o1 o2,Below w.heap.size w ((w.alloc o1).alloc o2):=λo1 o2=>((AB _ _).alloc (AA _) _).alloc (by simp) _
 have HV:=LE (λ(wx:World) (hb:Below w.heap.size w wx)=>UT a ss c a' ws c' wx (h.I hb) (h'.I hb) hl aG hs aH)
 cases hok:LS ss ws
 focus
  have hd:decide (1<=n/\n<=8)=decide (1<=n/\n<=8):=rfl
 rotate_left
 focus
  obtain⟨⟨aM,aN,aO⟩,aL,hw⟩:=OZ hok
  by_cases hn:1<=n/\n<=8
  focus
   have hd:decide (1<=n/\n<=8)=true:=AO hn
   by_cases f0:frm<0
   focus
    clear aB
   rotate_left
   focus
    by_cases s0:size<0
    focus
     clear aB
    rotate_left
    focus
     by_cases f1:(ss.length:Int)<frm
     focus
      clear aB
     rotate_left
     focus
      have g3:IntKind.i64.wrap ((ss.length:Int)-frm)=(ss.length:Int)-frm:=dp _ (by omega) (by omega)
      by_cases s1:(ss.length:Int)-frm<size
      focus
       clear aB
      rotate_left
      exact absurd ⟨hok,hn,by omega,by omega,by omega,by omega⟩ aB
     rotate_left
    rotate_left 2
   rotate_left 3
  rotate_left 4
  focus
   have hd:decide (1<=n/\n<=8)=false:=AI hn;clear aB
  rotate_left
 rotate_left 5
 all_goals
  go_enter func150,ntmps150
  go_wp2_with (first|(go_at_call 58;refine(HV.o _ (aE _ _)).i ?_;rw[hok];rintro e w1 ⟨rfl,aC⟩;have r6:=((NT w #[.slice a ss.length c,.slice a' ws.length c'] 44 w.heap.size rfl).alloc (.cells #[.slice none 0 0,.int .i64 0,.int .i64 0] 175)).I aC;have aA:=(NT (w.alloc (.cells #[.slice a ss.length c,.slice a' ws.length c'] 44)) #[.slice none 0 0,.int .i64 0,.int .i64 0] 175 (w.heap.size+1) (by simp)).I aC;have HB:=LE ((aE (.cells #[.slice a ss.length c,.slice a' ws.length c'] 44) (.cells #[.slice none 0 0,.int .i64 0,.int .i64 0] 175)).j (aC.i (by simp<;>omega)));have q0:=r6.x 0;have ql:=r6.lt;have b0:=aA.x 0;have b1:=aA.x 1;have b2:=aA.x 2;have aI:=aA.q 0;have aJ:=aA.q 1;have aK:=aA.q 2;have bl:=aA.lt;clear aC r6 aA)|(go_at_call 57;refine(PV _ _).i ?_;rw[hd];rintro e wz ⟨rfl,aF⟩;rw[aF];clear aF wz))
  refine AJ (v:=.agg #[.slice none 0 0,.int .i64 0,.int .i64 0]) (by simp[results,results150,go_sem,b0,b1,b2]) rfl ?_;exact⟨.slice none 0 0,rfl,BZ _ _ _ _,((HB.o.setCell (by show w.heap.size<=w.heap.size+1;omega) _).setCell (by show w.heap.size<=w.heap.size+1;omega) _).setCell (by show w.heap.size<=w.heap.size+1;omega) _⟩
theorem Bo(a:Option Addr)(ss:List ByteArray)(c:Nat)(a':Option Addr)(ws:List (Int×ByteArray))(c':Nat)(frm size first aB n:Int)(w:World)(h:Strs w a ss)(h':Wrs w a' ws)(hl:ss.length<=1048576)(eQ:ws.length<=1048576)(hs:∀s∈ss,s.size<=1048576)(cT:∀x∈ws,x.2.size<=1048576)(bF:UM ss ws frm size n):Calls prog 150 #[LN a ss.length c a' ws.length c',.int .i64 frm,.int .i64 size,.int .i64 first,.int .i64 aB,.int .i64 n] w λe w'=>YH w w' e (RM ss ws frm size first aB n):=by
 have cH:∀o1 o2,Below w.heap.size w ((w.alloc o1).alloc o2):=λo1 o2=>((AB _ _).alloc (AA _) _).alloc (by simp) _
 have bE:RM ss ws frm size first aB n=NG (λk=>(NY ws ss).getD k empty) frm.toNat first n size.toNat 0 0 aB empty ([],0,aB):=by unfold RM;rw[AK bF]
 rw[bE];clear bE;obtain⟨dM,hn,f0,s0,f1,s1⟩:=bF;obtain⟨fm,rfl⟩:∃k:Nat,frm=(k:Int):=⟨frm.toNat,by omega⟩;obtain⟨N,rfl⟩:∃k:Nat,size=(k:Int):=⟨size.toNat,by omega⟩;simp only[DG];have hd:decide (1<=n/\n<=8)=true:=AO hn;obtain⟨⟨fE,dF,dH⟩,eJ,hw⟩:=OZ dM;obtain⟨i0,cZ,dQ,dR,dU⟩:=vC De;have HI:=LE (AG cZ (AG dQ (AG dR dU)));clear cZ dQ dR dU;have g0:¬((fm:Int)<0):=by omega
 have g1:¬((N:Int)<0):=by omega
 have g2:¬((ss.length:Int)<(fm:Int)):=by omega
 have g3:IntKind.i64.wrap ((ss.length:Int)-(fm:Int))=(ss.length:Int)-(fm:Int):=dp _ (by omega) (by omega);have g4:¬((ss.length:Int)-(fm:Int)<(N:Int)):=by omega
 obtain⟨SF,aF⟩:∃SF:Nat->ByteArray,SF=λk=>(NY ws ss).getD k empty:=⟨_,rfl⟩
 have eE:Hid (∀k,(SF k).size<=1048576):=λk=>by rw[aF];exact mh ws ss hs cT k
 rw[<-aF]
 obtain⟨aE,aX⟩:∃aE,Hid (aE=NG SF fm first n N 0 0 aB empty ([],0,aB)):=⟨_,LE rfl⟩
 rw[<-aX.o];go_enter func150,ntmps150;go_wp2_with fail;refine(UT a ss c a' ws c' _ (h.I (cH _ _)) (h'.I (cH _ _)) hl eQ hs cT).i ?_;rw[dM];rintro e w1 ⟨rfl,bP⟩;have r6:=(NT w #[.slice a ss.length c,.slice a' ws.length c'] 44 w.heap.size rfl).alloc (.cells #[.slice none 0 0,.int .i64 0,.int .i64 0] 175);have aI:=NT (w.alloc (.cells #[.slice a ss.length c,.slice a' ws.length c'] 44)) #[.slice none 0 0,.int .i64 0,.int .i64 0] 175 (w.heap.size+1) (by simp);have r6:=r6.I bP;have aI:=aI.I bP;have aW:=(cH (.cells #[.slice a ss.length c,.slice a' ws.length c'] 44) (.cells #[.slice none 0 0,.int .i64 0,.int .i64 0] 175)).j (bP.i (by simp<;>omega));have q0:=r6.x 0;have q1:=r6.x 1;have fU:=aI.lt;clear bP
 go_wp2_with (first|(go_at_call 57;refine(PV _ _).i ?_;rw[hd];rintro e wz ⟨rfl,dP⟩;rw[dP];clear dP wz))
 refine(gk a ss c a' ws c' _ (h.I aW) (h'.I aW) dF dH).i ?_;rintro e w2 ⟨g,c1,g',eF,rfl,bV,hg,eL,bQ⟩;have aS:ss.length≠0:=by omega
 have eY:w1.heap.size<=g:=hg g (by unfold blk;rw[AE aS];rfl)
 have dN:Row w2 g (ss.map Value.string):=by
  rcases bV.s with e|⟨b,e,hr⟩
  ·exact absurd (BT List.length e) (by rw[BJ,AR];omega)
  cases e;exact hr
 have dL:LU ws≠[]->g'≠g:=λhc=>by
  have hl:ws.length≠0:=λe=>hc (by rw[AC e];rfl)
  rcases bV.ne with e|e|e
  ·unfold blk at e;rw[AE aS]at e;exact absurd e (by simp)
  ·unfold blk at e;rw[AE hl]at e;exact absurd e (by simp)
  unfold blk at e;rw[AE aS,AE hl]at e;exactλe2=>e (by rw[e2])
 have HY:=LE (jz g g' ss c1 ws eF w2 dN bV.p dL dF dH (λx hx=>by have:=AZ (hw x hx);omega));have cA:=aW.j (bQ.i aW.size);have aI:=aI.I bQ;have fT:=bQ.size;clear q0 q1 bV hg eL bQ dN dL r6;go_wp2_with fail;refine HY.o.i ?_;rintro e w3 ⟨x,rfl,fO,fQ,bW,cJ⟩;have cB:=cA.j (NE cJ cA.size (λk hk=>by cases hk;have:=aW.size;omega));have aI:=aI.z cJ (λe=>by injection e with e;omega);have eM:g<w3.heap.size:=bW.lt;have cS:((NY ws ss).map Value.string).length=ss.length:=by rw[BJ,ZT]
 have cV:Hid (∀k,k<ss.length->((NY ws ss).map Value.string)[k]?=some (.string (SF k))):=λk hk=>by
  rw[aF];simp[List.getD,ZT,hk]
 obtain⟨SV,aZ⟩:∃SV,SV=(NY ws ss).map Value.string:=⟨_,rfl⟩;rw[<-aZ]at bW cS cV;clear aZ HY aF cJ h h' hs cT eJ hw
 have D0:ScB w (((w3.alloc (.cells #[.slice (some ⟨g,0,none⟩) ss.length c1,.slice (some ⟨x,0,none⟩) 0 0] 44)).alloc (.cells #[.slice none 0 0,.int .i64 0,.int .i64 aB] 175)).alloc (.cells #[.int .i64 0,.int .i64 aB,.int .i64 0,.string ⟨#[]⟩] 204)) (w.heap.size+1) g w3.heap.size (w3.heap.size+1) (w3.heap.size+1+1) SV c1 (.slice (some ⟨x,0,none⟩) 0 0) (.slice none 0 0) [] 0 aB 0 aB 0 ⟨#[]⟩:=by
  refine⟨((aI.alloc _).alloc _).alloc _,((bW.alloc _).alloc _).alloc _,?_,?_,?_,BZ _ _ _ _,by omega,by omega,by omega,by omega,by omega,λk hk=>(by cases hk),?_⟩
  ·rw[cS]
   exact((ME _ _ _).alloc _).alloc _
  ·exact(NT _ _ _ _ (by simp)).alloc _
  ·exact NT _ _ _ _ (by simp)
  have b1:=cB.alloc cB.size (.cells #[.slice (some ⟨g,0,none⟩) ss.length c1,.slice (some ⟨x,0,none⟩) 0 0] 44)
  have b2:=b1.alloc b1.size (.cells #[.slice none 0 0,.int .i64 0,.int .i64 aB] 175);exact b2.alloc b2.size _
 clear aI bW cB cA aW;go_wp2
 go_loopw [16,17] (λov iv wr=>∃(i:Nat) (op:ByteArray) (wk wl wm:Int) (wp:ByteArray) (out:Scd) (Y:Value) (W:World),W=wr/\ov=.string op/\iv=.int .i64 (i:Int)/\i<=N/\op.size<=64*i/\out.1.length<=i/\Hid (NG SF fm first n (N-i) i wk wl op out=aE)/\ScB w W (w.heap.size+1) g w3.heap.size (w3.heap.size+1) (w3.heap.size+1+1) SV c1 (.slice (some ⟨x,0,none⟩) 0 0) Y out.1 out.2.1 out.2.2 wk wl wm wp) (λ_ iv _=>((N:Int)-intOf iv).toNat)
 case atStart =>
  exact⟨0,⟨#[]⟩,0,aB,0,⟨#[]⟩,([],0,aB),_,_,rfl,rfl,rfl,AH _,by decide,AA _,by show _=_;rw[aX.o];rfl,D0⟩
 case round =>
  obtain⟨i,op,wk,wl,wm,wp,out,y,wr,rfl,rfl,rfl,eZ,fH,fG,aP,D⟩:=hrel;clear D0
  obtain⟨ya,yc,rfl⟩:∃ya yc,y=.slice ya out.1.length yc:=by
   rcases MM D.own with ⟨h1,h2⟩|⟨gg,cap,h1,_⟩
   ·exact⟨none,0,by rw[h1,h2]⟩
   exact⟨_,cap,h1⟩
  by_cases fB:i<N
  focus
   have cO:(i:Int)<(N:Int):=by omega
   have eK:IntKind.i64.wrap ((fm:Int)+(i:Int))=((fm+i:Nat):Int):=by rw[dp _ (by omega) (by omega)];omega
   have eN:fm+i<ss.length:=by omega
   have eO:((fm+i:Nat):Int)<(ss.length:Int):=by omega
   have eG:=D.xb.x 0;rw[cS]at eG;have cs:=D.sec.cell (fm+i) _ (cV.o (fm+i) eN);have lx:=D.xb.lt;have ls:=D.sec.lt;have fJ:IntKind.i64.wrap ((i:Int)+1)=(i:Int)+1:=dp _ (by omega) (by omega);have aL:=LE (λwx=>zg (SF (fm+i)) n wx (eE.o _))
   cases hR:MX (SF (fm+i)) n
   focus
    rw[hR]at aL;simp only[TW]at aL;have HF:Hid (aE=out):=by show _=_;rw[<-aP.o];exact zb hR
    go_wp2_with fail;refine(aL.o _).i ?_;rintro e w5 ⟨rfl,aQ⟩;have D5:=D.I aQ;have D6:=D5.I (MB w5 (.cells #[.int .i64 0,.int .i64 0,.int .i64 0,.string ⟨#[]⟩] 204));obtain⟨o0,o1,o2⟩:=D6.ot.k3;obtain⟨b0,b1,b2⟩:=D6.rb.k3;obtain⟨cC,cE,cF⟩:=D6.rb.z3;have ol:=D6.ot.lt;have bl:=D6.rb.lt;have aK:=LE D6;have aT:¬(w.heap.size+1=w3.heap.size+1):=by have:=D6.o2;have:=D6.o3;omega
    go_wp2
   rotate_left
   focus
    rename_i xr;obtain⟨k,l,m,p⟩:=xr;obtain⟨_,_,m0,m1,l0,l1,fI⟩:=SR hR;rw[hR]at aL;simp only[TW]at aL;have cP:IntKind.i64.wrap (m-(i:Int))=m-(i:Int):=dp _ (by omega) (by omega);have bJ:=LE (λwx=>Du wk wl wm wp k l m p wx)
    by_cases aG:m-(i:Int)=first
    focus
     cases hgo:PE wk wl k l
     focus
      rw[hgo]at bJ;have HF:Hid (aE=out):=by show _=_;rw[<-aP.o];exact kz hR (by rw[hgo];simp)
      go_wp2_with fail;refine(aL.o _).i ?_;rintro e w5 ⟨rfl,aQ⟩;have D5:=D.I aQ;have D6:=D5.I (MB w5 (.cells #[.int .i64 k,.int .i64 l,.int .i64 m,.string p] 204));have rP:=NT w5 #[.int .i64 k,.int .i64 l,.int .i64 m,.string p] 204 w5.heap.size rfl;obtain⟨x0,x1,x2,x3⟩:=rP.k4;have xl:=rP.lt;obtain⟨v0,v1,v2,v3⟩:=D6.ws.k4;have vl:=D6.ws.lt
      go_wp2_with (first|(go_at_call 199;refine(bJ.o _).i ?_;rintro e w7 ⟨rfl,aR⟩;have D7:=D6.I aR;have aO:=rP.I aR;clear aR x0 x1 x2 x3 xl v0 v1 v2 v3 vl D6 rP;have o0:=D7.ot.x 0;have b0:=D7.rb.x 0;have cC:=D7.rb.q 0;have o1:=D7.ot.x 1;have b1:=D7.rb.x 1;have cE:=D7.rb.q 1;have o2:=D7.ot.x 2;have b2:=D7.rb.x 2;have cF:=D7.rb.q 2;have ol:=D7.ot.lt;have bl:=D7.rb.lt;have aK:=LE D7;have aT:¬(w.heap.size+1=w3.heap.size+1):=(by have:=D7.o2;have:=D7.o3;omega);clear D7))
     rotate_left
     focus
      rw[hgo]at bJ;go_wp2_with fail;refine(aL.o _).i ?_;rintro e w5 ⟨rfl,aQ⟩;have D5:=D.I aQ;have D6:=D5.I (MB w5 (.cells #[.int .i64 k,.int .i64 l,.int .i64 m,.string p] 204));have rP:=NT w5 #[.int .i64 k,.int .i64 l,.int .i64 m,.string p] 204 w5.heap.size rfl;obtain⟨x0,x1,x2,x3⟩:=rP.k4;have xl:=rP.lt;obtain⟨v0,v1,v2,v3⟩:=D6.ws.k4;have vl:=D6.ws.lt
      go_upto_region 14 with (first|(go_at_call 199;refine(bJ.o _).i ?_;rintro e w7 ⟨rfl,aR⟩;have D7:=D6.I aR;have aO:=rP.I aR;clear aR x0 x1 x2 x3 xl v0 v1 v2 v3 vl D6 rP;have bU:¬(w3.heap.size+1+1=w5.heap.size):=(by have:=D5.ws.lt;omega);have p0:=aO.x 0;have p1:=aO.x 1;have p2:=aO.x 2;have p3:=aO.x 3;have pl:=aO.lt;have s0:=D7.ws.x 0;have s1:=D7.ws.x 1;have s2:=D7.ws.x 2;have s3:=D7.ws.x 3;have eU:=D7.ws.q 0;have eV:=D7.ws.q 1;have eW:=D7.ws.q 2;have eX:=D7.ws.q 3;have sl:=D7.ws.lt))
      have D8:=D7.setWas k l m p;have aU:=(((aO.other ⟨w3.heap.size+1+1,0,none⟩ bU (.int .i64 k)).other ⟨w3.heap.size+1+1,1,none⟩ bU (.int .i64 l)).other ⟨w3.heap.size+1+1,2,none⟩ bU (.int .i64 m)).other ⟨w3.heap.size+1+1,3,none⟩ bU (.string p);obtain⟨w8,bC⟩:∃z,z=((((w7.setCell ⟨w3.heap.size+1+1,0,none⟩ (.int .i64 k)).setCell ⟨w3.heap.size+1+1,1,none⟩ (.int .i64 l)).setCell ⟨w3.heap.size+1+1,2,none⟩ (.int .i64 m)).setCell ⟨w3.heap.size+1+1,3,none⟩ (.string p)):=⟨_,rfl⟩;rw[<-bC]at D8 aU⊢;clear bC D7 aO p0 p1 p2 p3 pl s0 s1 s2 s3 eU eV eW eX sl;have p0:=aU.x 0;have p1:=aU.x 1;have p3:=aU.x 3;have pl:=aU.lt;have z1:¬(9223372036854775807<op.size+p.size):=by omega
      by_cases cL:k=1
      ·subst cL
       have aY:Hid (NG SF fm first n (N-(i+1)) (i+1) 1 l (op++p) out=aE):=by
        show _=_;rw[<-aP.o];have e1:N-i=(N-(i+1))+1:=by omega
        rw[e1];exact(vf hR (by rw[cP];exact aG) hgo).symm
       go_wp2;exact⟨⟨i+1,op++p,1,l,m,p,out,_,_,rfl,rfl,by simp,by omega,(by rw[DI];omega),by omega,aY.o,D8⟩,by simp[intOf];omega⟩
      have fA:(k == 1)=false:=by simp[cL]
      have cY:=LE (λe1=>sb (first:=first) (f:=N-(i+1)) (op:=op) (out:=out) hR (by rw[cP];exact aG) hgo e1);have e1:N-i=(N-(i+1))+1:=by omega
      have o1:=D8.ot.x 1;have o2:=D8.ot.x 2;have dV:=D8.ot.q 1;have dZ:=D8.ot.q 2;have ol:=D8.ot.lt;have eR:¬(w3.heap.size+1=w5.heap.size):=by have:=D5.ot.lt;omega
      have eS:¬(w5.heap.size=w3.heap.size+1):=by have:=D5.ot.lt;omega
      by_cases cM:k=2
      ·subst cM
       have aY:Hid (NG SF fm first n (N-(i+1)) (i+1) 2 l empty (out.1++[op++p],(i:Int)+1,l)=aE):=by
        show _=_;rw[<-aP.o,e1];exact(cY.o (by omega)).symm
       have o0:=D8.ot.x 0;have eT:=D8.ot.q 0;have D9:=D8.I (MB w8 (.cells #[.string (op++p)] 9));have eB:=aU.alloc (.cells #[.string (op++p)] 9);have cW:=LE D9.own;have fS:=D8.be.size;have fC:(out.1.map Value.string).length=out.1.length:=BJ _;have aV:=LE D9;have cX:=LE eB;clear D9 eB
       go_upto_region 18 with (first|(at_builtin;refine PU _ rfl _ _ 22 rfl w.heap.size underlying22 HI.o rfl (by omega) _ out.1.length _ rfl cW.o ⟨w8.heap.size,0,none⟩ 1 1 [.string (op++p)] rfl rfl (Ef _ _ _) (wE _) (by simp;omega) (w8.heap.size+1) (by simp) ?_;intro gn cap eC aC aA aN dB;have aD:eC.ownsRow w.heap.size 9 1 (.slice (some ⟨gn,0,none⟩) (out.1.length+1) cap) (out.1++[op++p]).length ((out.1++[op++p]).map Value.string):=(by rw[AF,BK];exact aC);have cU:=LE (aV.o.push (ents':=out.1++[op++p]) aD aA (aN.elim (λe=>.inl e) (λe=>.inr (BT some e))) (by simp));have c10:=aV.o.own_ne (k:=w3.heap.size+1) (by omega);have eH:=λi=>(CW (a:=⟨w3.heap.size+1,i,none⟩) (aA.block (w3.heap.size+1) (by simp;omega) (λe=>c10 e.symm)));have bI:=LE (cX.o.z aA (λe=>by have:=(D5.own.lt _ e.symm).2;omega));have bT:=aV.o.ot.z aA (λe=>c10 e.symm);have eI:=bT.x 0;have cI:=bT.q 0;have cN:=bT.lt;clear aC aA aN aD))
       have aJ:=cU.o;have aH:=bI.o.other ⟨w3.heap.size+1,0,none⟩ eR (.slice (some ⟨gn,0,none⟩) (out.1.length+1) cap);obtain⟨fV,aM⟩:∃z,z=eC.setCell ⟨w3.heap.size+1,0,none⟩ (.slice (some ⟨gn,0,none⟩) (out.1.length+1) cap):=⟨_,rfl⟩;rw[<-aM]at aJ aH⊢;clear aM cU bI aV cX cW eI cI cN bT eH c10 o0 eT o1 o2 dV dZ ol p0 p1 p3 pl D8 aU;have o1:=aJ.ot.x 1;have o2:=aJ.ot.x 2;have dV:=aJ.ot.q 1;have dZ:=aJ.ot.q 2;have ol:=aJ.ot.lt;have p1:=aH.x 1;have pl:=aH.lt;have b7:=LE (aJ.setEnd ((i:Int)+1) l);clear aJ aH;go_wp2;exact⟨⟨i+1,⟨#[]⟩,2,l,m,p,(out.1++[op++p],(i:Int)+1,l),_,_,rfl,rfl,by simp,by omega,by show 0<=_;omega,by show(out.1++[op++p]).length<=_;simp;omega,aY.o,b7.o⟩,by simp[intOf];omega⟩
      have eP:(k == 2)=false:=by simp[cM]
      have aY:Hid (NG SF fm first n (N-(i+1)) (i+1) k l empty (out.1,(i:Int)+1,l)=aE):=by
       show _=_;rw[<-aP.o,e1];have:=(cY.o cL).symm;rw[AE cM]at this;exact this
      have D9:=D8.setEnd ((i:Int)+1) l;have aV:=LE D9;clear D9;go_wp2;exact⟨⟨i+1,⟨#[]⟩,k,l,m,p,(out.1,(i:Int)+1,l),_,_,rfl,rfl,by simp,by omega,by show 0<=_;omega,by show out.1.length<=_;omega,aY.o,aV.o⟩,by simp[intOf];omega⟩
    rotate_left
    focus
     have HF:Hid (aE=out):=by show _=_;rw[<-aP.o];exact kz hR (by rw[cP];exactλh=>aG h.1)
     have fF:(m-(i:Int) == first)=false:=by simp[aG]
     go_wp2_with fail;refine(aL.o _).i ?_;rintro e w5 ⟨rfl,aQ⟩;have D5:=D.I aQ;have D6:=D5.I (MB w5 (.cells #[.int .i64 k,.int .i64 l,.int .i64 m,.string p] 204));have rP:=NT w5 #[.int .i64 k,.int .i64 l,.int .i64 m,.string p] 204 w5.heap.size rfl;have x2:=rP.x 2;have xl:=rP.lt;obtain⟨o0,o1,o2⟩:=D6.ot.k3;obtain⟨b0,b1,b2⟩:=D6.rb.k3;obtain⟨cC,cE,cF⟩:=D6.rb.z3;have ol:=D6.ot.lt;have bl:=D6.rb.lt;have aK:=LE D6;have aT:¬(w.heap.size+1=w3.heap.size+1):=by have:=D6.o2;have:=D6.o3;omega
     go_wp2
    rotate_left
   rotate_left 2
  rotate_left 3
  focus
   have HF:Hid (aE=out):=by
    show _=_;rw[<-aP.o];have:N-i=0:=by omega
    rw[this];rfl
   have cO:¬((i:Int)<(N:Int)):=by omega
   obtain⟨o0,o1,o2⟩:=D.ot.k3;obtain⟨b0,b1,b2⟩:=D.rb.k3;obtain⟨cC,cE,cF⟩:=D.rb.z3;have ol:=D.ot.lt;have bl:=D.rb.lt;have aK:=LE D;have aT:¬(w.heap.size+1=w3.heap.size+1):=by have:=D.o2;have:=D.o3;omega
   go_wp2
  rotate_left
  all_goals
   refine AJ (v:=.agg #[.slice ya out.1.length yc,.int .i64 out.2.1,.int .i64 out.2.2]) (by simp[results,results150,go_sem,b0,b1,b2]) rfl ?_;rw[HF.o];have cQ:=aK.o.own_ne (k:=w.heap.size+1) (by have:=aK.o.o2;have:=aK.o.o3;omega);exact⟨_,rfl,BO (BO (BO aK.o.own cQ _) cQ _) cQ _,((aK.o.be.setCell (by show w.heap.size<=w.heap.size+1;omega) _).setCell (by show w.heap.size<=w.heap.size+1;omega) _).setCell (by show w.heap.size<=w.heap.size+1;omega) _⟩
theorem Io(a:Option Addr)(ss:List ByteArray)(c:Nat)(a':Option Addr)(ws:List (Int×ByteArray))(c':Nat)(frm size first aA n:Int)(w:World)(h:Strs w a ss)(h':Wrs w a' ws)(hl:ss.length<=1048576)(aC:ws.length<=1048576)(hs:∀s∈ss,s.size<=1048576)(aD:∀x∈ws,x.2.size<=1048576):Calls prog 150 #[LN a ss.length c a' ws.length c',.int .i64 frm,.int .i64 size,.int .i64 first,.int .i64 aA,.int .i64 n] w λe w'=>YH w w' e (RM ss ws frm size first aA n):=by
 by_cases aB:UM ss ws frm size n
 ·exact Bo a ss c a' ws c' frm size first aA n w h h' hl aC hs aD aB
 rw[Ik ss ws frm size first aA n aB]
 exact Fi a ss c a' ws c' frm size first aA n w h h' hl aC hs aD aB
