import Derived.Test.YtehbpeinnepdcaaGreatDoorPrG32
set_option maxHeartbeats 32000000
namespace Go.Proofs.YtehbpeinnepdcaaGreatDoor
open Go.RowKit Go.Proofs.YtehbpeinnepdcaaGreatDoor.nw
set_option maxRecDepth 8000
set_option linter.unusedVariables false
set_option linter.unusedSimpArgs false
theorem ZDb (R:Nat) (a:Option Addr) (n c:Nat) (p:Int) (w:World) (h:Rdr w R a n c p) (hp:p<99980000):Calls Tryz.prog 43 #[.pointer (some ⟨R,0,none⟩)] w fun r w'=>j1k w w' r/\Zlg w R a n c p 60 w':=by
 have p0:=h.p0;obtain ⟨x,HX⟩:∃ x,Hid (x=(yNz 12 1).doE vjw):=⟨_,hid rfl⟩;have HG:Hid (x.good 12):=by show Wo.good _ _;rw [HX.out];exact (xLV (n:=12) (wd:=1) (by omega)).doE vjw
 have HU:Hid (x.up=true\/x.S<=0):=by show _\/_;rw [HX.out];exact xfG (.inr (Int.le_refl 0)) _
 have HW:Hid (x.w=1):=by show _=_;rw [HX.out,zju];rfl
 have HM:=hid HG.out.ok.le;go_enter Tryz.func43,Tryz.ntmps43;go_wp2_with fail;generalize aK:w.alloc _=v1;obtain ⟨hb,bY,b2⟩:=bx1 aK;clear aK;have hE:Below w.heap.size w v1:=hb;clear hb;refine (ZY5 12 1 _ (by omega) (by omega)).mono ?_;rintro e v2 ⟨q0,rfl,F0,aY⟩;have s2:=aY.size;replace b2:=b2.below aY;replace hE:=hE.trans (aY.mono hE.size);have F1:=F0.mono (G:=fun b=>w.heap.size+1<=b) (fun b _ k=>by rcases k with k | k;exact k.elim;omega);have CO:=hid (qT7 (yNz 12 1) q0 _ v2 F1 (js8 (by omega)));rw [<-HX.out] at CO;clear F0 F1 aY;unfold Zov at CO ⊢;go_wp2_with fail;refine CO.out.mono ?_;rintro e v3 ⟨q,rfl,F3,aH⟩;have s3:=aH.size;replace b2:=b2.below aH;replace hE:=hE.trans (aH.mono hE.size);clear aH CO;unfold Zov;go_upto_region 2 with fail;generalize aL:v3.alloc _=v4;obtain ⟨hb,bZ,b3⟩:=bx1 aL;clear aL;replace b2:=b2.below hb;replace F3:=(F3.mono (G:=fun b=>w.heap.size+1<=b/\b≠v3.heap.size) (fun b hl k=>by rcases k with k | k<;>omega)).below hb
 replace hE:=hE.trans (hb.mono hE.size);obtain ⟨B,cJ⟩:∃ B,B=v3.heap.size:=⟨_,rfl⟩;rw [<-cJ] at b3 F3 ⊢;have S0:FgS w v4 R a n c p B x q:=⟨h.keep (N:=w.heap.size) h.lts.1 h.lts.2 hE,Qbp _ hE,h.lts.1,h.lts.2,b2.now,b3.now,by omega,F3⟩;clear hb b2 b3 F3 hE cJ bZ s3 s2 bY h;generalize Value.agg _=A0;generalize Value.agg _=A1;generalize Value.agg _=A2;go_wp2_with fail;go_loopw [4] (fun iv wr=>FgL w R a n c p B x q iv wr) (fun iv _=>60-(intOf iv).toNat)
 case atStart=>exact ⟨0,by omega,rfl,by rw [show p+((0:Nat):Int)=p by omega];exact S0⟩
 case round =>
  obtain ⟨i,hi,rfl,S1⟩:=hrel;clear S0
  by_cases eR:i<60
  ·have bV:(i:Int)<60:=by omega
   go_wp2_with fail;refine (quU _ 20 _ (by decide) (by omega)).mono ?_;rintro e w1 ⟨⟨t,rfl,ht⟩,cN⟩;have S2:=S1.below cN;clear cN S1;go_wp2_with fail;refine (ZfV R a n c (p+i) 900 _ S2.rd (by omega)).mono ?_;rintro e w2 ⟨⟨v',rfl,v0,v1⟩,hr,hg⟩;have S3:=S2.pick hr hg;clear hr hg S2;obtain ⟨v,rfl⟩:∃ k:Nat,v'=(k:Int):=⟨v'.toNat,by omega⟩;have vl:i+v<1000:=by omega
   have CD:=Xux 3 (i+v) w2 (by simpa using vl) (by omega);rw [Int.natCast_add] at CD;go_wp2_with fail;refine CD.mono ?_;rintro e w3 ⟨rfl,aH⟩;have S4:=S3.below aH;clear aH S3 CD;have dO:(y0p (i+v)).size<=64000:=by have:=Xow 2 (i+v) (by simpa using vl);omega
   go_upto_region 6 with fail;generalize aM:w3.alloc _=v5;obtain ⟨hb,b7,bB⟩:=bx1 aM;clear aM;have S5:=S4.below hb;clear hb S4;obtain ⟨TX,bI⟩:∃ T,T=t++y0p (i+v):=⟨_,rfl⟩;have dM:TX.size<=128000:=by rw [bI,ByteArray.size_append];omega
   rw [<-bI] at bB ⊢;obtain ⟨b,HB⟩:∃ b:List Ch,Hid (b=[(⟨#[107]⟩,TX,false)]):=⟨_,hid rfl⟩;have cQ:b.length=1:=by rw [HB.out];rfl
   have cS:∀ y∈b,y.1.size<=1048576/\y.2.1.size<=1048576:=by
    rw [HB.out];intro y hy;rw [List.mem_singleton.1 hy];exact ⟨by show (1:Nat)<=_;omega,by show TX.size<=_;omega⟩
   have aZ:Chs v5 (some ⟨w3.heap.size,0,none⟩) b:=by
    rw [HB.out];exact Row.chs bB.now
   have cH:=hid cS;clear cS;obtain ⟨bb,aJ⟩:∃ k,k=w3.heap.size:=⟨_,rfl⟩;rw [<-aJ] at aZ ⊢;clear bI bB b7 aJ dM dO;generalize Value.agg _=A3;have CM:=qjJ x.W x.S x.L x.T x.H x.F x.R x.U x.O q.s x.rs q.cs (some ⟨bb,0,none⟩) b 1 v5 S5.wo.at.h3 HM.out.l3 HM.out.s3 aZ (by omega) cH.out;rw [cQ] at CM;obtain ⟨D,hD⟩:∃ D,D=QUx x.W x.S x.L x.T x.H x.F x.R x.U x.O x.rs b:=⟨_,rfl⟩;rw [<-hD] at CM;have HD:=hid hD;clear hD;have cF:=hid CM;clear CM;refine wp_region_lit ?_;refine jAy rfl _ _ _ rfl (.pointer (some ⟨B,4,none⟩)) (by go_simp) ?_;simp only [PS];refine wpList_load_mid rfl 33 _ rfl (B) 4 rfl [.int .i64 x.W,.int .i64 x.S,.int .i64 x.L,.int .i64 x.T,.int .i64 x.H,.int .i64 x.F,.int .i64 x.R,.int .i64 x.U,.int .i64 x.O,.slice q.s x.rs.length q.cs] _ (Row.rangeMid (pre:=[.int .i64 x.w,.slice q.a x.ss.length q.c,.slice q.a' x.ws.length q.c',.bool x.up]) (cs:=[.int .i64 x.W,.int .i64 x.S,.int .i64 x.L,.int .i64 x.T,.int .i64 x.H,.int .i64 x.F,.int .i64 x.R,.int .i64 x.U,.int .i64 x.O,.slice q.s x.rs.length q.cs]) (post:=[.slice q.p x.P.length q.cp,.slice q.t x.ts.length q.ct]) S5.r3) Tryz.underlying33 rfl xdC ?_
   simp only [PS];go_wp2_with fail;refine cF.out.mono ?_;rintro e v6 ⟨oa,oc,ob,oe,rfl,bQ,own,g1,g2,bJ⟩;have S6:=S5.below bJ;have aR:=aZ.below bJ;clear S5 aZ bJ cF g1 g2 bQ;unfold dnV;go_upto_region 7 with fail;generalize aN:v6.alloc _=v7;obtain ⟨hb,b8,bX⟩:=bx1 aN;clear aN;obtain ⟨X,cK⟩:∃ k,k=v6.heap.size:=⟨_,rfl⟩;rw [<-cK] at bX ⊢;have J0:FgJ w v7 R a n c (p+i+1) B x q X D oa oc ob oe bb b:=⟨S6.below hb,bX.now,(own.below hb).p.ops,aR.below hb⟩;clear S6 own aR hb bX b8 cK;generalize Value.agg _=A4;generalize Value.agg _=A5
   by_cases hC:D.C=0
   ·obtain ⟨cI,d,rest,ho,h0,h1,hd⟩:=XY2 (W:=x.W) (S:=x.S) (L:=x.L) (T:=x.T) (H:=x.H) (F:=x.F) (R:=x.R) (U:=x.U) (O:=x.O) (rs:=x.rs) (b:=b) (by rw [<-HD.out];exact hC)
    rw [<-HD.out] at ho
    have hS:x.S<=(x.ss.length:Int):=by
     rcases HU.out with k | k
     ·rw [HG.out.u k];omega
     ·omega
    obtain ⟨aG,rfl⟩:∃ k:Nat,cI=(k:Int):=⟨cI.toNat,by omega⟩;have cM:aG<x.ss.length:=by omega
    have cY:0<D.ops.length:=by rw [ho];simp
    have HO:=hid ho;have HC:=hid hC;clear ho hC;obtain ⟨gs,os,aB,dE,cW,bG⟩:=J0.s.wo.at.h1.at cM;have dJ:=hid dE;clear dE
    have eS:aB.size=64:=by
     have:=(q67 HG.out.d).2.1 aB (by rw [bG.out];simp [List.getD,cM]);omega
    obtain ⟨go,oo,dY,cZ⟩:∃ go oo,ob=some ⟨go,oo,none⟩/\∀ wx:World,Ops wx ob D.ops->wx.cell? ⟨go,oo+1,none⟩=some (.int .i64 (aG:Int))/\wx.cell? ⟨go,oo+2,none⟩=some (.string d):=by
     obtain ⟨go,oo,_,_,_,e1,_⟩:=J0.o.at cY;refine ⟨go,oo,e1,fun wx hx=>?_⟩;obtain ⟨g2,o2,x0,x1,x2,f1,f2,f3,f4,f5⟩:=hx.at cY;rw [e1] at f1
     cases f1
     have f5:=f5.out;rw [HO.out] at f5;simp only [List.getD_cons_zero,Prod.mk.injEq] at f5;simp only [Nat.zero_mul,Nat.add_zero] at f3 f4;exact ⟨f3.trans (by rw [f5.2.1]),f4.trans (by rw [f5.2.2])⟩
    have bH:=hid cZ;clear cZ;subst dY;obtain ⟨oN,dK⟩:∃ k,k=D.ops.length:=⟨_,rfl⟩;have dH:=J0.r.cell 0 _ rfl;have aD:=J0.r.cell 11 _ rfl;have bW:=J0.s.r3.cell 1 _ rfl;have cV:=(bH.out _ J0.o).1;rw [HC.out] at dH;rw [dJ.out] at bW;have eU:=J0.r.lt;have eT:=J0.s.r3.lt;have dN:(aG:Int)<(x.ss.length:Int):=by omega
    have dZ:(0:Int)<(D.ops.length:Int):=by omega
    go_upto_region 9 with fail;have HQ:Hid (v7.cell? ⟨B,1,none⟩=some (.slice (some ⟨gs,os,none⟩) x.ss.length q.c)/\v7.cell? ⟨X,11,none⟩=some (.slice (some ⟨go,oo,none⟩) D.ops.length oe)/\v7.cell? ⟨go,oo+1,none⟩=some (.int .i64 (aG:Int))/\v7.cell? ⟨gs,os+aG,none⟩=some (.string aB)):=⟨bW,aD,cV,cW⟩;clear dH aD bW cV cW
    go_region_held3 (fun w'=>w'.cell? ⟨B,1,none⟩=some (.slice (some ⟨gs,os,none⟩) x.ss.length q.c)/\w'.cell? ⟨X,11,none⟩=some (.slice (some ⟨go,oo,none⟩) D.ops.length oe)/\w'.cell? ⟨go,oo+1,none⟩=some (.int .i64 (aG:Int))/\w'.cell? ⟨gs,os+aG,none⟩=some (.string aB))
     (first | assumption | exact HQ.out)
     (fail)
    have J1:=J0.below (Below.refl _ _).drew;clear J0 HQ;go_wp2_with fail;obtain ⟨wo,aQ⟩:∃ wo:World,wo=v7.drew:=⟨_,rfl⟩;rw [<-aQ] at J1 ⊢;clear aQ;go_loopw [8] (fun kv wr=>FgK w R a n c (p+i+1) B x q X D oa oc (some ⟨go,oo,none⟩) oe bb b kv wr) (fun kv _=>60-(intOf kv).toNat)
    case atStart=>exact ⟨10,by omega,by omega,rfl,J1⟩
    case round =>
     obtain ⟨k,eO,eP,rfl,J2⟩:=hrel;clear J1
     by_cases eQ:k<60
     ·have bU:(k:Int)<60:=by omega
      have HQ:Hid (wr.cell? ⟨X,11,none⟩=some (.slice (some ⟨go,oo,none⟩) D.ops.length oe)/\wr.cell? ⟨go,oo+2,none⟩=some (.string d)):=⟨J2.r.cell 11 _ rfl,(bH.out _ J2.o).2⟩;have dQ:(0:Int)<=(k:Int):=by omega
      have dR:¬ (64:Int)<(k:Int):=by omega
      have dU:min k 64+(64-k)<=9223372036854775807:=by omega
      have eJ:(k:Int)<=(d.size:Int):=by omega
      have eK:(k:Int)<=(aB.size:Int):=by omega
      have eL:¬ (9223372036854775807<(d.extract 0 k).size+(aB.extract k aB.size).size):=by rw [ByteArray.size_extract,ByteArray.size_extract];omega
      have eM:¬ (9223372036854775807<min k d.size+(aB.size-k)):=by omega
      have eN:¬ (9223372036854775807<k+(aB.size-k)):=by omega
      have eB:=J2.r.lt;go_upto_region 13 with fail;go_cut [9] from 50 to 60 (fun mv wx=>∃ m:ByteArray,mv=.string m/\m.size<=128/\wx=wr.drew)
      case first =>
       refine wp_region_held_drew (S:=fun w'=>w'.cell? ⟨X,11,none⟩=some (.slice (some ⟨go,oo,none⟩) D.ops.length oe)/\w'.cell? ⟨go,oo+2,none⟩=some (.string d)) (by kernel_rfl) (HQ.out) (fun aA=>?_);refine TY 0 (.pointer (some ⟨X,11,none⟩)) rfl aA (TY 1 (.slice (some ⟨go,oo,none⟩) D.ops.length oe) rfl aA (TY 2 (.pointer (some ⟨go,oo,none⟩)) rfl aA (TY 3 (.pointer (some ⟨go,oo+2,none⟩)) rfl aA (TY 4 (.string d) rfl aA (TY 5 (.int .i64 (k:Int)) rfl aA (TY 6 (.string (d.extract 0 k)) rfl aA (TY 7 (.string aB) rfl aA (TY 8 (.int .i64 (k:Int)) rfl aA (TY 9 (.string (aB.extract k 64)) rfl aA (TY 10 (.string (d.extract 0 k++aB.extract k 64)) rfl aA ?_))))))))));simp only [PS];refine RD 11 rfl (fun Kq dL=>?_);go_simp;refine dL.out _ _ aA (fun _=>?_)
       try simp only [PS]
       refine DN ?_;go_wp2_with fail;go_meet;exact ⟨_,rfl,by rw [ByteArray.size_append,ByteArray.size_extract,ByteArray.size_extract];omega,rfl⟩
      case rest =>
      obtain ⟨bC,rfl,cU,cL⟩:=hcut;have J3:=J2.below (Below.refl _ _).drew;clear J2 HQ;rw [<-cL] at J3;clear cL
      rename World=>wd
      replace cU:bC.size<=1048576:=by omega
      obtain ⟨pk,pl,pm,pp,ok,hR⟩:=k5E (Jvc bC 1);have CR:=hid (kfv bC 1 wd cU);rw [hR] at CR;clear hR;unfold QAw at CR;go_wp2_with fail;refine CR.out.mono ?_;rintro e w5 ⟨rfl,cO⟩;have J4:=J3.below cO;clear J3 cO CR;go_upto_region 15 with fail;generalize aO:w5.alloc _=w6;obtain ⟨hb,cC,bP⟩:=bx1 aO;clear aO;have J5:=J4.below hb;clear hb bP cC J4;generalize Value.tuple _=A6;generalize Value.agg _=A7
      cases ok with
      | false =>
       go_wp2_with fail;go_roundw
       case rel=>exact ⟨k+1,by omega,by omega,by go_num,J5⟩
       case measure=>simp [intOf];omega
      | true =>
       have aD:=J5.r.cell 11 _ rfl;have dV:=(bH.out _ J5.o).2;have eC:=J5.r.lt
       by_cases cT:bC=d
       ·subst cT
        go_wp2_with fail;go_roundw
        case rel=>exact ⟨k+1,by omega,by omega,by go_num,J5⟩
        case measure=>simp [intOf];omega
       ·have eI:=Qf3 cT
        go_upto_region 16 with fail;clear aD dV;refine wp_region_lit ?_;refine wpList_load_mid rfl 36 _ rfl (B) 0 rfl (wL x q) _ J5.s.r3.range Tryz.underlying36 rfl ZAx ?_;simp only [PS];go_wp2_with fail;generalize aP:w6.alloc _=w7;obtain ⟨hb,eF,bF⟩:=bx1 aP;clear aP;have J6:=J5.below hb;clear hb J5;obtain ⟨y,HY⟩:∃ y,Hid (y=x.doE ⟨2,b,1,[(k:Int)]⟩):=⟨_,hid rfl⟩;have aI:=zlY x q ⟨2,b,1,[(k:Int)]⟩ (some ⟨bb,0,none⟩) 1 (some ⟨w6.heap.size,0,none⟩) 1 _ w7 J6.s.wo HG.out.ok J6.b (Row.ints bF.now) ⟨⟨by show b.length<=_;omega,cH.out⟩,by simp,by simp⟩;rw [<-HY.out] at aI;have eE:vMH ⟨2,b,1,[(k:Int)]⟩ (some ⟨bb,0,none⟩) 1 (some ⟨w6.heap.size,0,none⟩) 1=.agg #[.int .i64 2,.slice (some ⟨bb,0,none⟩) 1 1,.int .i64 1,.slice (some ⟨w6.heap.size,0,none⟩) 1 1]:=by unfold vMH;simp only [cQ];rfl
        rw [eE] at aI;clear eE;unfold Zov at aI;have cE:=hid aI;clear aI;refine cE.out.mono ?_;rintro e w8 ⟨q1,rfl,F1,cP⟩;have J7:=J6.below cP;have hJ:=J6.s.lB;have eH:=J6.s.r3.lt;have F2:=F1.mono (G:=fun b=>w.heap.size+1<=b) (fun b _ k=>by rcases k with k | k;exact k.1;omega);clear F1 cP J6 bF cE;unfold Zov
        try simp only [PS]
        refine ‹∀ (a:Act) (w:World),wpList _ _ _ _ a w->_› _ _ ?_
        refine wpList_store_mid rfl 36 _ _ rfl (w.heap.size) 0 (wA y q1) rfl rfl (J7.s.r2.there rfl) ZAx (by kernel_rfl) ?_
        try simp only [PS]
        obtain ⟨r8,aF,aE,F8⟩:=J7.s.fin (wL y q1) rfl (F2);generalize aC:w8.setCells _ _ _=y8 at r8 aF aE F8 ⊢;clear aC
        try go_wp2
        obtain ⟨z0,z1,z2,z3,z4,z5,z6,z7,z8,z9,aS,aT,aU,aV,aW,aX,dI⟩:=c16 r8;exact bodyPost_ret (v:=.agg (wA y q1)) (by simp [results,Tryz.results43,go_sem,z0,z1,z2,z3,z4,z5,z6,z7,z8,z9,aS,aT,aU,aV,aW,aX]) rfl ⟨⟨y,q1,12,rfl,(by rw [HY.out];exact HG.out.doE _),⟨by omega,by omega⟩,by rw [HY.out,zju];have:=HW.out;omega,F8⟩,⟨p+i+1,by omega,by omega,aF⟩,aE⟩
     ·have bU:¬ (k:Int)<60:=by omega
      go_wp2_with fail;go_roundw
      case rel=>exact ⟨i+1,by omega,by go_num,by rw [show p+((i+1:Nat):Int)=p+i+1 by omega];exact J2.s⟩
      case measure=>simp [intOf];omega
   ·have eG:(D.C == 0)=false:=by simp [hC]
    have qX:=J0.r.cell 0 _ rfl;have eD:=J0.r.lt;go_upto_region 8 with fail;clear qX eD;refine wp_region_lit ?_;refine wpList_load_mid rfl 36 _ rfl (B) 0 rfl (wL x q) _ J0.s.r3.range Tryz.underlying36 rfl ZAx ?_;simp only [PS];refine wpList_store_mid rfl 36 _ _ rfl (w.heap.size) 0 (wA x q) rfl rfl (J0.s.r2.there rfl) ZAx (by kernel_rfl) ?_
    try simp only [PS]
    obtain ⟨r8,aF,aE,F8⟩:=J0.s.fin (wL x q) rfl (J0.s.wo.mono (fun b _ k=>k.1));generalize aC:v7.setCells _ _ _=y8 at r8 aF aE F8 ⊢;clear aC
    try go_wp2
    obtain ⟨z0,z1,z2,z3,z4,z5,z6,z7,z8,z9,aS,aT,aU,aV,aW,aX,dI⟩:=c16 r8;exact bodyPost_ret (v:=.agg (wA x q)) (by simp [results,Tryz.results43,go_sem,z0,z1,z2,z3,z4,z5,z6,z7,z8,z9,aS,aT,aU,aV,aW,aX]) rfl ⟨⟨x,q,12,rfl,HG.out,⟨by omega,by omega⟩,by have:=HW.out;omega,F8⟩,⟨p+i+1,by omega,by omega,aF⟩,aE⟩
  ·have bV:¬ (i:Int)<60:=by omega
   go_upto_region 17 with fail;refine wp_region_lit ?_;refine wpList_load_mid rfl 36 _ rfl (B) 0 rfl (wL x q) _ S1.r3.range Tryz.underlying36 rfl ZAx ?_;simp only [PS];refine wpList_store_mid rfl 36 _ _ rfl (w.heap.size) 0 (wA x q) rfl rfl (S1.r2.there rfl) ZAx (by kernel_rfl) ?_
   try simp only [PS]
   obtain ⟨r8,aF,aE,F8⟩:=S1.fin (wL x q) rfl (S1.wo.mono (fun b _ k=>k.1));generalize aC:wr.setCells _ _ _=y8 at r8 aF aE F8 ⊢;clear aC
   try go_wp2
   obtain ⟨z0,z1,z2,z3,z4,z5,z6,z7,z8,z9,aS,aT,aU,aV,aW,aX,dI⟩:=c16 r8;exact bodyPost_ret (v:=.agg (wA x q)) (by simp [results,Tryz.results43,go_sem,z0,z1,z2,z3,z4,z5,z6,z7,z8,z9,aS,aT,aU,aV,aW,aX]) rfl ⟨⟨x,q,12,rfl,HG.out,⟨by omega,by omega⟩,by have:=HW.out;omega,F8⟩,⟨p+i,by omega,by omega,aF⟩,aE⟩
end Go.Proofs.YtehbpeinnepdcaaGreatDoor
