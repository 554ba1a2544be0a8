import Derived.Test.YtehbpeinnepdcaaGreatDoorPrWdW
set_option maxHeartbeats 32000000
set_option maxRecDepth 8000
set_option linter.unusedVariables false
set_option linter.unusedSimpArgs false
namespace Go.Proofs.YtehbpeinnepdcaaGreatDoor
open Go.RowKit
theorem JRL (R:Nat) (a:Option Addr) (n c:Nat) (p:Int) (w:World) (h:Rdr w R a n c p) (hp:p<99600000):Calls Tryz.prog 10 #[.pointer (some ⟨R,0,none⟩)] w fun r w'=>JXu w w' r/\Zlg w R a n c p 30100 w':=by
 have p0:=h.p0;have lR:=h.lts.1;have ga:=h.lts.2;obtain ⟨i0,aL,aP,aQ,aR⟩:=yWN vB4;have HI:=hid (And.intro aL (And.intro aP (And.intro aQ aR)));clear aL aP aQ aR;obtain ⟨i1,aL,aP,aQ,aR⟩:=vHq q7E;have HJ:=hid (And.intro aL (And.intro aP (And.intro aQ aR)));clear aL aP aQ aR;go_enter Tryz.func10,Tryz.ntmps10;go_wp2_with fail;generalize aH:w.alloc _=v1;obtain ⟨aX,b8,b2⟩:=bx1 aH;clear aH;refine (J55 R a n c p v1 (h.below aX) (by omega)).mono ?_;rintro e v2 ⟨⟨x,q,N,g,g',rfl,hG,hN,hW,FC,cZ,bI,cW,cY,cT,cI,cJ⟩,⟨pp,q0,q1,hr⟩,hg⟩;have HG:=hid hG;clear cZ bI cW cY cT hW hG g g';unfold Zov;go_upto_region 2 with fail;generalize aI:v2.alloc _=v3;obtain ⟨aJ,cC,b3⟩:=bx1 aI;clear aI;have s2:=hg.size;obtain ⟨B,aU⟩:∃ k,k=v2.heap.size:=⟨_,rfl⟩
 have D:WsW w v3 R a n c pp B x q:=by
  refine ⟨⟨hr.below aJ,ZpU (ZpU (Qbp _ aX) hg) (Qbp _ aJ),lR,ga,((b2.now.grown hg (fun e=>by injection e with e;omega)).below aJ),aU ▸ b3.now,by omega⟩,(FC.mono (fun b hl k=>by omega)).below aJ,Q9b HG.out,cI,cJ⟩
 rw [<-aU];clear aX aJ b2 b3 FC h ga lR b8 cC s2 aU hr hg cI cJ;generalize Value.agg _=A0;go_wp2_with fail;refine (ZfV R a n c pp 14 _ D.b.rd (by omega)).mono ?_;rintro e v4 ⟨⟨t,rfl,t0,t1⟩,hr,hg⟩;replace D:=D.pick hr hg;clear hr hg
 by_cases h0:t=0
 ·subst h0
  have CS:=hid (vDd R a n c (pp+1) x q N v4 D.b.rd (by omega) D.f.at HG.out hN);unfold Zov at CS;obtain ⟨c0,c1,c2,c3,c4,c5,c6,c7,c8,c9,c10,cK,c12,cL,cM,cN,cl⟩:=c16 D.b.r3;go_wp2_with fail;clear c0 c1 c2 c3 c4 c5 c6 c7 c8 c9 c10 cK c12 cL cM cN cl;refine CS.out.mono ?_;rintro e v5 ⟨⟨y,qy,rfl,F,bG,aZ,bJ⟩,⟨pq,q2,q3,hr⟩,hg⟩;have l4:=D.b.r3.lt;have lB:=D.b.lB;have Db:=D.b.pick hr hg;clear D CS hr hg;unfold Zov
  try simp only [PS]
  refine ‹∀ (a:Act) (w:World),wpList _ _ _ _ a w->_› _ _ ?_
  refine wpList_store_mid rfl 36 _ _ rfl w.heap.size 0 (wA y qy) rfl rfl (Db.r2.there rfl) ZAx (by kernel_rfl) ?_
  try simp only [PS]
  obtain ⟨r8,aT,aS,G8⟩:=Db.fin (wL y qy) rfl;have F8:=(F.grown G8 (fun g e k=>by cases e;omega)).mono (G:=fun b=>w.heap.size<=b) (fun b _ k=>by omega);generalize aA:v5.setCells _ _ _=y8 at r8 aT aS G8 F8 ⊢;clear aA G8 Db
  try go_wp2
  obtain ⟨z0,z1,z2,z3,z4,z5,z6,z7,z8,z9,bU,bV,bW,bY,bZ,b7,zl⟩:=c16 r8;exact bodyPost_ret (v:=.agg (wA y qy)) (by simp [results,Tryz.results10,go_sem,z0,z1,z2,z3,z4,z5,z6,z7,z8,z9,bU,bV,bW,bY,bZ,b7]) rfl ⟨⟨y,qy,rfl,F8,bG,aZ,bJ⟩,⟨pq,by omega,by omega,aT⟩,aS⟩
 go_upto_block 0 with fail;go_cut [4,5] from 10 to 46 (fun _ _ wx=>WsE w R a n c (pp+1) 10 B wx)
 case rest =>
  clear D;obtain ⟨y,qy,pq,q2,q3,D⟩:=hcut
  rename World=>wx
  go_upto_region 13 with fail;refine wp_region_lit ?_;refine wpList_load_mid rfl 36 _ rfl B 0 rfl (wL y qy) _ D.b.r3.range Tryz.underlying36 rfl ZAx ?_;simp only [PS];refine wpList_store_mid rfl 36 _ _ rfl w.heap.size 0 (wA y qy) rfl rfl (D.b.r2.there rfl) ZAx (by kernel_rfl) ?_
  try simp only [PS]
  obtain ⟨y8,aA⟩:∃ y9,y9=wx.setCells w.heap.size 0 (wL y qy):=⟨_,rfl⟩;obtain ⟨r8,aT,aS,F8⟩:=D.end y8 aA;rw [<-aA];have bG:=D.m;have aZ:=D.cs;have bJ:=D.ct;clear aA D
  try go_wp2
  obtain ⟨z0,z1,z2,z3,z4,z5,z6,z7,z8,z9,bU,bV,bW,bY,bZ,b7,zl⟩:=c16 r8;exact bodyPost_ret (v:=.agg (wA y qy)) (by simp [results,Tryz.results10,go_sem,z0,z1,z2,z3,z4,z5,z6,z7,z8,z9,bU,bV,bW,bY,bZ,b7]) rfl ⟨⟨y,qy,rfl,F8,bG,aZ,bJ⟩,⟨pq,by omega,by omega,aT⟩,aS⟩
 case first =>
 by_cases h1:t=1
 ·subst h1
  go_wp2_with fail;refine (ZfV R a n c (pp+1) 2 _ D.b.rd (by omega)).mono ?_;rintro e v6 ⟨⟨z,rfl,z0,z1⟩,hr,hg⟩;replace D:=D.pick hr hg;clear hr hg;have bH:=HG.out.ok.p.1;obtain ⟨M,hM⟩:∃ N:Nat,(200:Int)-z=(N:Int):=⟨(200-z).toNat,by omega⟩;have dE:IntKind.i64.wrap ((200:Int)-z)=(M:Int):=by rw [hM];exact vRg _ (by omega) (by omega)
  have cS:M<=200:=by omega
  have bQ:IntKind.i64.wrap (M:Int)=(M:Int):=vRg _ (by omega) (by omega);have c0:=D.b.r3.cell 14 _ rfl;have cl:=D.b.r3.lt;go_wp2_with fail;clear c0 cl;go_loopw [] (fun wr=>xEP w R a n c (pp+1+1) B 200 wr) (fun wr=>4000-kki (wr.cell? ⟨B,14,none⟩))
  case atStart=>exact ⟨x,q,by omega,D⟩
  case round =>
   clear D bH HG;clear x q;obtain ⟨x,q,hQ,D⟩:=hrel
   by_cases cU:x.P.length<M
   ·have aF:(x.P.length:Int)<(M:Int):=by omega
    have c0:=D.b.r3.cell 14 _ rfl;have cl:=D.b.r3.lt;have D4:=D.below (quc wr (.cells #[.slice none 0 0] 31));obtain ⟨news,aO,dH,aK⟩:=ymZ (P:=Tryz.prog) D4.f.h4 34 31 Tryz.underlying34 q.cp
    have aM:=World.ownsRow_lit (w:=wr) (e:=31) (size:=1) (base:=wr.heap.size) #[.slice none 0 0] 1 (Nat.le_refl _) (by first | simp;done | (unfold maxLen;omega)) (by simp)
    have c4:=D4.b.r3.cell 14 _ rfl;have cO:=D4.b.r3.lt;have HQ:=hid (And.intro (aO _ (Below.refl _ _)) aK);have HD:=hid D4;have HL:=hid aM;clear aO aK D4 aM
    go_wp2_with (first | (at_builtin;refine v0U rfl _ _ 34 rfl 31 i1 (.agg #[.slice none 0 0]) 24 Tryz.underlying34 HJ.out.1 HJ.out.2.1 HJ.out.2.2.1 HJ.out.2.2.2 rfl wr.heap.size wr.heap.size (.slice none 0 0) rfl HL.out _ rfl x.P.length news HQ.out.1 (by omega) (by omega) (by simp) ?_;intro g cap wx aB aW aG;have E9:=HD.out.pre (lo:=wr.heap.size) cl aG HQ.out.2 aB (by omega) (by omega);have cE:=hid E9;have rA:=(HD.out.b.below aG).r3;have l0:=rA.cell 14 _ rfl;have l1:=rA.froz 14 (by simp);have l2:=rA.lt;clear aB aW aG E9 rA))
    have E2:=cE.out;clear cE HL HQ HD l0 l1 l2 c0 cl c4 cO;generalize aC:World.setCell _ _ _=yC at E2 ⊢;clear aC;have bC:=XX0 (D.b.r3.cell 14 _ rfl);have aN:=XX0 (E2.b.r3.cell 14 _ rfl);rw [List.length_cons] at aN;go_roundw
    case rel=>exact ⟨_,_,by show x.P.length+1<=_;omega,E2⟩
    case measure=>(try rw [bC,aN]);omega
   ·have aF:¬ (x.P.length:Int)<(M:Int):=by omega
    have HE:=hid D;have c0:=D.b.r3.cell 14 _ rfl;have cl:=D.b.r3.lt;clear D;go_wp2_with fail;go_meet;exact ⟨_,_,pp+1+1,by omega,by omega,HE.out⟩
 by_cases h2:t=2
 ·subst h2
  go_wp2_with fail;refine (ZfV R a n c (pp+1) 4 _ D.b.rd (by omega)).mono ?_;rintro e v6 ⟨⟨z,rfl,z0,z1⟩,hr,hg⟩;replace D:=D.pick hr hg;clear hr hg;have bH:=HG.out.ok.t.1;obtain ⟨M,hM⟩:∃ N:Nat,(2000:Int)-z=(N:Int):=⟨(2000-z).toNat,by omega⟩;have dE:IntKind.i64.wrap ((2000:Int)-z)=(M:Int):=by rw [hM];exact vRg _ (by omega) (by omega)
  have cS:M<=2000:=by omega
  have bQ:IntKind.i64.wrap (M:Int)=(M:Int):=vRg _ (by omega) (by omega);have c0:=D.b.r3.cell 15 _ rfl;have cl:=D.b.r3.lt;go_wp2_with fail;clear c0 cl;go_loopw [] (fun wr=>Xlc w R a n c (pp+1+1) B 2000 wr) (fun wr=>4000-kki (wr.cell? ⟨B,15,none⟩))
  case atStart=>exact ⟨x,q,by omega,D⟩
  case round =>
   clear D bH HG;clear x q;obtain ⟨x,q,hQ,D⟩:=hrel
   by_cases cU:x.ts.length<M
   ·have aF:(x.ts.length:Int)<(M:Int):=by omega
    have c0:=D.b.r3.cell 15 _ rfl;have cl:=D.b.r3.lt;have cV:=D.m.s5;go_upto_region 12 with fail;clear c0 cl;have dD:=(D.below (Below.refl wr.heap.size wr).drew).b.r3.cell 15 _ rfl;refine yO4 (6) (S:=fun w'=>w'.cell? ⟨B,15,none⟩=some (.slice q.t x.ts.length q.ct)) (by kernel_rfl) (dD) (fun cF=>?_);refine TYT 2 (.pointer (some ⟨B,15,none⟩)) rfl cF (TYT 3 (.slice q.t x.ts.length q.ct) rfl cF ?_);simp only [PS];refine RDT 0 rfl (fun Kq aE=>?_);obtain ⟨yb,aD⟩:∃ y,y=wr.drew:=⟨_,rfl⟩;rw [<-aD];have EB:=D.below (show Below wr.heap.size wr yb by rw [aD];exact (Below.refl _ _).drew);clear aD;refine XRf (by rfl) 26 #[] (by go_simp) (zeros_s _) ?_;rintro e y2 ⟨rfl,cH⟩;refine ⟨_,rfl,?_⟩;have E3:=EB.below cH;clear cH;refine aE.out _ _ (E3.b.r3.cell 15 _ rfl) (fun cP=>?_)
    try simp only [PS]
    refine RDT 1 rfl (fun Kq aE=>?_);go_simp;have E4:=E3.below (quc y2 (.cells #[.string zeros] 9));refine aE.out _ _ (E4.b.r3.cell 15 _ rfl) (fun cQ=>?_)
    try simp only [PS]
    refine RDT 4 rfl (fun Kq aE=>?_)
    refine Xo2 (by rfl) _ _ 23 (by rfl) 9 i0 (.string ByteArray.empty) 16 Tryz.underlying23 HI.out.1 HI.out.2.1 HI.out.2.2.1 HI.out.2.2.2 rfl y2.heap.size y2.heap.size (.string zeros) (by rfl) (World.ownsRow_lit (w:=y2) (e:=9) (size:=1) (base:=y2.heap.size) #[.string zeros] 1 (Nat.le_refl _) (by first | simp;done | (unfold maxLen;omega)) (by simp)) (.slice q.t x.ts.length q.ct) (by rfl) x.ts.length _ (src_strs E4.f.h5.now _ _ Tryz.underlying23 q.ct) (by omega) (by omega) (by simp) ?_
    intro g cap yA aB aW aG;have aY:=(quc y2 (.cells #[.string zeros] 9)).trans (aG.mono (by simp));have E9:=E3.wr (ts:=zeros::x.ts) E3.b.r3.lt aY aB ⟨by rw [List.length_cons];omega,fun s hs=>by rcases List.mem_cons.1 hs with rfl | hs;have:=Qt0;omega;exact cV s hs⟩ (by rw [List.length_cons];omega);have rA:=(E3.b.below aY).r3;clear aB aW aG aY;refine aE.out _ _ (rA.cell 15 _ rfl) (fun aV=>?_)
    try simp only [PS]
    refine TYT 5 (.pointer (some ⟨B,15,none⟩)) rfl aV ?_;simp only [PS];refine kPc (rs:=[6]) (by kernel_rfl) (by simp) ?_;refine AllReadyT.last rfl (fun Kq aE=>?_);have l0:=rA.cell 15 _ rfl;have l1:=rA.froz 15 (by simp);have l2:=rA.lt;go_simp;clear l0 l1 l2;refine aE.out _ _ trivial (fun _=>?_)
    try simp only [PS]
    refine kgn (by kernel_rfl) ?_ _;clear rA;generalize aC:World.setCell _ _ _=yC at E9 ⊢;clear aC;have bC:=XX0 (D.b.r3.cell 15 _ rfl);have aN:=XX0 (E9.b.r3.cell 15 _ rfl);rw [List.length_cons] at aN;go_wp2_with fail;go_roundw
    case rel=>exact ⟨_,_,by show x.ts.length+1<=_;omega,E9⟩
    case measure=>(try rw [bC,aN]);omega
   ·have aF:¬ (x.ts.length:Int)<(M:Int):=by omega
    have HE:=hid D;have c0:=D.b.r3.cell 15 _ rfl;have cl:=D.b.r3.lt;clear D;go_wp2_with fail;go_meet;exact ⟨_,_,pp+1+1,by omega,by omega,HE.out⟩
 have HE:=hid D;clear D;go_wp2_with fail;go_meet;exact ⟨_,_,pp+1,by omega,by omega,HE.out⟩
theorem kvD (ss:List ByteArray):∀ u∈ss.map Value.string,u.oneCell'=true:=by intro u hu;obtain ⟨s,_,rfl⟩:=List.mem_map.1 hu;rfl
theorem v7Z (a:Option Addr) (n c:Nat) (w:World) (h:Bys w a n) (hn:n<=1048576) (hc:n<=c):Calls Tryz.prog 4 #[.slice a n c] w fun e w'=>JXu w w' e/\Below w.heap.size w w':=by
 obtain ⟨i0,cL,cO,cP,cQ⟩:=yWN vB4;have HI:=hid (And.intro cL (And.intro cO (And.intro cP cQ)));clear cL cO cP cQ;go_enter Tryz.func4,Tryz.ntmps4;go_wp2_with fail;generalize aI:w.alloc _=v1;obtain ⟨hb,bY,b2⟩:=bx1 aI;clear aI;have hE:Below w.heap.size w v1:=hb;refine (qSd a n c _ (h.below hb) hn hc).mono ?_;rintro e v2 ⟨rfl,⟨n',c',aN⟩,aV⟩;obtain ⟨R,cE⟩:∃ R,R=v1.heap.size:=⟨_,rfl⟩;rw [<-cE] at aN ⊢;have hR:w.heap.size<R:=by omega
 have lR:R<v2.heap.size:=ykG aN.pc;replace hE:=hE.trans (aV.mono hE.size);replace b2:=(b2.below aV).now;clear hb aV h bY cE;go_wp2_with fail;refine (JRL R a n' c' 0 _ aN (by omega)).mono ?_;rintro e v3 ⟨⟨x,q,rfl,F,hm,cJ,aX⟩,⟨p1,dH,dI,hr⟩,hg⟩;have s3:=hg.size;replace hE:=hE.trans (jJX hg hE.size (fun x e=>by have e:=Option.some.inj e;omega));replace b2:=b2.grown hg (fun e=>by injection e with e;omega);clear hg aN;unfold Zov;go_upto_region 3 with fail;generalize aJ:v3.alloc _=v4;obtain ⟨hb,bZ,b4⟩:=bx1 aJ;clear aJ;obtain ⟨B,cC⟩:∃ k,k=v3.heap.size:=⟨_,rfl⟩;obtain ⟨lo,aH⟩:∃ k,k=v2.heap.size:=⟨_,rfl⟩;rw [<-cC] at b4 ⊢;rw [<-aH] at F lR s3;replace F:=(F.mono (G:=fun b=>lo<=b/\b≠B) (fun b hl k=>by omega)).below hb;have D:DfS w v4 B lo x q:=⟨hE.trans (hb.mono hE.size),b2.below hb,b4.now,F,hm,cJ,aX,by omega⟩;have bG:=hr.below hb;clear hb b2 b4 F hm cJ aX hE bZ s3 hr cC aH;generalize Value.agg _=A0;go_cut [18] from 10 to 17 (fun bv wx=>DfB w R a n' c' B lo x q bv wx)
 case first =>
  go_wp2_with fail;refine (ZfV R a n' c' p1 4 _ bG (by omega)).mono ?_;rintro e v5 ⟨⟨t,rfl,t0,t1⟩,hr,hg⟩;replace D:=D.pick hg ⟨hR,lR⟩;clear hg bG;have aL:=D.r4.cell 15 _ rfl;have cl:=D.r4.lt
  by_cases ht:t=0
  ·subst ht
   by_cases hl:0<x.ts.length
   ·have cM:(0:Int)<(x.ts.length:Int):=by omega
    go_wp2_with fail;go_meet;exact ⟨true,p1+1,rfl,fun _=>hl,by omega,hr,D⟩
   ·have cM:¬ ((0:Int)<(x.ts.length:Int)):=by omega
    go_wp2_with fail;go_meet;exact ⟨false,p1+1,rfl,(fun k=>by cases k),by omega,hr,D⟩
  ·go_wp2_with fail
   go_meet;exact ⟨false,p1+1,rfl,(fun k=>by cases k),by omega,hr,D⟩
 case rest =>
 clear D bG dH dI;obtain ⟨b,pp,rfl,cI,dV,hr,D⟩:=hcut
 rename World=>wx
 cases b with
 | false =>
  go_upto_region 6 with fail;refine wp_region_lit ?_;refine wpList_load_mid rfl 36 _ rfl B 0 rfl (wL x q) _ D.r4.range Tryz.underlying36 rfl ZAx ?_;simp only [PS];refine wpList_store_mid rfl 36 _ _ rfl w.heap.size 0 (wA x q) rfl rfl (D.r2.there rfl) ZAx (by kernel_rfl) ?_
  try simp only [PS]
  obtain ⟨y8,aA⟩:∃ y9,y9=wx.setCells w.heap.size 0 (wL x q):=⟨_,rfl⟩;obtain ⟨r8,aS,F8⟩:=D.fin y8 aA;rw [<-aA];have aY:=D.m;have aW:=D.cs;have bH:=D.ct;clear aA D
  try go_wp2
  obtain ⟨z0,z1,z2,z3,z4,z5,z6,z7,z8,z9,bI,bJ,bQ,bU,bV,bW,zl⟩:=c16 r8;exact bodyPost_ret (v:=.agg (wA x q)) (by simp [results,Tryz.results4,go_sem,z0,z1,z2,z3,z4,z5,z6,z7,z8,z9,bI,bJ,bQ,bU,bV,bW]) rfl ⟨⟨x,q,rfl,F8,aY,aW,bH⟩,aS⟩
 | true =>
  have hl:=cI rfl;clear cI;have cM:(0:Int)<(x.ts.length:Int):=by omega
  have dU:=D.m.l5;have aL:=D.r4.cell 15 _ rfl;have cl:=D.r4.lt;go_wp2_with fail;clear aL cl;refine (ZfV R a n' c' pp (x.ts.length:Int) _ hr (by omega)).mono ?_;rintro e v6 ⟨⟨k',rfl,k0,k1⟩,cZ,hg⟩;replace D:=D.pick hg ⟨hR,lR⟩;clear hg hr cZ;obtain ⟨k,rfl⟩:∃ k:Nat,k'=(k:Int):=⟨k'.toNat,by omega⟩;have hk:k<x.ts.length:=by omega
  obtain ⟨K1,cV⟩:∃ K:Nat,K=k+1:=⟨_,rfl⟩;have dY:IntKind.i64.wrap ((k:Int)+1)=(K1:Int):=by rw [vRg _ (by omega) (by omega)];omega
  have dM:k<K1/\K1<=k+1:=by omega
  clear cV;have aX:=D.ct
  obtain ⟨bt,ot,bC⟩:∃ b o,q.t=some ⟨b,o,none⟩:=by
   rcases D.f.h5.now with h | ⟨b,o,h1,_⟩
   ·rw [h] at hl;cases hl
   ·exact ⟨b,o,h1⟩
  have cU:=hid bC;have dK:K1<=x.ts.length:=by omega
  have dO:(0:Int)<=(k:Int):=by omega
  have dQ:(k:Int)<=(q.ct:Int):=by omega
  have dJ:(0:Int)<=(K1:Int):=by omega
  have dL:(K1:Int)<=(x.ts.length:Int):=by omega
  obtain ⟨b8,hT,aO⟩:∃ T:Option Addr,(∀ wz:World,(Instr.slice 23 (.slice q.t x.ts.length q.ct) (some (.int .i64 (K1:Int))) none none).run Tryz.prog wz=.ok (.slice T (x.ts.length-K1) (q.ct-K1)) wz)/\Hid (0<x.ts.length-K1->T=some ⟨bt,ot+K1,none⟩):=by
   by_cases dN:q.ct=K1
   ·exact ⟨q.t,fun wz=>by go_simp,hid (fun h=>by omega)⟩
   ·exact ⟨some ⟨bt,ot+K1,none⟩,fun wz=>by rw [bC];go_simp,hid (fun _=>rfl)⟩
  clear bC;have aL:=D.r4.cell 15 _ rfl;have cl:=D.r4.lt;go_upto_region 5 with fail;clear aL cl;have dD:=(D.below (Below.refl v6.heap.size v6).drew).r4.cell 15 _ rfl;refine yO4 (13) (S:=fun w'=>w'.cell? ⟨B,15,none⟩=some (.slice q.t x.ts.length q.ct)) (by kernel_rfl) (dD) (fun aD=>?_);refine TYT 1 (.pointer (some ⟨B,15,none⟩)) rfl aD (TYT 2 (.slice q.t x.ts.length q.ct) rfl aD (TYT 3 (.int .i64 (k:Int)) rfl aD (TYT 4 (.slice q.t k q.ct) rfl aD (TYT 6 (.pointer (some ⟨B,15,none⟩)) rfl aD (TYT 7 (.slice q.t x.ts.length q.ct) rfl aD (TYT 8 (.int .i64 (k:Int)) rfl aD (TYT 9 (.int .i64 (K1:Int)) rfl aD (TYT 10 (.slice b8 (x.ts.length-K1) (q.ct-K1)) rfl aD ?_))))))));simp only [PS];refine RDT 0 rfl (fun Kq aG=>?_);obtain ⟨yb,aF⟩:∃ y,y=v6.drew:=⟨_,rfl⟩;rw [<-aF];have EB:=D.below (show Below v6.heap.size v6 yb by rw [aF];exact (Below.refl _ _).drew);clear aF;go_simp;have E0:=EB.below (quc yb (.cells #[] 9));have cS:=(EB.f.mono (G:=fun b=>(lo<=b/\b≠B)/\b<yb.heap.size) (fun b hl k=>⟨k,hl⟩)).below (quc yb (.cells #[] 9))
  refine aG.out _ _ (E0.r4.cell 15 _ rfl) (fun cW=>?_)
  try simp only [PS]
  refine RDT 5 rfl (fun Kq aG=>?_);refine z98 (by rfl) _ _ 23 (by rfl) 9 i0 (.string ByteArray.empty) 1 16 Tryz.underlying23 HI.out.1 HI.out.2.1 HI.out.2.2.1 HI.out.2.2.2 rfl yb.heap.size yb.heap.size (by rfl) (World.ownsRow_lit (w:=yb) (e:=9) (size:=1) (base:=yb.heap.size) #[] 0 (Nat.le_refl _) (by simp) (by simp)) (.slice q.t k q.ct) (by rfl) k _ (jhx E0.f.h5.now _ _ Tryz.underlying23 k q.ct (by omega)) (by omega) (by omega) (by simp) ?_;intro g5 aP y5 aE aU aM;have E5:=E0.below aM;have cT:=cS.below aM
  have aK:∀ j u,((x.ts.drop K1).map Value.string)[j]?=some u->y5.cell? ⟨bt,ot+K1+j,none⟩=some u:=by
   have hd:=(E5.f.h5.now);rw [cU.out] at hd;intro j u hu;have:=(hd.dropD K1);exact kJp this j u hu
  have l5:=aM.size;clear aU aM;refine aG.out _ _ (E5.r4.cell 15 _ rfl) (fun cY=>?_)
  try simp only [PS]
  refine RDT 11 rfl (fun Kq aG=>?_);refine zLD (by rfl) _ _ 23 (by rfl) yb.heap.size 9 i0 (.string ByteArray.empty) 16 Tryz.underlying23 HI.out.1 HI.out.2.1 HI.out.2.2.1 HI.out.2.2.2 rfl g5 k aP _ (by rfl) aE b8 (x.ts.length-K1) (q.ct-K1) ((x.ts.drop K1).map Value.string) (by rfl) (by simp) (fun hm=>⟨_,aO.out hm,fun j u hu=>by rw [Addr.add_lit];exact aK j u hu⟩) (kvD _) (by unfold maxLen;omega) (by omega) (by simp at l5;omega) ?_;intro g9 aQ yA aB cK;obtain ⟨ts,aC⟩:∃ l,l=x.ts.take k++x.ts.drop K1:=⟨_,rfl⟩;have cN:k+(x.ts.length-K1)=ts.length:=by rw [aC,List.length_append,List.length_take,List.length_drop];omega
  have aZ:∀ s∈ts,s∈x.ts:=by
   intro s hs;rw [aC] at hs;rcases List.mem_append.1 hs with hs | hs
   ·exact List.mem_of_mem_take hs
   ·exact List.mem_of_mem_drop hs
  rw [<-List.map_append,<-aC] at aB;have b7:=hid cN;clear aC cN;have dZ:=(aE.lt g5 rfl).1;have dE:=EB.r4.lt
  have E9:DfS w yA B lo x q:=by
   have dR:=E5.lo;have G:=cK;exact ⟨E5.e.trans (jJX G E5.e.size (fun x e=>by have e:=Option.some.inj e;omega)),E5.r2.grown G (fun e=>by injection e with e;omega),E5.r4.grown G (fun e=>by injection e with e;omega),(cT.grown G (fun g e k=>by cases e;omega)).mono (fun b _ k=>k.1),E5.m,E5.cs,E5.ct,E5.lo⟩
  have rA:=E9.r4;have EA:=E9.wr dE aB ⟨by rw [<-b7.out];omega,fun s hs=>D.m.s5 s (aZ s hs)⟩ b7.out;clear aB cK;refine aG.out _ _ (rA.cell 15 _ rfl) (fun aT=>?_)
  try simp only [PS]
  refine TYT 12 (.pointer (some ⟨B,15,none⟩)) rfl aT ?_;simp only [PS];refine kPc (rs:=[13]) (by kernel_rfl) (by simp) ?_;refine AllReadyT.last rfl (fun Kq aG=>?_);have l0:=rA.cell 15 _ rfl;have l1:=rA.froz 15 (by simp);have l2:=rA.lt;go_simp;clear l0 l1 l2;refine aG.out _ _ trivial (fun _=>?_)
  try simp only [PS]
  refine kgn (by kernel_rfl) ?_ _;clear rA E9 D;obtain ⟨xx,cH⟩:∃ y:Wo,y={ x with ts:=ts }:=⟨_,rfl⟩;obtain ⟨qq,cF⟩:∃ y:Wp,y={ q with t:=some ⟨g9,0,none⟩,ct:=aQ }:=⟨_,rfl⟩;rw [<-cH,<-cF] at EA;clear cH cF;generalize aR:World.setCell _ _ _=yC at EA ⊢;clear aR;have D:=EA;clear EA;go_upto_region 6 with fail;refine wp_region_lit ?_;refine wpList_load_mid rfl 36 _ rfl B 0 rfl (wL xx qq) _ D.r4.range Tryz.underlying36 rfl ZAx ?_;simp only [PS];refine wpList_store_mid rfl 36 _ _ rfl w.heap.size 0 (wA xx qq) rfl rfl (D.r2.there rfl) ZAx (by kernel_rfl) ?_
  try simp only [PS]
  obtain ⟨y8,aA⟩:∃ y9,y9=yC.setCells w.heap.size 0 (wL xx qq):=⟨_,rfl⟩;obtain ⟨r8,aS,F8⟩:=D.fin y8 aA;rw [<-aA];have aY:=D.m;have aW:=D.cs;have bH:=D.ct;clear aA D
  try go_wp2
  obtain ⟨z0,z1,z2,z3,z4,z5,z6,z7,z8,z9,bI,bJ,bQ,bU,bV,bW,zl⟩:=c16 r8;exact bodyPost_ret (v:=.agg (wA xx qq)) (by simp [results,Tryz.results4,go_sem,z0,z1,z2,z3,z4,z5,z6,z7,z8,z9,bI,bJ,bQ,bU,bV,bW]) rfl ⟨⟨xx,qq,rfl,F8,aY,aW,bH⟩,aS⟩
theorem v73 (a:Option Addr) (n c:Nat) (w:World) (h:Bys w a n) (hc:n<=c) (hn:n<=1048576) (ty:TypeId) (gv:Value) (g1:w.cell? ⟨1,0,none⟩=some (.iface ty gv)) (g0:w.cell? ⟨0,0,none⟩=some (.iface 143 (.agg #[.pointer (some ⟨2,65,none⟩)]))) (gl:1<w.heap.size) :
  Calls Tryz.prog 3 #[.slice a n c] w fun e w'=>e=.returned (.bool true)/\Below w.heap.size w w':=by
 have cS:¬ (1048576<(n:Int)):=by omega
 have HG:Hid (∀ wx,Below w.heap.size w wx->wx.cell? ⟨1,0,none⟩=some (.iface ty gv)/\wx.cell? ⟨0,0,none⟩=some (.iface 143 (.agg #[.pointer (some ⟨2,65,none⟩)]))/\1<wx.heap.size):=fun wx hb=>⟨(hb.cell (p:=⟨1,0,none⟩) gl).trans g1,(hb.cell (p:=⟨0,0,none⟩) (by show 0<_;omega)).trans g0,by have:=hb.size;omega⟩
 have bG:=hid h;clear g0 g1 gl h;go_enter Tryz.func3,Tryz.ntmps3;go_wp2_with fail;refine (v7Z a n c _ bG.out hn hc).mono ?_;rintro e v1 ⟨⟨x,q,rfl,F1,aY,aW,-⟩,hE⟩;obtain ⟨qa,qc,aH,aI,qs,aK,qp,aJ,qt,aO⟩:=q;have bI:=hid aY;have bH:Hid (w.heap.size<=v1.heap.size):=hid hE.size;have hm:=qLr aY (show 200000<=1048576 by omega);clear aY bG;replace F1:=F1.mono (G:=fun b=>b<v1.heap.size) (fun b hl _=>hl);unfold Zov;simp only at aW ⊢;go_upto_region 4 with fail;generalize aM:v1.alloc _=v2;obtain ⟨hb,aZ,b3⟩:=bx1 aM;clear aM;obtain ⟨B,bJ⟩:∃ k,k=v1.heap.size:=⟨_,rfl⟩;rw [<-bJ] at b3 F1 bH ⊢;have r3:=b3.now;replace F1:=F1.below hb;replace hE:=hE.trans (hb.mono hE.size);clear hb aZ b3 bJ;generalize Value.agg _=A0;have CI:=hid (fun wx k1 k2=>keK x ⟨qa,qc,aH,aI,qs,aK,qp,aJ,qt,aO⟩ wx k1 aW hm ty gv (HG.out wx k2).1 (HG.out wx k2).2.1 (HG.out wx k2).2.2);have CS:=hid (fun wx k1=>yw6 x ⟨qa,qc,aH,aI,qs,aK,qp,aJ,qt,aO⟩ wx k1 hm);have CV:=hid (fun wx k1=>zSf x ⟨qa,qc,aH,aI,qs,aK,qp,aJ,qt,aO⟩ wx k1 hm)
 unfold Zov at CI CS CV;refine wp_region_lit ?_;refine wpList_load_mid rfl 36 _ rfl B 0 rfl [.int .i64 x.w,.slice qa x.ss.length qc,.slice aH x.ws.length aI,.bool x.up,.int .i64 x.W,.int .i64 x.S,.int .i64 x.L,.int .i64 x.T,.int .i64 x.H,.int .i64 x.F,.int .i64 x.R,.int .i64 x.U,.int .i64 x.O,.slice qs x.rs.length aK,.slice qp x.P.length aJ,.slice qt x.ts.length aO] _ r3.range Tryz.underlying36 rfl ZAx ?_;simp only [PS];go_wp2_with fail;refine (CI.out _ F1.at hE).mono ?_;rintro e v3 ⟨rfl,hb⟩;replace r3:=r3.below hb;replace F1:=F1.below hb;replace hE:=hE.trans (hb.mono hE.size);clear hb;obtain ⟨s,aT⟩:∃ s,qV3 x=s:=⟨_,rfl⟩;rw [aT] at CS ⊢;have HS:=hid aT;clear aT CI;go_upto_region 5 with fail;refine wp_region_lit ?_;obtain ⟨q0,q1,q2,q3,q4,q5,q6,q7,q8,q9,cH,cI,cJ,cK,cL,cM⟩:=r3.k16;have ql:=r3.lt;go_wp2_with fail;clear q0 q1 q2 q3 q4 q5 q6 q7 q8 q9 cH cI cJ cK cL cM ql;refine (CS.out _ F1.at).mono ?_;rintro e v4 ⟨rfl,hb⟩
 replace r3:=r3.below hb;replace F1:=F1.below hb;replace hE:=hE.trans (hb.mono hE.size);clear hb;clear CS;go_upto_region 7 with fail;refine wp_region_lit ?_;refine wpList_load_mid rfl 36 _ rfl B 0 rfl [.int .i64 x.w,.slice qa x.ss.length qc,.slice aH x.ws.length aI,.bool x.up,.int .i64 x.W,.int .i64 x.S,.int .i64 x.L,.int .i64 x.T,.int .i64 x.H,.int .i64 x.F,.int .i64 x.R,.int .i64 x.U,.int .i64 x.O,.slice qs x.rs.length aK,.slice qp x.P.length aJ,.slice qt x.ts.length aO] _ r3.range Tryz.underlying36 rfl ZAx ?_;simp only [PS];go_wp2_with fail;refine (CV.out _ F1.at).mono ?_;rintro e v5 ⟨rfl,hb⟩;replace r3:=r3.below hb;replace F1:=F1.below hb;replace hE:=hE.trans (hb.mono hE.size);clear hb;clear CV
 have cE:s.toList.isEmpty=decide (s.size=0):=by
  rw [Bool.eq_iff_iff,List.isEmpty_iff,decide_eq_true_eq,ByteArray.toList_eq]
  constructor
  ·intro h
   show s.data.size=0;rw [<-Array.length_toList,h];rfl
  ·intro h
   exact List.eq_nil_of_length_eq_zero h
 cases hok:XLO x with
 | false =>
  have e0:s=ByteArray.empty:=by rw [<-HS.out];unfold qV3;rw [if_neg (by rw [hok];simp)]
  subst e0;go_wp2;go_ret;exact ⟨rfl,hE⟩
 | true =>
  have bV:=hid hok;clear hok cE HS;have bW:=r3.cell 15 _ rfl;have bY:=r3.froz 15 (by simp);have cl:=r3.lt;go_upto_region 10 with fail;clear bW bY cl;obtain ⟨G,bQ⟩:∃ k,k=v5.heap.size:=⟨_,rfl⟩;rw [<-bQ];have G9:=XGx v5 B 15 (.slice (some ⟨G,0,none⟩) 0 0)
  replace F1:=F1.grown G9 (fun g e k=>by cases e;exact absurd k (Nat.lt_irrefl _))
  replace r3:=r3.set 15 (by simp) (.slice (some ⟨G,0,none⟩) 0 0);have lB:w.heap.size<=B:=bH.out;replace hE:=hE.trans (jJX G9 hE.size (fun x e=>by have e:=Option.some.inj e;omega));clear G9 bQ;generalize v5.setCell _ _=v6 at *;have hb:=quc v6 (.cells #[] 9);replace r3:=r3.below hb;replace F1:=F1.below hb;replace hE:=hE.trans (hb.mono hE.size);clear hb;generalize v6.alloc _=v7 at *;have D:=kvJ F1.at (some ⟨G,0,none⟩) 0;have cT:x.ss.length<=200000:=by have:=bI.out.l1;omega
  have c1:=r3.cell 1 _ rfl;have cl:=r3.lt;have cU:IntKind.i64.wrap ((x.ss.length:Int)-1)=(x.ss.length:Int)-1:=vRg _ (by omega) (by omega);go_wp2_with fail;clear c1 cl;go_loopw [5,6] (fun fv iv wr=>FfR v7 x.w x.ss fv iv wr) (fun _ iv _=>(intOf iv+1).toNat)
  case atStart=>exact ⟨x.ss.length,Nat.le_refl _,rfl,by rw [List.drop_length];rfl,Below.refl _ _⟩
  case round =>
   obtain ⟨i,hi,rfl,rfl,hb⟩:=hrel;have aR:=hb;replace r3:=r3.below hb;replace D:=D.below hb;replace hE:=hE.trans (hb.mono hE.size)
   by_cases h0:0<i
   ·obtain ⟨j,rfl⟩:∃ j,i=j+1:=⟨i-1,by omega⟩
    have hj:(((j+1:Nat):Int)-1)=(j:Int):=by omega
    rw [hj];have cN:(0:Int)<=(j:Int):=by omega
    have cO:(j:Int)<(x.ss.length:Int):=by omega
    have cP:¬ ((x.ss.length:Int)<=(j:Int)):=by omega
    obtain ⟨b,o,t,ha,aX,HT⟩:=D.h1.at (k:=j) (by show j<x.ss.length;omega);have ht:t.size<=200000:=by rw [HT.out];exact bI.out.s1 _ (by show x.ss.getD j ByteArray.empty∈x.ss;simp [List.getD,show j<x.ss.length by omega])
    have aS:=qFM x.w x.ss j (by omega);rw [show x.ss.getD j ByteArray.empty=t from HT.out.symm] at aS;obtain ⟨FF,aQ⟩:∃ F,fgL x.w [] (x.ss.drop (j+1))=F:=⟨_,rfl⟩;rw [aQ] at aS ⊢;have aP:=hid aS;clear aS aQ;obtain rfl:qa=some ⟨b,o,none⟩:=ha
    have HC:Hid (∀ W,Below wr.heap.size wr W->W.cell? ⟨B,1,none⟩=some (.slice (some ⟨b,o,none⟩) x.ss.length qc)/\W.cell? ⟨B,0,none⟩=some (.int .i64 x.w)/\W.cell? ⟨b,o+j,none⟩=some (.string t)):=hid fun W hb=>⟨(r3.below hb).cell 1 _ rfl,(r3.below hb).cell 0 _ rfl,(hb.cell (p:=⟨b,o+j,none⟩) (ykG aX)).trans aX⟩
    go_upto_region 14 with fail;clear aX;have dD:=(Below.refl wr.heap.size wr).drew;refine wp_region_held_drew (S:=fun w'=>w'.cell? ⟨B,1,none⟩=some (.slice (some ⟨b,o,none⟩) x.ss.length qc)/\w'.cell? ⟨B,0,none⟩=some (.int .i64 x.w)/\w'.cell? ⟨b,o+j,none⟩=some (.string t)) (by kernel_rfl) (HC.out _ dD) (fun aD=>?_);refine TY 0 (.pointer (some ⟨B,1,none⟩)) rfl aD (TY 1 (.pointer (some ⟨B,1,none⟩)) rfl aD (TY 2 (.slice (some ⟨b,o,none⟩) x.ss.length qc) rfl aD (TY 3 (.int .i64 (j:Int)) rfl aD (TY 4 (.pointer (some ⟨b,o+j,none⟩)) rfl aD (TY 5 (.string t) rfl aD (TY 6 (.pointer (some ⟨B,0,none⟩)) rfl aD (TY 7 (.int .i64 x.w) rfl aD ?_)))))));simp only [PS];refine wpAnyH_ready (rs:=[8,12]) (by kernel_rfl) (by simp) ?_;refine AllReadyH.cons rfl (fun Kq aB=>?_) (AllReadyH.cons rfl (fun Kq aB=>?_) AllReadyH.nil)
    ·obtain ⟨yb,aA⟩:∃ y,y=wr.drew:=⟨_,rfl⟩
     rw [<-aA];have hT:Below wr.heap.size wr yb:=by rw [aA];exact (Below.refl _ _).drew
     clear aA;refine XRf (by rfl) _ _ (by go_simp) (kfv t x.w _ (by omega)) ?_;rintro e y8 ⟨rfl,hb⟩;refine ⟨_,rfl,?_⟩;obtain ⟨k9,l9,m9,p9,ok,e9,aC⟩:=xvR (Jvc t x.w);rw [e9];clear e9;replace hT:=hT.trans (hb.mono hT.size);clear hb;refine aB.out _ _ (HC.out _ hT) (fun aF=>?_)
     try simp only [PS]
     refine TY 9 (.tuple #[QAw k9 l9 m9 p9,.bool ok]) rfl aF (TY 10 (QAw k9 l9 m9 p9) rfl aF (TY 11 (.bool ok) rfl aF ?_));simp only [PS];refine RD 12 rfl (fun Kq aB=>?_);go_simp;generalize aN:y8.alloc _=bU;obtain ⟨hb,bC,b1⟩:=bx1 aN;obtain ⟨X,aE⟩:∃ k,k=y8.heap.size:=⟨_,rfl⟩;have hX:wr.heap.size<=X:=by rw [aE];exact hT.size
     rw [<-aE] at b1 ⊢;have rX:=b1.now;replace hT:=hT.trans (hb.mono hT.size);clear hb b1 bC aE aN;refine aB.out _ _ (HC.out _ hT) (fun b7=>?_)
     try simp only [PS]
     refine RD 13 rfl (fun Kq aB=>?_);obtain ⟨l0,l1,l2,l3⟩:=rX.k4;obtain ⟨f0,f1,f2,f3⟩:=rX.z4;have ll:=rX.lt;go_simp;clear l0 l1 l2 l3 f0 f1 f2 f3 ll;replace hT:=hT.trans (jJX (ZpU (ZpU (ZpU (XGx bU X 0 (.int .i64 k9)) (XGx _ X 1 (.int .i64 l9))) (XGx _ X 2 (.int .i64 m9))) (XGx _ X 3 (.string p9))) hT.size (fun x e=>by have e:=Option.some.inj e;omega));refine aB.out _ _ (HC.out _ hT) (fun aU=>?_)
     try simp only [PS]
     refine RD 14 rfl (fun Kq aB=>?_);go_simp;refine aB.out _ _ aU (fun _=>?_)
     try simp only [PS]
     refine DN ?_;obtain ⟨d1,d0,dt⟩:=HC.out _ hT;have bZ:=ykG d1;have cC:=ykG dt;have cF:IntKind.i64.wrap ((j:Int)-1)=(j:Int)-1:=vRg _ (by omega) (by omega);have aL:=hid (aR.trans (hT.mono aR.size))
     cases ok with
     | true =>
      have e1:=aP.out;rw [if_pos aC.out] at e1;go_wp2;go_roundw
      case rel=>exact ⟨j,by omega,rfl,by rw [e1],aL.out⟩
      case measure=>first | (simp [intOf];done) | (simp [intOf];omega)
     | false =>
      have e1:=aP.out;rw [if_neg (by rw [aC.out];simp)] at e1;go_wp2;go_roundw
      case rel=>exact ⟨j,by omega,rfl,by rw [e1],aL.out⟩
      case measure=>first | (simp [intOf];done) | (simp [intOf];omega)
    ·obtain ⟨yb,aA⟩:∃ y,y=wr.drew:=⟨_,rfl⟩
     rw [<-aA];have hT:Below wr.heap.size wr yb:=by rw [aA];exact (Below.refl _ _).drew
     clear aA;go_simp;generalize aN:yb.alloc _=bU;obtain ⟨hb,bC,b1⟩:=bx1 aN;obtain ⟨X,aE⟩:∃ k,k=yb.heap.size:=⟨_,rfl⟩;have hX:wr.heap.size<=X:=by rw [aE];exact hT.size
     rw [<-aE] at b1 ⊢;have rX:=b1.now;replace hT:=hT.trans (hb.mono hT.size);clear hb b1 bC aE aN;refine aB.out _ _ (HC.out _ hT) (fun b8=>?_)
     try simp only [PS]
     refine RD 8 rfl (fun Kq aB=>?_);refine XRf (by rfl) _ _ (by go_simp) (kfv t x.w _ (by omega)) ?_;rintro e y8 ⟨rfl,hb⟩;refine ⟨_,rfl,?_⟩;obtain ⟨k9,l9,m9,p9,ok,e9,aC⟩:=xvR (Jvc t x.w);rw [e9];clear e9;replace rX:=rX.below hb;replace hT:=hT.trans (hb.mono hT.size);clear hb;refine aB.out _ _ (HC.out _ hT) (fun aG=>?_)
     try simp only [PS]
     refine TY 9 (.tuple #[QAw k9 l9 m9 p9,.bool ok]) rfl aG (TY 10 (QAw k9 l9 m9 p9) rfl aG (TY 11 (.bool ok) rfl aG ?_));simp only [PS];refine RD 13 rfl (fun Kq aB=>?_);obtain ⟨l0,l1,l2,l3⟩:=rX.k4;obtain ⟨f0,f1,f2,f3⟩:=rX.z4;have ll:=rX.lt;go_simp;clear l0 l1 l2 l3 f0 f1 f2 f3 ll;replace hT:=hT.trans (jJX (ZpU (ZpU (ZpU (XGx y8 X 0 (.int .i64 k9)) (XGx _ X 1 (.int .i64 l9))) (XGx _ X 2 (.int .i64 m9))) (XGx _ X 3 (.string p9))) hT.size (fun x e=>by have e:=Option.some.inj e;omega));refine aB.out _ _ (HC.out _ hT) (fun aV=>?_)
     try simp only [PS]
     refine RD 14 rfl (fun Kq aB=>?_);go_simp;refine aB.out _ _ aV (fun _=>?_)
     try simp only [PS]
     refine DN ?_;obtain ⟨d1,d0,dt⟩:=HC.out _ hT;have bZ:=ykG d1;have cC:=ykG dt;have cF:IntKind.i64.wrap ((j:Int)-1)=(j:Int)-1:=vRg _ (by omega) (by omega);have aL:=hid (aR.trans (hT.mono aR.size))
     cases ok with
     | true =>
      have e1:=aP.out;rw [if_pos aC.out] at e1;go_wp2;go_roundw
      case rel=>exact ⟨j,by omega,rfl,by rw [e1],aL.out⟩
      case measure=>first | (simp [intOf];done) | (simp [intOf];omega)
     | false =>
      have e1:=aP.out;rw [if_neg (by rw [aC.out];simp)] at e1;go_wp2;go_roundw
      case rel=>exact ⟨j,by omega,rfl,by rw [e1],aL.out⟩
      case measure=>first | (simp [intOf];done) | (simp [intOf];omega)
   ·obtain rfl:i=0:=by omega
    have cQ:¬ ((0:Int)<=((0:Nat):Int)-1):=by omega
    have CF:=hid (fun wx k1 k2=>keK x.fg ⟨qa,qc,aH,aI,qs,aK,qp,aJ,some ⟨G,0,none⟩,0⟩ wx k1 aW (zgU hm) ty gv (HG.out wx k2).1 (HG.out wx k2).2.1 (HG.out wx k2).2.2);unfold Zov at CF;rw [JTs bV.out] at CF;simp only [Wo.fg,List.length_nil] at CF;rw [List.drop_zero];obtain ⟨FF,aQ⟩:∃ F,fgL x.w [] x.ss=F:=⟨_,rfl⟩;rw [aQ] at CF ⊢;go_upto_region 17 with fail;refine wp_region_lit ?_;refine wpList_load_mid rfl 36 _ rfl B 0 rfl [.int .i64 x.w,.slice qa x.ss.length qc,.slice aH x.ws.length aI,.bool x.up,.int .i64 x.W,.int .i64 x.S,.int .i64 x.L,.int .i64 x.T,.int .i64 x.H,.int .i64 x.F,.int .i64 x.R,.int .i64 x.U,.int .i64 x.O,.slice qs x.rs.length aK,.slice qp x.P.length aJ,.slice (some ⟨G,0,none⟩) 0 0] _ r3.range Tryz.underlying36 rfl ZAx ?_;simp only [PS];go_wp2_with fail;refine (CF.out _ D hE).mono ?_;rintro e v9 ⟨rfl,hb⟩;replace hE:=hE.trans (hb.mono hE.size);go_wp2;go_ret;exact ⟨rfl,hE⟩
end Go.Proofs.YtehbpeinnepdcaaGreatDoor
