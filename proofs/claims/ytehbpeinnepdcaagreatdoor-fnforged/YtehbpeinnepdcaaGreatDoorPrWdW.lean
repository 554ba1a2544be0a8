import Derived.Test.YtehbpeinnepdcaaGreatDoorPrWdV
import Derived.Test.YtehbpeinnepdcaaGreatDoorPrWdE
set_option maxHeartbeats 32000000
namespace Go.Proofs.YtehbpeinnepdcaaGreatDoor
open Go.RowKit Go.Proofs.YtehbpeinnepdcaaGreatDoor.nw
set_option maxRecDepth 8000
set_option linter.unusedVariables false
set_option linter.unusedSimpArgs false
theorem ktl {w:World} {B:Nat} {e:TypeId} {k:Nat} {a:Option Addr} {m c:Nat} {cs:List Value} (h:w.ownsRow B e k (.slice a m c) m cs):m<=c:=by
 rcases h.2 with ⟨h1,h2⟩ | ⟨g2,cap,aA,h1,h2,h3,h4⟩
 ·rw [h2];exact Nat.zero_le _
 ·cases h1;exact h4.1
def Z5e (w w':World) (r:Ending):Prop:=∃ (x:Wo) (q:Wp) (N g g':Nat),r=.returned (Zov x q)/\x.good N/\(8<=N/\N<=40)/\(1<=x.w/\x.w<=8)/\WoF x w' (fun b=>w.heap.size<=b) q/\q.a=some ⟨g,0,none⟩/\q.a'=some ⟨g',0,none⟩/\w'.ownsRow w.heap.size 9 1 (.slice q.a x.ss.length q.c) x.ss.length (x.ss.map Value.string)/\w'.ownsRow w.heap.size 74 2 (.slice q.a' x.ws.length q.c') x.ws.length (yaV x.ws)/\g≠g'/\x.rs.length<=q.cs/\x.ts.length<=q.ct
structure RcS (w wx:World) (R:Nat) (a:Option Addr) (n c:Nat) (p:Int):Prop where
 rd:Rdr wx R a n c p
 gr:w.grownBy wx (some R)
 lR:R<w.heap.size
 ga:∀ g o,a=some ⟨g,o,none⟩->0<n->g<w.heap.size
 r2:Row wx w.heap.size [.int .i64 0,.slice none 0 0,.slice none 0 0,.bool false,.int .i64 0,.int .i64 0,.int .i64 0,.int .i64 0,.int .i64 0,.int .i64 0,.int .i64 0,.int .i64 0,.int .i64 0,.slice none 0 0,.slice none 0 0,.slice none 0 0]
section
variable {w wx wy:World} {R:Nat} {a:Option Addr} {n c:Nat} {p p':Int}
theorem RcS.below (h:RcS w wx R a n c p) (hb:Below wx.heap.size wx wy):RcS w wy R a n c p :=
 ⟨h.rd.below hb,ZpU h.gr (Qbp _ hb),h.lR,h.ga,h.r2.below hb⟩
theorem RcS.pick (h:RcS w wx R a n c p) (hr:Rdr wy R a n c p') (hg:wx.grownBy wy (some R)):RcS w wy R a n c p':=by
 have h1:=h.lR;exact ⟨hr,ZpU h.gr hg,h.lR,h.ga,h.r2.grown hg (fun e=>by injection e with e;omega)⟩
theorem FgS.rc {B:Nat} {x:Wo} {q:Wp} (h:FgS w wx R a n c p B x q):RcS w wx R a n c p:=⟨h.rd,h.gr,h.lR,h.ga,h.r2⟩
theorem RcS.fin2 (h:RcS w wx R a n c p) (vs:List Value) (hl:vs.length=16) {y:Wo} {q':Wp} (hy:WoF y wx (fun b=>w.heap.size+1<=b) q') {k1 k2 m1 m2:Nat} {t1 t2:TypeId} {u1 u2:Value} {c1 c2:List Value} (h1:wx.ownsRow (w.heap.size+1) t1 k1 u1 m1 c1) (h2:wx.ownsRow (w.heap.size+1) t2 k2 u2 m2 c2) :
  Row (wx.setCells w.heap.size 0 vs) w.heap.size vs/\Rdr (wx.setCells w.heap.size 0 vs) R a n c p/\w.grownBy (wx.setCells w.heap.size 0 vs) (some R)/\WoF y (wx.setCells w.heap.size 0 vs) (fun b=>w.heap.size<=b) q'/\(wx.setCells w.heap.size 0 vs).ownsRow w.heap.size t1 k1 u1 m1 c1/\(wx.setCells w.heap.size 0 vs).ownsRow w.heap.size t2 k2 u2 m2 c2:=by
 have G:=Qvn wx w.heap.size 0 vs;have hb:Below w.heap.size wx (wx.setCells w.heap.size 0 vs):=jJX G h.gr.size (fun g e=>by cases e;exact Nat.le_refl _);have g0:=h.gr
 exact ⟨h.r2.sets vs hl,h.rd.keep (N:=w.heap.size) h.lR h.ga hb,⟨hb.os.trans g0.os,hb.tape.trans g0.tape,hb.output.trans g0.output,Nat.le_trans g0.size hb.size,fun i hi hr=>(hb.block i hi).trans (g0.block i hi hr)⟩,(hy.grown G (fun g e k=>by cases e;omega)).mono (fun b _ k=>by omega),
  (h1.kept G (.inr (fun e=>by have:=(h1.lt _ e).1;omega))).mono (by omega),(h2.kept G (.inr (fun e=>by have:=(h2.lt _ e).1;omega))).mono (by omega)⟩
end
def RcL (w:World) (R:Nat) (a:Option Addr) (n c:Nat) (p:Int) (B N:Nat) (nv:Value) (wr:World):Prop:=∃ (m:Nat) (pp:Int) (x:Wo) (q:Wp),nv=.int .i64 (m:Int)/\m<=30/\p<=pp/\pp<=p+4+700*(30-m)/\x.good N/\(1<=x.w/\x.w<=8)/\FgS w wr R a n c pp B x q
theorem J55 (R:Nat) (a:Option Addr) (n c:Nat) (p:Int) (w:World) (h:Rdr w R a n c p) (hp:p<99950000):Calls Tryz.prog 24 #[.pointer (some ⟨R,0,none⟩)] w fun r w'=>Z5e w w' r/\Zlg w R a n c p 21010 w':=by
 have p0:=h.p0;go_enter Tryz.func24,Tryz.ntmps24;go_wp2_with fail;generalize aN:w.alloc _=v1;obtain ⟨hb,bJ,b2⟩:=bx1 aN;clear aN;have S0:RcS w v1 R a n c p:=⟨h.below hb,Qbp _ hb,h.lts.1,h.lts.2,b2.now⟩;have b8:w.heap.size+1<=v1.heap.size:=by omega
 clear hb b2 bJ h;refine (ZfV R a n c p 16 _ S0.rd (by omega)).mono ?_;rintro e v2 ⟨⟨t,rfl,t0,t1⟩,hr,hg⟩;have cJ:w.heap.size+1<=v2.heap.size:=Nat.le_trans b8 hg.size;have S1:=S0.pick hr hg;clear S0 hr hg b8
 by_cases e0:t=0
 ·subst e0
  go_wp2_with fail;refine (ZDb R a n c (p+1) _ S1.rd (by omega)).mono ?_;rintro e v3 ⟨⟨x,q,N,rfl,hG,hN,hW,F3⟩,⟨pp,q0,q1,hr⟩,hg⟩;have S2:=S1.pick hr hg;have s3:=hg.size;have HG:=hid hG;have HW:=hid hW;clear hr hg S1 hG hW;have CC:=hid (kag x q v3 F3.at HG.out.ok.le);clear F3;unfold Zov at CC ⊢;go_wp2_with fail;refine CC.out.mono ?_;rintro e v4 ⟨q4,g,g',rfl,FC,aR,aI,aB,aC,aP,hb,aK⟩;have S3:=S2.below hb;have cC:w.heap.size+1<=v3.heap.size:=by omega
  replace FC:=FC.mono (G:=fun b=>w.heap.size+1<=b) (fun b _ k=>by omega);replace aB:=aB.mono cC;replace aC:=aC.mono cC;clear hb S2 CC;unfold Zov
  try simp only [PS]
  refine ‹∀ (a:Act) (w:World),wpList _ _ _ _ a w->_› _ _ ?_
  refine wpList_store_mid rfl 36 _ _ rfl (w.heap.size) 0 (wA x q4) rfl rfl (S3.r2.there rfl) ZAx (by kernel_rfl) ?_
  try simp only [PS]
  obtain ⟨r8,aM,aL,F8,aB,aC⟩:=S3.fin2 (wL x q4) rfl FC aB aC;generalize aH:v4.setCells _ _ _=y8 at r8 aM aL F8 aB aC ⊢;clear aH;go_wp2;obtain ⟨z0,z1,z2,z3,z4,z5,z6,z7,z8,z9,aT,aU,aV,aW,aX,aY,cH⟩:=c16 r8;exact bodyPost_ret (v:=.agg (wA x q4)) (by simp [results,Tryz.results24,go_sem,z0,z1,z2,z3,z4,z5,z6,z7,z8,z9,aT,aU,aV,aW,aX,aY]) rfl ⟨⟨x,q4,N,g,g',rfl,HG.out,hN,HW.out,F8,aR,aI,aB,aC,aP,aK.cs,ktl aK.tt.1⟩,⟨pp,by omega,by omega,aM⟩,aL⟩
 ·go_wp2_with fail
  refine (Z09 R a n c (p+1) _ S1.rd (by omega)).mono ?_;rintro e v3 ⟨⟨m,wd,q,hm,b7,rfl,F3⟩,⟨pp,q0,q1,hr⟩,hg⟩;have S2:=S1.pick hr hg;have s3:=hg.size;clear S1 hr hg;unfold Zov;go_upto_region 4 with fail;generalize aO:v3.alloc _=v4;obtain ⟨hb,bQ,b3⟩:=bx1 aO;clear aO;replace F3:=(F3.mono (G:=fun b=>w.heap.size+1<=b/\b≠v3.heap.size) (fun b hl k=>by omega)).below hb;obtain ⟨B,bY⟩:∃ B,B=v3.heap.size:=⟨_,rfl⟩;rw [<-bY] at b3 F3 ⊢;obtain ⟨N,bZ⟩:∃ N:Nat,N=m.toNat:=⟨_,rfl⟩;have hN:8<=N/\N<=40:=by omega
  obtain ⟨x0,HX⟩:∃ x,Hid (x=yNz m wd):=⟨_,hid rfl⟩;rw [<-HX.out] at b3 F3 ⊢;have S4:=S2.below hb;have T0:FgS w v4 R a n c pp B x0 q:=⟨S4.rd,S4.gr,S4.lR,S4.ga,S4.r2,b3.now,by omega,F3⟩;have bU:Hid (x0.good N):=by show Wo.good _ _;rw [HX.out,bZ];exact xLV (by omega)
  have bW:Hid (1<=x0.w/\x0.w<=8):=by show _/\_;rw [HX.out];exact b7
  clear hb b3 F3 S4 S2 bQ bY s3 cJ bZ HX hm b7 e0 t0 t1;generalize Value.agg _=A0;go_wp2_with fail;refine (ZfV R a n c pp 30 _ T0.rd (by omega)).mono ?_;rintro e v5 ⟨⟨k',rfl,k0,k1⟩,hr,hg⟩;obtain ⟨k,rfl⟩:∃ k:Nat,k'=(k:Int):=⟨k'.toNat,by omega⟩;have T1:=T0.pick hr hg;clear T0 hr hg;go_wp2_with fail;go_loopw [4] (fun nv wr=>RcL w R a n c p B N nv wr) (fun nv _=>(intOf nv).toNat)
  case atStart=>exact ⟨k,pp+1,x0,q,rfl,by omega,by omega,by omega,bU.out,bW.out,T1⟩
  case round =>
   obtain ⟨m,p2,x,q,rfl,hm,cL,cM,hG,hW,T2⟩:=hrel;have HG:=hid hG;have HW:=hid hW;clear T1 bU bW hG hW
   by_cases cK:0<m
   ·have bI:(0:Int)<(m:Int):=by omega
    go_upto_region 7 with fail;refine wp_region_held_drew (S:=fun w'=>True) (by kernel_rfl) (trivial) (fun aD=>?_);refine TY 1 (.pointer (some ⟨R,0,none⟩)) rfl aD (TY 2 (.pointer (some ⟨B,3,none⟩)) rfl aD ?_);simp only [PS];refine wpAnyH_ready (rs:=[0,3]) (by kernel_rfl) (by simp) ?_;refine AllReadyH.cons rfl (fun Kq aA=>?_) (AllReadyH.cons rfl (fun Kq aA=>?_) AllReadyH.nil)
    ·obtain ⟨yb,aF⟩:∃ y,y=wr.drew:=⟨_,rfl⟩
     rw [<-aF];have EB:FgS w yb R a n c p2 B x q:=by rw [aF];exact T2.below (Below.refl _ _).drew
     clear aF;refine Q2q (by rfl) 36 _ (by rfl) B 0 (by rfl) (wL x q) _ EB.r3.range Tryz.underlying36 rfl ZAx ?_;refine aA.out _ _ aD (fun _=>?_)
     try simp only [PS]
     refine RD 3 rfl (fun Kq aA=>?_);have m3:=EB.r3.cell 3 _ rfl;have ml:=EB.r3.lt;go_simp;clear m3 ml;refine aA.out _ _ aD (fun _=>?_)
     try simp only [PS]
     refine RD 4 rfl (fun Kq aA=>?_);refine XRf (by rfl) _ _ (by go_simp) (zVy R a n c p2 x.up _ EB.rd (by omega)) ?_;rintro e y4 ⟨⟨ev,ba,bc,fa,fc,rfl,aQ,hB,hF⟩,⟨p4,cE,cF,hr⟩,hg⟩;refine ⟨_,rfl,?_⟩;have E4:=EB.pick hr hg;have hB:=hB.now;have hF:=hF.now;clear hr hg;unfold vMH;refine aA.out _ _ aD (fun _=>?_)
     try simp only [PS]
     refine RD 5 rfl (fun Kq aA=>?_);obtain ⟨y,HY⟩:∃ y,Hid (y=x.doE ev):=⟨_,hid rfl⟩;have aE:=zlY x q ev ba bc fa fc _ y4 E4.wo HG.out.ok hB hF aQ;rw [<-HY.out] at aE;refine XRf (by rfl) 45 #[.agg (wA x q),.agg #[.int .i64 ev.K,.slice ba ev.b.length bc,.int .i64 ev.cut,.slice fa ev.fs.length fc]] (by go_simp) aE ?_;rintro e y5 ⟨q5,rfl,F5,aJ⟩;refine ⟨_,rfl,?_⟩;have bG:=E4.r3.lt;have bH:=E4.lB;have F6:=F5.mono (G:=fun b=>w.heap.size+1<=b/\b≠B) (fun b _ k=>by rcases k with k | k;exact k;omega);have E5:=E4.below aJ;clear aE F5 aJ;unfold Zov;refine aA.out _ _ aD (fun _=>?_)
     try simp only [PS]
     refine RD 6 rfl (fun Kq aA=>?_);refine jau (by rfl) 36 _ _ (by rfl) B 0 (wA y q5) (by rfl) (by rfl) (E5.r3.there rfl) ZAx (by kernel_rfl) ?_;refine aA.out _ _ aD (fun _=>?_)
     try simp only [PS]
     refine DN ?_;have E6:=E5.put F6;generalize aG:y5.setCells _ _ _=y6 at E6 ⊢;clear aG;go_wp2_with fail;go_roundw
     case rel=>exact ⟨m-1,p4,y,q5,by first | go_num | (congr 1;omega),by omega,by omega,by omega,by rw [HY.out];exact HG.out.doE _,by rw [HY.out,zju];exact HW.out,E6⟩
     case measure=>simp [intOf];omega
    ·obtain ⟨yb,aF⟩:∃ y,y=wr.drew:=⟨_,rfl⟩
     rw [<-aF];have EB:FgS w yb R a n c p2 B x q:=by rw [aF];exact T2.below (Below.refl _ _).drew
     clear aF;have m3:=EB.r3.cell 3 _ rfl;have ml:=EB.r3.lt;go_simp;clear m3 ml;refine aA.out _ _ aD (fun _=>?_)
     try simp only [PS]
     refine wpAnyH_ready (rs:=[0,4]) (by kernel_rfl) (by simp) ?_;refine AllReadyH.cons rfl (fun Kq aA=>?_) (AllReadyH.cons rfl (fun Kq aA=>?_) AllReadyH.nil)
     ·refine Q2q (by rfl) 36 _ (by rfl) B 0 (by rfl) (wL x q) _ EB.r3.range Tryz.underlying36 rfl ZAx ?_
      refine aA.out _ _ aD (fun _=>?_)
      try simp only [PS]
      refine RD 4 rfl (fun Kq aA=>?_);refine XRf (by rfl) _ _ (by go_simp) (zVy R a n c p2 x.up _ EB.rd (by omega)) ?_;rintro e y4 ⟨⟨ev,ba,bc,fa,fc,rfl,aQ,hB,hF⟩,⟨p4,cE,cF,hr⟩,hg⟩;refine ⟨_,rfl,?_⟩;have E4:=EB.pick hr hg;have hB:=hB.now;have hF:=hF.now;clear hr hg;unfold vMH;refine aA.out _ _ aD (fun _=>?_)
      try simp only [PS]
      refine RD 5 rfl (fun Kq aA=>?_);obtain ⟨y,HY⟩:∃ y,Hid (y=x.doE ev):=⟨_,hid rfl⟩;have aE:=zlY x q ev ba bc fa fc _ y4 E4.wo HG.out.ok hB hF aQ;rw [<-HY.out] at aE;refine XRf (by rfl) 45 #[.agg (wA x q),.agg #[.int .i64 ev.K,.slice ba ev.b.length bc,.int .i64 ev.cut,.slice fa ev.fs.length fc]] (by go_simp) aE ?_;rintro e y5 ⟨q5,rfl,F5,aJ⟩;refine ⟨_,rfl,?_⟩;have bG:=E4.r3.lt;have bH:=E4.lB;have F6:=F5.mono (G:=fun b=>w.heap.size+1<=b/\b≠B) (fun b _ k=>by rcases k with k | k;exact k;omega);have E5:=E4.below aJ;clear aE F5 aJ;unfold Zov;refine aA.out _ _ aD (fun _=>?_)
      try simp only [PS]
      refine RD 6 rfl (fun Kq aA=>?_);refine jau (by rfl) 36 _ _ (by rfl) B 0 (wA y q5) (by rfl) (by rfl) (E5.r3.there rfl) ZAx (by kernel_rfl) ?_;refine aA.out _ _ aD (fun _=>?_)
      try simp only [PS]
      refine DN ?_;have E6:=E5.put F6;generalize aG:y5.setCells _ _ _=y6 at E6 ⊢;clear aG;go_wp2_with fail;go_roundw
      case rel=>exact ⟨m-1,p4,y,q5,by first | go_num | (congr 1;omega),by omega,by omega,by omega,by rw [HY.out];exact HG.out.doE _,by rw [HY.out,zju];exact HW.out,E6⟩
      case measure=>simp [intOf];omega
     ·refine XRf (by rfl) _ _ (by go_simp) (zVy R a n c p2 x.up _ EB.rd (by omega)) ?_
      rintro e y4 ⟨⟨ev,ba,bc,fa,fc,rfl,aQ,hB,hF⟩,⟨p4,cE,cF,hr⟩,hg⟩;refine ⟨_,rfl,?_⟩;have E4:=EB.pick hr hg;have hB:=hB.now;have hF:=hF.now;clear hr hg;unfold vMH;refine aA.out _ _ aD (fun _=>?_)
      try simp only [PS]
      refine RD 0 rfl (fun Kq aA=>?_);refine Q2q (by rfl) 36 _ (by rfl) B 0 (by rfl) (wL x q) _ E4.r3.range Tryz.underlying36 rfl ZAx ?_;refine aA.out _ _ aD (fun _=>?_)
      try simp only [PS]
      refine RD 5 rfl (fun Kq aA=>?_);obtain ⟨y,HY⟩:∃ y,Hid (y=x.doE ev):=⟨_,hid rfl⟩;have aE:=zlY x q ev ba bc fa fc _ y4 E4.wo HG.out.ok hB hF aQ;rw [<-HY.out] at aE;refine XRf (by rfl) 45 #[.agg (wA x q),.agg #[.int .i64 ev.K,.slice ba ev.b.length bc,.int .i64 ev.cut,.slice fa ev.fs.length fc]] (by go_simp) aE ?_;rintro e y5 ⟨q5,rfl,F5,aJ⟩;refine ⟨_,rfl,?_⟩;have bG:=E4.r3.lt;have bH:=E4.lB;have F6:=F5.mono (G:=fun b=>w.heap.size+1<=b/\b≠B) (fun b _ k=>by rcases k with k | k;exact k;omega);have E5:=E4.below aJ;clear aE F5 aJ;unfold Zov;refine aA.out _ _ aD (fun _=>?_)
      try simp only [PS]
      refine RD 6 rfl (fun Kq aA=>?_);refine jau (by rfl) 36 _ _ (by rfl) B 0 (wA y q5) (by rfl) (by rfl) (E5.r3.there rfl) ZAx (by kernel_rfl) ?_;refine aA.out _ _ aD (fun _=>?_)
      try simp only [PS]
      refine DN ?_;have E6:=E5.put F6;generalize aG:y5.setCells _ _ _=y6 at E6 ⊢;clear aG;go_wp2_with fail;go_roundw
      case rel=>exact ⟨m-1,p4,y,q5,by first | go_num | (congr 1;omega),by omega,by omega,by omega,by rw [HY.out];exact HG.out.doE _,by rw [HY.out,zju];exact HW.out,E6⟩
      case measure=>simp [intOf];omega
   ·have bI:¬ (0:Int)<(m:Int):=by omega
    go_wp2_with fail;refine (ZfV R a n c p2 4 _ T2.rd (by omega)).mono ?_;rintro e v6 ⟨⟨t,rfl,t0,t1⟩,hr,hg⟩;have T3:=T2.pick hr hg;clear T2 hr hg
    by_cases ht:0<t
    ·go_upto_region 9 with fail
     refine wp_region_lit ?_;refine wpList_load_mid rfl 36 _ rfl (B) 0 rfl (wL x q) _ T3.r3.range Tryz.underlying36 rfl ZAx ?_;simp only [PS];obtain ⟨y,HY⟩:∃ y,Hid (y=x.doE vjw):=⟨_,hid rfl⟩;have aE:=qT7 x q _ v6 T3.wo HG.out.ok;rw [<-HY.out] at aE;have aZ:=hid aE;clear aE;unfold Zov at aZ;go_wp2_with fail;refine aZ.out.mono ?_;rintro e v7 ⟨q5,rfl,F5,hb⟩;have T4:=T3.below hb;have bG:=T3.r3.lt;have bH:=T3.lB;have F6:=F5.mono (G:=fun b=>w.heap.size+1<=b/\b≠B) (fun b _ k=>by rcases k with k | k;exact k;omega);have bV:Hid (y.good N):=by show Wo.good _ _;rw [HY.out];exact HG.out.doE _
     have cI:Hid (1<=y.w/\y.w<=8):=by show _/\_;rw [HY.out,zju];exact HW.out
     clear T3 hb F5 aZ;unfold Zov
     try simp only [PS]
     refine ‹∀ (a:Act) (w:World),wpList _ _ _ _ a w->_› _ _ ?_
     refine wpList_store_mid rfl 36 _ _ rfl (B) 0 (wA y q5) rfl rfl (T4.r3.there rfl) ZAx (by kernel_rfl) ?_
     try simp only [PS]
     have T5:=T4.put F6;generalize bC:v7.setCells _ _ _=v8 at T5 ⊢;clear bC T4 F6;go_upto_region 10 with fail;refine wp_region_lit ?_;refine wpList_load_mid rfl 36 _ rfl (B) 0 rfl (wL y q5) _ T5.r3.range Tryz.underlying36 rfl ZAx ?_;simp only [PS];have CC:=hid (kag y q5 v8 T5.wo.at bV.out.ok.le);unfold Zov at CC;go_wp2_with fail;refine CC.out.mono ?_;rintro e v9 ⟨q9,g,g',rfl,FC,aR,aI,aB,aC,aP,hb,aK⟩;have S9:=T5.rc.below hb;have aS:w.heap.size+1<=v8.heap.size:=by have:=T5.lB;have:=T5.r3.lt;omega
     replace FC:=FC.mono (G:=fun b=>w.heap.size+1<=b) (fun b _ k=>by omega);replace aB:=aB.mono aS;replace aC:=aC.mono aS;clear hb CC T5;unfold Zov
     try simp only [PS]
     refine ‹∀ (a:Act) (w:World),wpList _ _ _ _ a w->_› _ _ ?_
     refine wpList_store_mid rfl 36 _ _ rfl (w.heap.size) 0 (wA y q9) rfl rfl (S9.r2.there rfl) ZAx (by kernel_rfl) ?_
     try simp only [PS]
     obtain ⟨r8,aM,aL,F8,aB,aC⟩:=S9.fin2 (wL y q9) rfl FC aB aC;generalize aH:v9.setCells _ _ _=y8 at r8 aM aL F8 aB aC ⊢;clear aH;go_wp2;obtain ⟨z0,z1,z2,z3,z4,z5,z6,z7,z8,z9,aT,aU,aV,aW,aX,aY,cH⟩:=c16 r8;exact bodyPost_ret (v:=.agg (wA y q9)) (by simp [results,Tryz.results24,go_sem,z0,z1,z2,z3,z4,z5,z6,z7,z8,z9,aT,aU,aV,aW,aX,aY]) rfl ⟨⟨y,q9,N,g,g',rfl,bV.out,hN,cI.out,F8,aR,aI,aB,aC,aP,aK.cs,ktl aK.tt.1⟩,⟨p2+1,by omega,by omega,aM⟩,aL⟩
    ·go_upto_region 10 with fail
     refine wp_region_lit ?_;refine wpList_load_mid rfl 36 _ rfl (B) 0 rfl (wL x q) _ T3.r3.range Tryz.underlying36 rfl ZAx ?_;simp only [PS];have CC:=hid (kag x q v6 T3.wo.at HG.out.ok.le);unfold Zov at CC;go_wp2_with fail;refine CC.out.mono ?_;rintro e v9 ⟨q9,g,g',rfl,FC,aR,aI,aB,aC,aP,hb,aK⟩;have S9:=T3.rc.below hb;have aS:w.heap.size+1<=v6.heap.size:=by have:=T3.lB;have:=T3.r3.lt;omega
     replace FC:=FC.mono (G:=fun b=>w.heap.size+1<=b) (fun b _ k=>by omega);replace aB:=aB.mono aS;replace aC:=aC.mono aS;clear hb CC T3;unfold Zov
     try simp only [PS]
     refine ‹∀ (a:Act) (w:World),wpList _ _ _ _ a w->_› _ _ ?_
     refine wpList_store_mid rfl 36 _ _ rfl (w.heap.size) 0 (wA x q9) rfl rfl (S9.r2.there rfl) ZAx (by kernel_rfl) ?_
     try simp only [PS]
     obtain ⟨r8,aM,aL,F8,aB,aC⟩:=S9.fin2 (wL x q9) rfl FC aB aC;generalize aH:v9.setCells _ _ _=y8 at r8 aM aL F8 aB aC ⊢;clear aH;go_wp2;obtain ⟨z0,z1,z2,z3,z4,z5,z6,z7,z8,z9,aT,aU,aV,aW,aX,aY,cH⟩:=c16 r8;exact bodyPost_ret (v:=.agg (wA x q9)) (by simp [results,Tryz.results24,go_sem,z0,z1,z2,z3,z4,z5,z6,z7,z8,z9,aT,aU,aV,aW,aX,aY]) rfl ⟨⟨x,q9,N,g,g',rfl,HG.out,hN,HW.out,F8,aR,aI,aB,aC,aP,aK.cs,ktl aK.tt.1⟩,⟨p2+1,by omega,by omega,aM⟩,aL⟩
end Go.Proofs.YtehbpeinnepdcaaGreatDoor
