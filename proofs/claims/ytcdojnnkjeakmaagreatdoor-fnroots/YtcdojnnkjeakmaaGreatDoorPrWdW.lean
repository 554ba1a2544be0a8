import Derived.Test.YtcdojnnkjeakmaaGreatDoorPrWdV
import Derived.Test.YtcdojnnkjeakmaaGreatDoorPrWdC
import Derived.Test.YtcdojnnkjeakmaaGreatDoorPrWdE
set_option maxHeartbeats 32000000
namespace Go.Proofs.YtcdojnnkjeakmaaGreatDoor
open Go.RowKit Go.Proofs.YtcdojnnkjeakmaaGreatDoor.nw
set_option maxRecDepth 8000
set_option linter.unusedVariables false
set_option linter.unusedSimpArgs false
def vIT (w w':World) (r:Ending):Prop:=∃ (x:Wo) (q:Wp) (N g g':Nat),r=.returned (Zov x q)/\x.good N/\(8<=N/\N<=40)/\(1<=x.w/\x.w<=8)/\WoF x w' (fun b=>w.heap.size<=b) q/\q.a=some ⟨g,0,none⟩/\q.a'=some ⟨g',0,none⟩/\w'.ownsRow w.heap.size 9 1 (.slice q.a x.ss.length q.c) x.ss.length (x.ss.map Value.string)/\w'.ownsRow w.heap.size 97 2 (.slice q.a' x.ws.length q.c') x.ws.length (yaV x.ws)/\g≠g'
structure RcS (w wx:World) (R:Nat) (a:Option Addr) (n c:Nat) (p:Int):Prop where
 rd:Rdr wx R a n c p
 gr:w.grownBy wx (some R)
 lR:R<w.heap.size
 ga:∀ g o,a=some ⟨g,o,none⟩->0<n->g<w.heap.size
 r2:Row wx w.heap.size [.int .i64 0,.slice none 0 0,.slice none 0 0,.bool false,.int .i64 0,.int .i64 0,.int .i64 0,.int .i64 0,.int .i64 0,.int .i64 0,.int .i64 0,.int .i64 0,.int .i64 0,.slice none 0 0,.slice none 0 0,.slice none 0 0]
section
variable {w wx wy:World} {R:Nat} {a:Option Addr} {n c:Nat} {p p':Int}
theorem RcS.below (h:RcS w wx R a n c p) (hb:Below wx.heap.size wx wy):RcS w wy R a n c p :=
 ⟨h.rd.below hb,ZpU h.gr (Qbp _ hb),h.lR,h.ga,h.r2.below hb⟩
theorem RcS.pick (h:RcS w wx R a n c p) (hr:Rdr wy R a n c p') (hg:wx.grownBy wy (some R)):RcS w wy R a n c p':=by
 have h1:=h.lR;exact ⟨hr,ZpU h.gr hg,h.lR,h.ga,h.r2.grown hg (fun e=>by injection e with e;omega)⟩
theorem FgS.rc {B:Nat} {x:Wo} {q:Wp} (h:FgS w wx R a n c p B x q):RcS w wx R a n c p:=⟨h.rd,h.gr,h.lR,h.ga,h.r2⟩
theorem RcS.fin2 (h:RcS w wx R a n c p) (vs:List Value) (hl:vs.length=16) {y:Wo} {q':Wp} (hy:WoF y wx (fun b=>w.heap.size+1<=b) q') {k1 k2 m1 m2:Nat} {t1 t2:TypeId} {u1 u2:Value} {c1 c2:List Value} (h1:wx.ownsRow (w.heap.size+1) t1 k1 u1 m1 c1) (h2:wx.ownsRow (w.heap.size+1) t2 k2 u2 m2 c2) :
  Row (wx.setCells w.heap.size 0 vs) w.heap.size vs/\Rdr (wx.setCells w.heap.size 0 vs) R a n c p/\w.grownBy (wx.setCells w.heap.size 0 vs) (some R)/\WoF y (wx.setCells w.heap.size 0 vs) (fun b=>w.heap.size<=b) q'/\(wx.setCells w.heap.size 0 vs).ownsRow w.heap.size t1 k1 u1 m1 c1/\(wx.setCells w.heap.size 0 vs).ownsRow w.heap.size t2 k2 u2 m2 c2:=by
 have G:=Qvn wx w.heap.size 0 vs;have hb:Below w.heap.size wx (wx.setCells w.heap.size 0 vs):=jJX G h.gr.size (fun g e=>by cases e;exact Nat.le_refl _);have g0:=h.gr
 exact ⟨h.r2.sets vs hl,h.rd.keep (N:=w.heap.size) h.lR h.ga hb,⟨hb.os.trans g0.os,hb.tape.trans g0.tape,hb.output.trans g0.output,Nat.le_trans g0.size hb.size,fun i hi hr=>(hb.block i hi).trans (g0.block i hi hr)⟩,(hy.grown G (fun g e k=>by cases e;omega)).mono (fun b _ k=>by omega),
  (h1.kept G (.inr (fun e=>by have:=(h1.lt _ e).1;omega))).mono (by omega),(h2.kept G (.inr (fun e=>by have:=(h2.lt _ e).1;omega))).mono (by omega)⟩
end
def RcL (w:World) (R:Nat) (a:Option Addr) (n c:Nat) (p:Int) (B N:Nat) (nv:Value) (wr:World):Prop:=∃ (m:Nat) (pp:Int) (x:Wo) (q:Wp),nv=.int .i64 (m:Int)/\m<=30/\p<=pp/\pp<=p+4+700*(30-m)/\x.good N/\(1<=x.w/\x.w<=8)/\FgS w wr R a n c pp B x q
theorem XXp (R:Nat) (a:Option Addr) (n c:Nat) (p:Int) (w:World) (h:Rdr w R a n c p) (hp:p<99950000):Calls Tryz.prog 22 #[.pointer (some ⟨R,0,none⟩)] w fun r w'=>vIT w w' r/\Zlg w R a n c p 21010 w':=by
 have p0:=h.p0;go_enter Tryz.func22,Tryz.ntmps22;go_wp2_with fail;generalize aS:w.alloc _=v1;obtain ⟨hb,aZ,b2⟩:=bx1 aS;clear aS;have S0:RcS w v1 R a n c p:=⟨h.below hb,Qbp _ hb,h.lts.1,h.lts.2,b2.now⟩;have bY:w.heap.size+1<=v1.heap.size:=by omega
 clear hb b2 aZ h;refine (ZfV R a n c p 16 _ S0.rd (by omega)).mono ?_;rintro e v2 ⟨⟨t,rfl,t0,t1⟩,hr,hg⟩;have cH:w.heap.size+1<=v2.heap.size:=Nat.le_trans bY hg.size;have S1:=S0.pick hr hg;clear S0 hr hg bY
 by_cases e0:t=0
 ·subst e0
  go_wp2_with fail;refine (ZDb R a n c (p+1) _ S1.rd (by omega)).mono ?_;rintro e v3 ⟨⟨x,q,N,rfl,hG,hN,hW,F3⟩,⟨pp,q0,q1,hr⟩,hg⟩;have S2:=S1.pick hr hg;have s3:=hg.size;have HG:=hid hG;have HW:=hid hW;clear hr hg S1 hG hW;have CC:=hid (kAL x q v3 F3.at HG.out.ok.le);clear F3;unfold Zov at CC ⊢;go_wp2_with fail;refine CC.out.mono ?_;rintro e v4 ⟨q4,g,g',rfl,FC,aU,aI,aB,aC,aW,hb⟩;have S3:=S2.below hb;have cE:w.heap.size+1<=v3.heap.size:=by omega
  replace FC:=FC.mono (G:=fun b=>w.heap.size+1<=b) (fun b _ k=>by omega);replace aB:=aB.mono cE;replace aC:=aC.mono cE;clear hb S2 CC;unfold Zov
  try simp only [PS]
  refine ‹∀ (a:Act) (w:World),wpList _ _ _ _ a w->_› _ _ ?_
  refine wpList_store_mid rfl 62 _ _ rfl (w.heap.size) 0 (wA x q4) rfl rfl (S3.r2.there rfl) ZAx (by kernel_rfl) ?_
  try simp only [PS]
  obtain ⟨r8,aJ,aL,F8,aB,aC⟩:=S3.fin2 (wL x q4) rfl FC aB aC;generalize aG:v4.setCells _ _ _=y8 at r8 aJ aL F8 aB aC ⊢;clear aG;go_wp2;obtain ⟨z0,z1,z2,z3,z4,z5,z6,z7,z8,z9,aM,aR,aQ,aT,aO,aN,cC⟩:=c16 r8;exact bodyPost_ret (v:=.agg (wA x q4)) (by simp [results,Tryz.results22,go_sem,z0,z1,z2,z3,z4,z5,z6,z7,z8,z9,aM,aR,aQ,aT,aO,aN]) rfl ⟨⟨x,q4,N,g,g',rfl,HG.out,hN,HW.out,F8,aU,aI,aB,aC,aW⟩,⟨pp,by omega,by omega,aJ⟩,aL⟩
 ·go_wp2_with fail
  refine (Z09 R a n c (p+1) _ S1.rd (by omega)).mono ?_;rintro e v3 ⟨⟨m,wd,q,hm,bV,rfl,F3⟩,⟨pp,q0,q1,hr⟩,hg⟩;have S2:=S1.pick hr hg;have s3:=hg.size;clear S1 hr hg;unfold Zov;go_upto_region 4 with fail;generalize aV:v3.alloc _=v4;obtain ⟨hb,bG,b3⟩:=bx1 aV;clear aV;replace F3:=(F3.mono (G:=fun b=>w.heap.size+1<=b/\b≠v3.heap.size) (fun b hl k=>by omega)).below hb;obtain ⟨B,b7⟩:∃ B,B=v3.heap.size:=⟨_,rfl⟩;rw [<-b7] at b3 F3 ⊢;obtain ⟨N,bQ⟩:∃ N:Nat,N=m.toNat:=⟨_,rfl⟩;have hN:8<=N/\N<=40:=by omega
  obtain ⟨x0,HX⟩:∃ x,Hid (x=yNz m wd):=⟨_,hid rfl⟩;rw [<-HX.out] at b3 F3 ⊢;have S4:=S2.below hb;have T0:FgS w v4 R a n c pp B x0 q:=⟨S4.rd,S4.gr,S4.lR,S4.ga,S4.r2,b3.now,by omega,F3⟩;have b8:Hid (x0.good N):=by show Wo.good _ _;rw [HX.out,bQ];exact xLV (by omega)
  have bU:Hid (1<=x0.w/\x0.w<=8):=by show _/\_;rw [HX.out];exact bV
  clear hb b3 F3 S4 S2 bG b7 s3 cH bQ HX hm bV e0 t0 t1;generalize Value.agg _=A0;go_wp2_with fail;refine (ZfV R a n c pp 30 _ T0.rd (by omega)).mono ?_;rintro e v5 ⟨⟨k',rfl,k0,k1⟩,hr,hg⟩;obtain ⟨k,rfl⟩:∃ k:Nat,k'=(k:Int):=⟨k'.toNat,by omega⟩;have T1:=T0.pick hr hg;clear T0 hr hg;go_wp2_with fail;go_loopw [4] (fun nv wr=>RcL w R a n c p B N nv wr) (fun nv _=>(intOf nv).toNat)
  case atStart=>exact ⟨k,pp+1,x0,q,rfl,by omega,by omega,by omega,b8.out,bU.out,T1⟩
  case round =>
   obtain ⟨m,p2,x,q,rfl,hm,cL,cK,hG,hW,T2⟩:=hrel;have HG:=hid hG;have HW:=hid hW;clear T1 b8 bU hG hW
   by_cases cJ:0<m
   ·have bJ:(0:Int)<(m:Int):=by omega
    go_upto_region 7 with fail;refine wp_region_held_drew (S:=fun w'=>True) (by kernel_rfl) (trivial) (fun aD=>?_);refine TY 1 (.pointer (some ⟨R,0,none⟩)) rfl aD (TY 2 (.pointer (some ⟨B,3,none⟩)) rfl aD ?_);simp only [PS];refine wpAnyH_ready (rs:=[0,3]) (by kernel_rfl) (by simp) ?_;refine AllReadyH.cons rfl (fun Kq aA=>?_) (AllReadyH.cons rfl (fun Kq aA=>?_) AllReadyH.nil)
    ·obtain ⟨yb,aE⟩:∃ y,y=wr.drew:=⟨_,rfl⟩
     rw [<-aE];have EB:FgS w yb R a n c p2 B x q:=by rw [aE];exact T2.below (Below.refl _ _).drew
     clear aE;refine Q2q (by rfl) 62 _ (by rfl) B 0 (by rfl) (wL x q) _ EB.r3.range Tryz.underlying62 rfl ZAx ?_;refine aA.out _ _ aD (fun _=>?_)
     try simp only [PS]
     refine RD 3 rfl (fun Kq aA=>?_);have m3:=EB.r3.cell 3 _ rfl;have ml:=EB.r3.lt;go_simp;clear m3 ml;refine aA.out _ _ aD (fun _=>?_)
     try simp only [PS]
     refine RD 4 rfl (fun Kq aA=>?_);refine XRf (by rfl) _ _ (by go_simp) (zVy R a n c p2 x.up _ EB.rd (by omega)) ?_;rintro e y4 ⟨⟨ev,ba,bc,fa,fc,rfl,aX,hB,hF⟩,⟨p4,bZ,cF,hr⟩,hg⟩;refine ⟨_,rfl,?_⟩;have E4:=EB.pick hr hg;have hB:=hB.now;have hF:=hF.now;clear hr hg;unfold vMH;refine aA.out _ _ aD (fun _=>?_)
     try simp only [PS]
     refine RD 5 rfl (fun Kq aA=>?_);obtain ⟨y,HY⟩:∃ y,Hid (y=x.doE ev):=⟨_,hid rfl⟩;have aF:=zlY x q ev ba bc fa fc _ y4 E4.wo HG.out.ok hB hF aX;rw [<-HY.out] at aF;refine XRf (by rfl) 44 #[.agg (wA x q),.agg #[.int .i64 ev.K,.slice ba ev.b.length bc,.int .i64 ev.cut,.slice fa ev.fs.length fc]] (by go_simp) aF ?_;rintro e y5 ⟨q5,rfl,F5,aK⟩;refine ⟨_,rfl,?_⟩;have bH:=E4.r3.lt;have bC:=E4.lB;have F6:=F5.mono (G:=fun b=>w.heap.size+1<=b/\b≠B) (fun b _ k=>by rcases k with k | k;exact k;omega);have E5:=E4.below aK;clear aF F5 aK;unfold Zov;refine aA.out _ _ aD (fun _=>?_)
     try simp only [PS]
     refine RD 6 rfl (fun Kq aA=>?_);refine jau (by rfl) 62 _ _ (by rfl) B 0 (wA y q5) (by rfl) (by rfl) (E5.r3.there rfl) ZAx (by kernel_rfl) ?_;refine aA.out _ _ aD (fun _=>?_)
     try simp only [PS]
     refine DN ?_;have E6:=E5.put F6;generalize aH:y5.setCells _ _ _=y6 at E6 ⊢;clear aH;go_wp2_with fail;go_roundw
     case rel=>exact ⟨m-1,p4,y,q5,by first | go_num | (congr 1;omega),by omega,by omega,by omega,by rw [HY.out];exact HG.out.doE _,by rw [HY.out,zju];exact HW.out,E6⟩
     case measure=>simp [intOf];omega
    ·obtain ⟨yb,aE⟩:∃ y,y=wr.drew:=⟨_,rfl⟩
     rw [<-aE];have EB:FgS w yb R a n c p2 B x q:=by rw [aE];exact T2.below (Below.refl _ _).drew
     clear aE;have m3:=EB.r3.cell 3 _ rfl;have ml:=EB.r3.lt;go_simp;clear m3 ml;refine aA.out _ _ aD (fun _=>?_)
     try simp only [PS]
     refine wpAnyH_ready (rs:=[0,4]) (by kernel_rfl) (by simp) ?_;refine AllReadyH.cons rfl (fun Kq aA=>?_) (AllReadyH.cons rfl (fun Kq aA=>?_) AllReadyH.nil)
     ·refine Q2q (by rfl) 62 _ (by rfl) B 0 (by rfl) (wL x q) _ EB.r3.range Tryz.underlying62 rfl ZAx ?_
      refine aA.out _ _ aD (fun _=>?_)
      try simp only [PS]
      refine RD 4 rfl (fun Kq aA=>?_);refine XRf (by rfl) _ _ (by go_simp) (zVy R a n c p2 x.up _ EB.rd (by omega)) ?_;rintro e y4 ⟨⟨ev,ba,bc,fa,fc,rfl,aX,hB,hF⟩,⟨p4,bZ,cF,hr⟩,hg⟩;refine ⟨_,rfl,?_⟩;have E4:=EB.pick hr hg;have hB:=hB.now;have hF:=hF.now;clear hr hg;unfold vMH;refine aA.out _ _ aD (fun _=>?_)
      try simp only [PS]
      refine RD 5 rfl (fun Kq aA=>?_);obtain ⟨y,HY⟩:∃ y,Hid (y=x.doE ev):=⟨_,hid rfl⟩;have aF:=zlY x q ev ba bc fa fc _ y4 E4.wo HG.out.ok hB hF aX;rw [<-HY.out] at aF;refine XRf (by rfl) 44 #[.agg (wA x q),.agg #[.int .i64 ev.K,.slice ba ev.b.length bc,.int .i64 ev.cut,.slice fa ev.fs.length fc]] (by go_simp) aF ?_;rintro e y5 ⟨q5,rfl,F5,aK⟩;refine ⟨_,rfl,?_⟩;have bH:=E4.r3.lt;have bC:=E4.lB;have F6:=F5.mono (G:=fun b=>w.heap.size+1<=b/\b≠B) (fun b _ k=>by rcases k with k | k;exact k;omega);have E5:=E4.below aK;clear aF F5 aK;unfold Zov;refine aA.out _ _ aD (fun _=>?_)
      try simp only [PS]
      refine RD 6 rfl (fun Kq aA=>?_);refine jau (by rfl) 62 _ _ (by rfl) B 0 (wA y q5) (by rfl) (by rfl) (E5.r3.there rfl) ZAx (by kernel_rfl) ?_;refine aA.out _ _ aD (fun _=>?_)
      try simp only [PS]
      refine DN ?_;have E6:=E5.put F6;generalize aH:y5.setCells _ _ _=y6 at E6 ⊢;clear aH;go_wp2_with fail;go_roundw
      case rel=>exact ⟨m-1,p4,y,q5,by first | go_num | (congr 1;omega),by omega,by omega,by omega,by rw [HY.out];exact HG.out.doE _,by rw [HY.out,zju];exact HW.out,E6⟩
      case measure=>simp [intOf];omega
     ·refine XRf (by rfl) _ _ (by go_simp) (zVy R a n c p2 x.up _ EB.rd (by omega)) ?_
      rintro e y4 ⟨⟨ev,ba,bc,fa,fc,rfl,aX,hB,hF⟩,⟨p4,bZ,cF,hr⟩,hg⟩;refine ⟨_,rfl,?_⟩;have E4:=EB.pick hr hg;have hB:=hB.now;have hF:=hF.now;clear hr hg;unfold vMH;refine aA.out _ _ aD (fun _=>?_)
      try simp only [PS]
      refine RD 0 rfl (fun Kq aA=>?_);refine Q2q (by rfl) 62 _ (by rfl) B 0 (by rfl) (wL x q) _ E4.r3.range Tryz.underlying62 rfl ZAx ?_;refine aA.out _ _ aD (fun _=>?_)
      try simp only [PS]
      refine RD 5 rfl (fun Kq aA=>?_);obtain ⟨y,HY⟩:∃ y,Hid (y=x.doE ev):=⟨_,hid rfl⟩;have aF:=zlY x q ev ba bc fa fc _ y4 E4.wo HG.out.ok hB hF aX;rw [<-HY.out] at aF;refine XRf (by rfl) 44 #[.agg (wA x q),.agg #[.int .i64 ev.K,.slice ba ev.b.length bc,.int .i64 ev.cut,.slice fa ev.fs.length fc]] (by go_simp) aF ?_;rintro e y5 ⟨q5,rfl,F5,aK⟩;refine ⟨_,rfl,?_⟩;have bH:=E4.r3.lt;have bC:=E4.lB;have F6:=F5.mono (G:=fun b=>w.heap.size+1<=b/\b≠B) (fun b _ k=>by rcases k with k | k;exact k;omega);have E5:=E4.below aK;clear aF F5 aK;unfold Zov;refine aA.out _ _ aD (fun _=>?_)
      try simp only [PS]
      refine RD 6 rfl (fun Kq aA=>?_);refine jau (by rfl) 62 _ _ (by rfl) B 0 (wA y q5) (by rfl) (by rfl) (E5.r3.there rfl) ZAx (by kernel_rfl) ?_;refine aA.out _ _ aD (fun _=>?_)
      try simp only [PS]
      refine DN ?_;have E6:=E5.put F6;generalize aH:y5.setCells _ _ _=y6 at E6 ⊢;clear aH;go_wp2_with fail;go_roundw
      case rel=>exact ⟨m-1,p4,y,q5,by first | go_num | (congr 1;omega),by omega,by omega,by omega,by rw [HY.out];exact HG.out.doE _,by rw [HY.out,zju];exact HW.out,E6⟩
      case measure=>simp [intOf];omega
   ·have bJ:¬ (0:Int)<(m:Int):=by omega
    go_wp2_with fail;refine (ZfV R a n c p2 4 _ T2.rd (by omega)).mono ?_;rintro e v6 ⟨⟨t,rfl,t0,t1⟩,hr,hg⟩;have T3:=T2.pick hr hg;clear T2 hr hg
    by_cases ht:0<t
    ·go_upto_region 9 with fail
     refine wp_region_lit ?_;refine wpList_load_mid rfl 62 _ rfl (B) 0 rfl (wL x q) _ T3.r3.range Tryz.underlying62 rfl ZAx ?_;simp only [PS];obtain ⟨y,HY⟩:∃ y,Hid (y=x.doE vjw):=⟨_,hid rfl⟩;have aF:=qT7 x q _ v6 T3.wo HG.out.ok;rw [<-HY.out] at aF;have aY:=hid aF;clear aF;unfold Zov at aY;go_wp2_with fail;refine aY.out.mono ?_;rintro e v7 ⟨q5,rfl,F5,hb⟩;have T4:=T3.below hb;have bH:=T3.r3.lt;have bC:=T3.lB;have F6:=F5.mono (G:=fun b=>w.heap.size+1<=b/\b≠B) (fun b _ k=>by rcases k with k | k;exact k;omega);have bW:Hid (y.good N):=by show Wo.good _ _;rw [HY.out];exact HG.out.doE _
     have cI:Hid (1<=y.w/\y.w<=8):=by show _/\_;rw [HY.out,zju];exact HW.out
     clear T3 hb F5 aY;unfold Zov
     try simp only [PS]
     refine ‹∀ (a:Act) (w:World),wpList _ _ _ _ a w->_› _ _ ?_
     refine wpList_store_mid rfl 62 _ _ rfl (B) 0 (wA y q5) rfl rfl (T4.r3.there rfl) ZAx (by kernel_rfl) ?_
     try simp only [PS]
     have T5:=T4.put F6;generalize bI:v7.setCells _ _ _=v8 at T5 ⊢;clear bI T4 F6;go_upto_region 10 with fail;refine wp_region_lit ?_;refine wpList_load_mid rfl 62 _ rfl (B) 0 rfl (wL y q5) _ T5.r3.range Tryz.underlying62 rfl ZAx ?_;simp only [PS];have CC:=hid (kAL y q5 v8 T5.wo.at bW.out.ok.le);unfold Zov at CC;go_wp2_with fail;refine CC.out.mono ?_;rintro e v9 ⟨q9,g,g',rfl,FC,aU,aI,aB,aC,aW,hb⟩;have S9:=T5.rc.below hb;have aP:w.heap.size+1<=v8.heap.size:=by have:=T5.lB;have:=T5.r3.lt;omega
     replace FC:=FC.mono (G:=fun b=>w.heap.size+1<=b) (fun b _ k=>by omega);replace aB:=aB.mono aP;replace aC:=aC.mono aP;clear hb CC T5;unfold Zov
     try simp only [PS]
     refine ‹∀ (a:Act) (w:World),wpList _ _ _ _ a w->_› _ _ ?_
     refine wpList_store_mid rfl 62 _ _ rfl (w.heap.size) 0 (wA y q9) rfl rfl (S9.r2.there rfl) ZAx (by kernel_rfl) ?_
     try simp only [PS]
     obtain ⟨r8,aJ,aL,F8,aB,aC⟩:=S9.fin2 (wL y q9) rfl FC aB aC;generalize aG:v9.setCells _ _ _=y8 at r8 aJ aL F8 aB aC ⊢;clear aG;go_wp2;obtain ⟨z0,z1,z2,z3,z4,z5,z6,z7,z8,z9,aM,aR,aQ,aT,aO,aN,cC⟩:=c16 r8;exact bodyPost_ret (v:=.agg (wA y q9)) (by simp [results,Tryz.results22,go_sem,z0,z1,z2,z3,z4,z5,z6,z7,z8,z9,aM,aR,aQ,aT,aO,aN]) rfl ⟨⟨y,q9,N,g,g',rfl,bW.out,hN,cI.out,F8,aU,aI,aB,aC,aW⟩,⟨p2+1,by omega,by omega,aJ⟩,aL⟩
    ·go_upto_region 10 with fail
     refine wp_region_lit ?_;refine wpList_load_mid rfl 62 _ rfl (B) 0 rfl (wL x q) _ T3.r3.range Tryz.underlying62 rfl ZAx ?_;simp only [PS];have CC:=hid (kAL x q v6 T3.wo.at HG.out.ok.le);unfold Zov at CC;go_wp2_with fail;refine CC.out.mono ?_;rintro e v9 ⟨q9,g,g',rfl,FC,aU,aI,aB,aC,aW,hb⟩;have S9:=T3.rc.below hb;have aP:w.heap.size+1<=v6.heap.size:=by have:=T3.lB;have:=T3.r3.lt;omega
     replace FC:=FC.mono (G:=fun b=>w.heap.size+1<=b) (fun b _ k=>by omega);replace aB:=aB.mono aP;replace aC:=aC.mono aP;clear hb CC T3;unfold Zov
     try simp only [PS]
     refine ‹∀ (a:Act) (w:World),wpList _ _ _ _ a w->_› _ _ ?_
     refine wpList_store_mid rfl 62 _ _ rfl (w.heap.size) 0 (wA x q9) rfl rfl (S9.r2.there rfl) ZAx (by kernel_rfl) ?_
     try simp only [PS]
     obtain ⟨r8,aJ,aL,F8,aB,aC⟩:=S9.fin2 (wL x q9) rfl FC aB aC;generalize aG:v9.setCells _ _ _=y8 at r8 aJ aL F8 aB aC ⊢;clear aG;go_wp2;obtain ⟨z0,z1,z2,z3,z4,z5,z6,z7,z8,z9,aM,aR,aQ,aT,aO,aN,cC⟩:=c16 r8;exact bodyPost_ret (v:=.agg (wA x q9)) (by simp [results,Tryz.results22,go_sem,z0,z1,z2,z3,z4,z5,z6,z7,z8,z9,aM,aR,aQ,aT,aO,aN]) rfl ⟨⟨x,q9,N,g,g',rfl,HG.out,hN,HW.out,F8,aU,aI,aB,aC,aW⟩,⟨p2+1,by omega,by omega,aJ⟩,aL⟩
end Go.Proofs.YtcdojnnkjeakmaaGreatDoor
