import Derived.Test.YtcdojnnkjeakmaaGreatDoorPrG36
set_option maxHeartbeats 32000000
namespace Go.Proofs.YtcdojnnkjeakmaaGreatDoor
open Go.RowKit
set_option maxRecDepth 8000
set_option linter.unusedVariables false
set_option linter.unusedSimpArgs false
theorem QHQ (a:Option Addr) (n c:Nat) (w:World) (h:Bys w a n) (hc:n<=c) (hn:n<=1048576) (ty:TypeId) (gv:Value) (g1:w.cell? ⟨1,0,none⟩=some (.iface ty gv)) (g0:w.cell? ⟨0,0,none⟩=some (.iface 183 (.agg #[.pointer (some ⟨2,142,none⟩)]))) (gl:1<w.heap.size) :
  Calls Tryz.prog 3 #[.slice a n c] w fun e w'=>e=.returned (.bool true)/\Below w.heap.size w w':=by
 have gU:¬ (1048576<(n:Int)):=by omega
 have HG:Hid (∀ wx,Below w.heap.size w wx->wx.cell? ⟨1,0,none⟩=some (.iface ty gv)/\wx.cell? ⟨0,0,none⟩=some (.iface 183 (.agg #[.pointer (some ⟨2,142,none⟩)]))/\1<wx.heap.size):=fun wx hb=>⟨(hb.cell (p:=⟨1,0,none⟩) gl).trans g1,(hb.cell (p:=⟨0,0,none⟩) (by show 0<_;omega)).trans g0,by have:=hb.size;omega⟩
 have eL:=hid h;clear g0 g1 gl h;go_enter Tryz.func3,Tryz.ntmps3;go_wp2_with fail;refine (Xt6 a n c _ eL.out (by omega) hc).mono ?_;rintro e v1 ⟨⟨v,wd,rfl,⟨t,h,f,l,rfl,hz⟩,gL,fI⟩,hE⟩;go_upto_region 4 with fail;generalize dN:v1.alloc _=v2;obtain ⟨hb,eK,dE⟩:=bx1 dN;clear dN;obtain ⟨B3,aB⟩:∃ k,k=v1.heap.size:=⟨_,rfl⟩;rw [<-aB] at dE ⊢;have r3:=dE.now;clear aB dE eK;replace hE:=hE.trans (hb.mono hE.size);clear hb;generalize Value.tuple _=T0;obtain ⟨aJ,aP,aT,aQ⟩:=r3.k4;have aK:=r3.lt;go_wp2_with fail;clear aJ aP aT aQ aK;refine (xIt t h f l wd _).mono ?_;rintro e v3 ⟨rfl,hb⟩;replace r3:=r3.below hb;replace hE:=hE.trans (hb.mono hE.size);clear hb;obtain ⟨aJ,aP,aT,aQ⟩:=r3.k4;have aK:=r3.lt;go_wp2_with fail;clear aJ aP aT aQ aK;refine (qAa t h f l wd _).mono ?_;rintro e v4 ⟨rfl,hb⟩;replace r3:=r3.below hb;replace hE:=hE.trans (hb.mono hE.size);clear hb;obtain ⟨s,bU⟩:∃ s,QCt t h f l wd=s:=⟨_,rfl⟩;have HS:=hid bU;rw [bU];clear bU;obtain ⟨aJ,aP,aT,aQ⟩:=r3.k4
 have aK:=r3.lt;go_wp2_with fail;clear aJ aP aT aQ aK;refine (x1S a n c _ (eL.out.below hE) hn hc).mono ?_;rintro e v5 ⟨⟨a1,n1,c1,eJ,m1,dK,ss,ws,z,rfl,d1,d2,d3,d4,d5⟩,hb⟩;replace r3:=r3.below hb;replace hE:=hE.trans (hb.mono hE.size);clear hb;have HD:=hid (And.intro d3 (And.intro d4 d5));clear d3 d4 d5 eL;go_upto_region 8 with fail;generalize dO:v5.alloc _=v6;obtain ⟨hb,eB,cW⟩:=bx1 dO;clear dO;obtain ⟨B6,aB⟩:∃ k,k=v5.heap.size:=⟨_,rfl⟩;rw [<-aB] at cW ⊢;have r6:=cW.now;clear aB cW eB;replace r3:=r3.below hb;replace d1:=d1.below hb;replace d2:=d2.below hb;replace hE:=hE.trans (hb.mono hE.size);clear hb;generalize Value.tuple _=T1;obtain ⟨y1,y2,y3,y4,hy⟩:∃ y1 y2 y3 y4,frD ss ws z=(y1,y2,y3,y4):=⟨_,_,_,_,rfl⟩;have HY:=hid hy;clear hy;have eR:=r6.below (Below.refl v6.heap.size v6).drew;refine wp_region_held_drew (S:=fun w'=>w'.cell? ⟨B6,0,none⟩=some (.slice a1 n1 c1)/\w'.cell? ⟨B6,1,none⟩=some (.slice eJ m1 dK)) (by kernel_rfl) (⟨eR.cell 0 _ rfl,eR.cell 1 _ rfl⟩) (fun aF=>?_)
 refine TY 0 (.agg #[.slice a1 n1 c1,.slice eJ m1 dK]) rfl aF (TY 1 (.int .i64 z) rfl aF (TY 3 (.agg #[.slice a1 n1 c1,.slice eJ m1 dK]) rfl aF (TY 4 (.int .i64 z) rfl aF ?_)));simp only [PS];refine RD 2 rfl (fun Kq aA=>?_);obtain ⟨yb,aD⟩:∃ y,y=v6.drew:=⟨_,rfl⟩;rw [<-aD];have hb:Below v6.heap.size v6 yb:=by rw [aD];exact (Below.refl _ _).drew
 clear aD;replace r3:=r3.below hb;replace d1:=d1.below hb;replace d2:=d2.below hb;replace r6:=r6.below hb;replace hE:=hE.trans (hb.mono hE.size);clear hb;refine XRf (by rfl) _ _ (by go_simp) (q7m _ n1 c1 _ m1 dK ss ws z y1 y2 y3 y4 _ d1 d2 HD.out.1 HD.out.2.1 HD.out.2.2 HY.out ty gv (HG.out _ hE)) ?_;rintro e gR ⟨rfl,hb⟩;refine ⟨_,rfl,?_⟩;replace r3:=r3.below hb;replace d1:=d1.below hb;replace d2:=d2.below hb;replace r6:=r6.below hb;replace hE:=hE.trans (hb.mono hE.size);clear hb;refine aA.out _ _ (⟨r6.cell 0 _ rfl,r6.cell 1 _ rfl⟩) (fun aH=>?_)
 try simp only [PS]
 refine RD 5 rfl (fun Kq aA=>?_);refine XRf (by rfl) _ _ (by go_simp) (zg5 _ n1 c1 _ m1 dK ss ws z y1 y2 y3 y4 _ d1 d2 HD.out.1 HD.out.2.1 HD.out.2.2 HY.out) ?_;rintro e bI ⟨rfl,hb⟩;refine ⟨_,rfl,?_⟩;replace r3:=r3.below hb;replace d1:=d1.below hb;replace d2:=d2.below hb;replace r6:=r6.below hb;replace hE:=hE.trans (hb.mono hE.size);clear hb;refine aA.out _ _ (⟨r6.cell 0 _ rfl,r6.cell 1 _ rfl⟩) (fun aL=>?_)
 try simp only [PS]
 refine TY 6 (.bool false) rfl aL ?_;simp only [PS];refine DN ?_;clear eR;clear d1 d2 r6 HD HY;have eU:=z90 s
 by_cases hs:s.size=0
 ·rw [decide_eq_true hs] at eU
  go_wp2;go_ret;exact ⟨rfl,hE⟩
 rw [decide_eq_false hs] at eU;have X:RoOk t h f l wd:=kXV (by rw [HS.out];exact hs);have dR:s.size=64:=by rw [<-HS.out];exact X.size
 have HX:=hid X;have x1:=X.t0;have x2:=X.t1;have x3:=X.hf;unfold jJV at x3;clear X hs hz gL fI;obtain ⟨p,hp⟩:∃ p,t % 2=p:=⟨_,rfl⟩;have gQ:t.tmod 2=p:=by rw [Int.tmod_eq_emod_of_nonneg (by omega)];exact hp
 have aI:p=0\/p=1:=by omega
 have HP:=hid hp;have aU:=hid dR;clear hp dR;go_upto_region 12 with fail;go_cut [8] from 44 to 52 (fun yv wx=>RoY bI wx yv 1 [(p,s)])
 case first =>
  have dD:=(Below.refl bI.heap.size bI).drew
  have aE:Hid (∀ W,Below bI.heap.size bI W->W.cell? ⟨B3,0,none⟩=some (.int .i64 t)):=hid fun W hT=>(r3.below hT).cell 0 _ rfl
  refine yO4 (9) (S:=fun w'=>w'.cell? ⟨B3,0,none⟩=some (.int .i64 t)) (by kernel_rfl) (aE.out _ dD) (fun aF=>?_);refine TYT 1 (.pointer (some ⟨B3,0,none⟩)) rfl aF (TYT 2 (.int .i64 t) rfl aF (TYT 3 (.int .i64 p) rfl aF (TYT 4 (.string s) rfl aF (TYT 5 (.agg #[.bool false,.int .i64 p,.string s]) rfl aF ?_))));simp only [PS];refine kPc (rs:=[0,6,8]) (by kernel_rfl) (by simp) ?_;refine AllReadyT.cons rfl (fun Kq aA=>?_) (AllReadyT.cons rfl (fun Kq aA=>?_) (AllReadyT.cons rfl (fun Kq aA=>?_) AllReadyT.nil))
  ·obtain ⟨yb,aD⟩:∃ y,y=bI.drew:=⟨_,rfl⟩
   rw [<-aD];have hT:Below bI.heap.size bI yb:=by rw [aD];exact (Below.refl _ _).drew
   clear aD;refine XRf (by rfl) _ _ (by go_simp) (XCv _) ?_;rintro e y0 ⟨⟨a0,c0,b0,d0,rfl,Dn⟩,hb⟩;refine ⟨_,rfl,?_⟩;replace hT:=hT.trans (hb.mono hT.size);clear hb;refine aA.out _ _ (aE.out _ hT) (fun aH=>?_)
   try simp only [PS]
   refine kPc (rs:=[6,8]) (by kernel_rfl) (by simp) ?_;refine AllReadyT.cons rfl (fun Kq aA=>?_) (AllReadyT.cons rfl (fun Kq aA=>?_) AllReadyT.nil)
   ·go_simp
    generalize aC:y0.alloc _=y6;obtain ⟨OB,aB,hb,rO,bQ,hT⟩:=vi7 aC hT;rw [aB];replace Dn:=Dn.below hb;clear aC aB hb;refine aA.out _ _ (aE.out _ hT) (fun aL=>?_)
    try simp only [PS]
    refine kPc (rs:=[7,8]) (by kernel_rfl) (by simp) ?_;refine AllReadyT.cons rfl (fun Kq aA=>?_) (AllReadyT.cons rfl (fun Kq aA=>?_) AllReadyT.nil)
    ·refine XRf (by rfl) _ _ (by go_simp) (jVL _ c0 _ d0 [] 0 1 (p,s) OB 1 _ Dn rfl rfl ZeR aI aU.out rO (by omega)) ?_
     rintro e y7 ⟨⟨a4,c4,aS,aR,rfl,E4⟩,hb⟩;refine ⟨_,rfl,?_⟩;replace hT:=hT.trans (hb.mono hT.size);clear hb rO Dn;refine aA.out _ _ (aE.out _ hT) (fun bC=>?_)
     try simp only [PS]
     refine RDT 8 rfl (fun Kq aA=>?_);go_simp;generalize aC:y7.alloc _=y8;obtain ⟨B,aB,hb,rB,hB,hT⟩:=vi7 aC hT;rw [aB];replace E4:=(E4.mono (G:=fun b=>b≠B) (fun b hl _=>by omega)).below hb;clear aC aB hb;refine aA.out _ _ (aE.out _ hT) (fun cY=>?_)
     try simp only [PS]
     refine kPc (rs:=[9]) (by kernel_rfl) (by simp) ?_;refine AllReadyT.last rfl (fun Kq aA=>?_);have l0:=rB.cell 0 _ rfl;have l1:=rB.cell 1 _ rfl;obtain ⟨l2,l3⟩:=rB.z2;have l4:=rB.lt;go_simp;clear l0 l1 l2 l3 l4;refine aA.out _ _ trivial (fun _=>?_)
     try simp only [PS]
     refine kgn (by kernel_rfl) ?_ _;go_wp2_with fail;go_meet;exact JdK hT hB rB E4
    ·go_simp
     generalize aC:y6.alloc _=y8;obtain ⟨B,aB,hb,rB,hB,hT⟩:=vi7 aC hT;rw [aB];replace Dn:=Dn.below hb;replace rO:=rO.below hb;clear aC aB hb;refine aA.out _ _ (aE.out _ hT) (fun cU=>?_)
     try simp only [PS]
     refine RDT 7 rfl (fun Kq aA=>?_);refine XRf (by rfl) _ _ (by go_simp) (jVL _ c0 _ d0 [] 0 1 (p,s) OB 1 _ Dn rfl rfl ZeR aI aU.out rO (by omega)) ?_;rintro e y7 ⟨⟨a4,c4,aS,aR,rfl,E4⟩,hb⟩;refine ⟨_,rfl,?_⟩;have bG:=rB.lt;replace rB:=rB.below hb;replace E4:=E4.mono (G:=fun b=>b≠B) (fun b _ k=>by omega);replace hT:=hT.trans (hb.mono hT.size);clear hb rO Dn;refine aA.out _ _ (aE.out _ hT) (fun cQ=>?_)
     try simp only [PS]
     refine kPc (rs:=[9]) (by kernel_rfl) (by simp) ?_;refine AllReadyT.last rfl (fun Kq aA=>?_);have l0:=rB.cell 0 _ rfl;have l1:=rB.cell 1 _ rfl;obtain ⟨l2,l3⟩:=rB.z2;have l4:=rB.lt;go_simp;clear l0 l1 l2 l3 l4;refine aA.out _ _ trivial (fun _=>?_)
     try simp only [PS]
     refine kgn (by kernel_rfl) ?_ _;go_wp2_with fail;go_meet;exact JdK hT hB rB E4
   ·go_simp
    generalize aC:y0.alloc _=y8;obtain ⟨B,aB,hb,rB,hB,hT⟩:=vi7 aC hT;rw [aB];replace Dn:=Dn.below hb;clear aC aB hb;refine aA.out _ _ (aE.out _ hT) (fun cS=>?_)
    try simp only [PS]
    refine RDT 6 rfl (fun Kq aA=>?_);go_simp;generalize aC:y8.alloc _=y6;obtain ⟨OB,aB,hb,rO,bQ,hT⟩:=vi7 aC hT;rw [aB];replace Dn:=Dn.below hb;replace rB:=rB.below hb;clear aC aB hb;refine aA.out _ _ (aE.out _ hT) (fun bW=>?_)
    try simp only [PS]
    refine RDT 7 rfl (fun Kq aA=>?_);refine XRf (by rfl) _ _ (by go_simp) (jVL _ c0 _ d0 [] 0 1 (p,s) OB 1 _ Dn rfl rfl ZeR aI aU.out rO (by omega)) ?_;rintro e y7 ⟨⟨a4,c4,aS,aR,rfl,E4⟩,hb⟩;refine ⟨_,rfl,?_⟩;have bG:=rB.lt;replace rB:=rB.below hb;replace E4:=E4.mono (G:=fun b=>b≠B) (fun b _ k=>by omega);replace hT:=hT.trans (hb.mono hT.size);clear hb rO Dn;refine aA.out _ _ (aE.out _ hT) (fun bV=>?_)
    try simp only [PS]
    refine kPc (rs:=[9]) (by kernel_rfl) (by simp) ?_;refine AllReadyT.last rfl (fun Kq aA=>?_);have l0:=rB.cell 0 _ rfl;have l1:=rB.cell 1 _ rfl;obtain ⟨l2,l3⟩:=rB.z2;have l4:=rB.lt;go_simp;clear l0 l1 l2 l3 l4;refine aA.out _ _ trivial (fun _=>?_)
    try simp only [PS]
    refine kgn (by kernel_rfl) ?_ _;go_wp2_with fail;go_meet;exact JdK hT hB rB E4
  ·obtain ⟨yb,aD⟩:∃ y,y=bI.drew:=⟨_,rfl⟩
   rw [<-aD];have hT:Below bI.heap.size bI yb:=by rw [aD];exact (Below.refl _ _).drew
   clear aD;go_simp;generalize aC:yb.alloc _=y6;obtain ⟨OB,aB,hb,rO,bQ,hT⟩:=vi7 aC hT;rw [aB];clear aC aB hb;refine aA.out _ _ (aE.out _ hT) (fun cH=>?_)
   try simp only [PS]
   refine kPc (rs:=[0,8]) (by kernel_rfl) (by simp) ?_;refine AllReadyT.cons rfl (fun Kq aA=>?_) (AllReadyT.cons rfl (fun Kq aA=>?_) AllReadyT.nil)
   ·refine XRf (by rfl) _ _ (by go_simp) (XCv _) ?_
    rintro e y0 ⟨⟨a0,c0,b0,d0,rfl,Dn⟩,hb⟩;refine ⟨_,rfl,?_⟩;replace rO:=rO.below hb;replace hT:=hT.trans (hb.mono hT.size);clear hb;refine aA.out _ _ (aE.out _ hT) (fun aN=>?_)
    try simp only [PS]
    refine kPc (rs:=[7,8]) (by kernel_rfl) (by simp) ?_;refine AllReadyT.cons rfl (fun Kq aA=>?_) (AllReadyT.cons rfl (fun Kq aA=>?_) AllReadyT.nil)
    ·refine XRf (by rfl) _ _ (by go_simp) (jVL _ c0 _ d0 [] 0 1 (p,s) OB 1 _ Dn rfl rfl ZeR aI aU.out rO (by omega)) ?_
     rintro e y7 ⟨⟨a4,c4,aS,aR,rfl,E4⟩,hb⟩;refine ⟨_,rfl,?_⟩;replace hT:=hT.trans (hb.mono hT.size);clear hb rO Dn;refine aA.out _ _ (aE.out _ hT) (fun cC=>?_)
     try simp only [PS]
     refine RDT 8 rfl (fun Kq aA=>?_);go_simp;generalize aC:y7.alloc _=y8;obtain ⟨B,aB,hb,rB,hB,hT⟩:=vi7 aC hT;rw [aB];replace E4:=(E4.mono (G:=fun b=>b≠B) (fun b hl _=>by omega)).below hb;clear aC aB hb;refine aA.out _ _ (aE.out _ hT) (fun cE=>?_)
     try simp only [PS]
     refine kPc (rs:=[9]) (by kernel_rfl) (by simp) ?_;refine AllReadyT.last rfl (fun Kq aA=>?_);have l0:=rB.cell 0 _ rfl;have l1:=rB.cell 1 _ rfl;obtain ⟨l2,l3⟩:=rB.z2;have l4:=rB.lt;go_simp;clear l0 l1 l2 l3 l4;refine aA.out _ _ trivial (fun _=>?_)
     try simp only [PS]
     refine kgn (by kernel_rfl) ?_ _;go_wp2_with fail;go_meet;exact JdK hT hB rB E4
    ·go_simp
     generalize aC:y0.alloc _=y8;obtain ⟨B,aB,hb,rB,hB,hT⟩:=vi7 aC hT;rw [aB];replace Dn:=Dn.below hb;replace rO:=rO.below hb;clear aC aB hb;refine aA.out _ _ (aE.out _ hT) (fun fH=>?_)
     try simp only [PS]
     refine RDT 7 rfl (fun Kq aA=>?_);refine XRf (by rfl) _ _ (by go_simp) (jVL _ c0 _ d0 [] 0 1 (p,s) OB 1 _ Dn rfl rfl ZeR aI aU.out rO (by omega)) ?_;rintro e y7 ⟨⟨a4,c4,aS,aR,rfl,E4⟩,hb⟩;refine ⟨_,rfl,?_⟩;have bG:=rB.lt;replace rB:=rB.below hb;replace E4:=E4.mono (G:=fun b=>b≠B) (fun b _ k=>by omega);replace hT:=hT.trans (hb.mono hT.size);clear hb rO Dn;refine aA.out _ _ (aE.out _ hT) (fun fG=>?_)
     try simp only [PS]
     refine kPc (rs:=[9]) (by kernel_rfl) (by simp) ?_;refine AllReadyT.last rfl (fun Kq aA=>?_);have l0:=rB.cell 0 _ rfl;have l1:=rB.cell 1 _ rfl;obtain ⟨l2,l3⟩:=rB.z2;have l4:=rB.lt;go_simp;clear l0 l1 l2 l3 l4;refine aA.out _ _ trivial (fun _=>?_)
     try simp only [PS]
     refine kgn (by kernel_rfl) ?_ _;go_wp2_with fail;go_meet;exact JdK hT hB rB E4
   ·go_simp
    generalize aC:y6.alloc _=y8;obtain ⟨B,aB,hb,rB,hB,hT⟩:=vi7 aC hT;rw [aB];replace rO:=rO.below hb;clear aC aB hb;refine aA.out _ _ (aE.out _ hT) (fun fQ=>?_)
    try simp only [PS]
    refine RDT 0 rfl (fun Kq aA=>?_);refine XRf (by rfl) _ _ (by go_simp) (XCv _) ?_;rintro e y0 ⟨⟨a0,c0,b0,d0,rfl,Dn⟩,hb⟩;refine ⟨_,rfl,?_⟩;replace rO:=rO.below hb;replace rB:=rB.below hb;replace hT:=hT.trans (hb.mono hT.size);clear hb;refine aA.out _ _ (aE.out _ hT) (fun fU=>?_)
    try simp only [PS]
    refine RDT 7 rfl (fun Kq aA=>?_);refine XRf (by rfl) _ _ (by go_simp) (jVL _ c0 _ d0 [] 0 1 (p,s) OB 1 _ Dn rfl rfl ZeR aI aU.out rO (by omega)) ?_;rintro e y7 ⟨⟨a4,c4,aS,aR,rfl,E4⟩,hb⟩;refine ⟨_,rfl,?_⟩;have bG:=rB.lt;replace rB:=rB.below hb;replace E4:=E4.mono (G:=fun b=>b≠B) (fun b _ k=>by omega);replace hT:=hT.trans (hb.mono hT.size);clear hb rO Dn;refine aA.out _ _ (aE.out _ hT) (fun fC=>?_)
    try simp only [PS]
    refine kPc (rs:=[9]) (by kernel_rfl) (by simp) ?_;refine AllReadyT.last rfl (fun Kq aA=>?_);have l0:=rB.cell 0 _ rfl;have l1:=rB.cell 1 _ rfl;obtain ⟨l2,l3⟩:=rB.z2;have l4:=rB.lt;go_simp;clear l0 l1 l2 l3 l4;refine aA.out _ _ trivial (fun _=>?_)
    try simp only [PS]
    refine kgn (by kernel_rfl) ?_ _;go_wp2_with fail;go_meet;exact JdK hT hB rB E4
  ·obtain ⟨yb,aD⟩:∃ y,y=bI.drew:=⟨_,rfl⟩
   rw [<-aD];have hT:Below bI.heap.size bI yb:=by rw [aD];exact (Below.refl _ _).drew
   clear aD;go_simp;generalize aC:yb.alloc _=y8;obtain ⟨B,aB,hb,rB,hB,hT⟩:=vi7 aC hT;rw [aB];clear aC aB hb;refine aA.out _ _ (aE.out _ hT) (fun eT=>?_)
   try simp only [PS]
   refine kPc (rs:=[0,6]) (by kernel_rfl) (by simp) ?_;refine AllReadyT.cons rfl (fun Kq aA=>?_) (AllReadyT.cons rfl (fun Kq aA=>?_) AllReadyT.nil)
   ·refine XRf (by rfl) _ _ (by go_simp) (XCv _) ?_
    rintro e y0 ⟨⟨a0,c0,b0,d0,rfl,Dn⟩,hb⟩;refine ⟨_,rfl,?_⟩;replace rB:=rB.below hb;replace hT:=hT.trans (hb.mono hT.size);clear hb;refine aA.out _ _ (aE.out _ hT) (fun eX=>?_)
    try simp only [PS]
    refine RDT 6 rfl (fun Kq aA=>?_);go_simp;generalize aC:y0.alloc _=y6;obtain ⟨OB,aB,hb,rO,bQ,hT⟩:=vi7 aC hT;rw [aB];replace Dn:=Dn.below hb;replace rB:=rB.below hb;clear aC aB hb;refine aA.out _ _ (aE.out _ hT) (fun fB=>?_)
    try simp only [PS]
    refine RDT 7 rfl (fun Kq aA=>?_);refine XRf (by rfl) _ _ (by go_simp) (jVL _ c0 _ d0 [] 0 1 (p,s) OB 1 _ Dn rfl rfl ZeR aI aU.out rO (by omega)) ?_;rintro e y7 ⟨⟨a4,c4,aS,aR,rfl,E4⟩,hb⟩;refine ⟨_,rfl,?_⟩;have bG:=rB.lt;replace rB:=rB.below hb;replace E4:=E4.mono (G:=fun b=>b≠B) (fun b _ k=>by omega);replace hT:=hT.trans (hb.mono hT.size);clear hb rO Dn;refine aA.out _ _ (aE.out _ hT) (fun fE=>?_)
    try simp only [PS]
    refine kPc (rs:=[9]) (by kernel_rfl) (by simp) ?_;refine AllReadyT.last rfl (fun Kq aA=>?_);have l0:=rB.cell 0 _ rfl;have l1:=rB.cell 1 _ rfl;obtain ⟨l2,l3⟩:=rB.z2;have l4:=rB.lt;go_simp;clear l0 l1 l2 l3 l4;refine aA.out _ _ trivial (fun _=>?_)
    try simp only [PS]
    refine kgn (by kernel_rfl) ?_ _;go_wp2_with fail;go_meet;exact JdK hT hB rB E4
   ·go_simp
    generalize aC:y8.alloc _=y6;obtain ⟨OB,aB,hb,rO,bQ,hT⟩:=vi7 aC hT;rw [aB];replace rB:=rB.below hb;clear aC aB hb;refine aA.out _ _ (aE.out _ hT) (fun fV=>?_)
    try simp only [PS]
    refine RDT 0 rfl (fun Kq aA=>?_);refine XRf (by rfl) _ _ (by go_simp) (XCv _) ?_;rintro e y0 ⟨⟨a0,c0,b0,d0,rfl,Dn⟩,hb⟩;refine ⟨_,rfl,?_⟩;replace rO:=rO.below hb;replace rB:=rB.below hb;replace hT:=hT.trans (hb.mono hT.size);clear hb;refine aA.out _ _ (aE.out _ hT) (fun fJ=>?_)
    try simp only [PS]
    refine RDT 7 rfl (fun Kq aA=>?_);refine XRf (by rfl) _ _ (by go_simp) (jVL _ c0 _ d0 [] 0 1 (p,s) OB 1 _ Dn rfl rfl ZeR aI aU.out rO (by omega)) ?_;rintro e y7 ⟨⟨a4,c4,aS,aR,rfl,E4⟩,hb⟩;refine ⟨_,rfl,?_⟩;have bG:=rB.lt;replace rB:=rB.below hb;replace E4:=E4.mono (G:=fun b=>b≠B) (fun b _ k=>by omega);replace hT:=hT.trans (hb.mono hT.size);clear hb rO Dn;refine aA.out _ _ (aE.out _ hT) (fun eW=>?_)
    try simp only [PS]
    refine kPc (rs:=[9]) (by kernel_rfl) (by simp) ?_;refine AllReadyT.last rfl (fun Kq aA=>?_);have l0:=rB.cell 0 _ rfl;have l1:=rB.cell 1 _ rfl;obtain ⟨l2,l3⟩:=rB.z2;have l4:=rB.lt;go_simp;clear l0 l1 l2 l3 l4;refine aA.out _ _ trivial (fun _=>?_)
    try simp only [PS]
    refine kgn (by kernel_rfl) ?_ _;go_wp2_with fail;go_meet;exact JdK hT hB rB E4
 case rest =>
  obtain ⟨B8,a8,c8,cL,aM,rfl,hb,r8,D8⟩:=hcut
  rename World=>dJ
  replace r3:=r3.below hb;replace hE:=hE.trans (hb.mono hE.size);clear hb;have fW:frD z20 [(p,s)] wd=(t,h,f,l):=by rw [<-HP.out,<-HS.out];exact HX.out.e
  have gM:=hid fW;clear fW;have fX:W01 [(p,s)]:=Qsp aI aU.out;have aY:=hid fX;clear fX;go_upto_region 13 with fail;have dD:=(Below.refl dJ.heap.size dJ).drew;refine wp_region_held_drew (S:=fun w'=>w'.cell? ⟨B8,0,none⟩=some (.slice a8 20 c8)/\w'.cell? ⟨B8,1,none⟩=some (.slice cL 1 aM)/\w'.cell? ⟨B3,0,none⟩=some (.int .i64 t)/\w'.cell? ⟨B3,1,none⟩=some (.int .i64 h)/\w'.cell? ⟨B3,2,none⟩=some (.int .i64 f)/\w'.cell? ⟨B3,3,none⟩=some (.int .i64 l)) (by kernel_rfl) (⟨(r8.below dD).cell 0 _ rfl,(r8.below dD).cell 1 _ rfl,(r3.below dD).cell 0 _ rfl,(r3.below dD).cell 1 _ rfl,(r3.below dD).cell 2 _ rfl,(r3.below dD).cell 3 _ rfl⟩) (fun aF=>?_);refine TY 0 (.agg #[.slice a8 20 c8,.slice cL 1 aM]) rfl aF (TY 1 (.int .i64 wd) rfl aF (TY 3 (.agg #[.int .i64 t,.int .i64 h,.int .i64 f,.int .i64 l]) rfl aF ?_));simp only [PS];refine RD 2 rfl (fun Kq aA=>?_);obtain ⟨yb,aD⟩:∃ y,y=dJ.drew:=⟨_,rfl⟩;rw [<-aD];have hb:Below dJ.heap.size dJ yb:=by rw [aD];exact (Below.refl _ _).drew
  clear aD;replace r3:=r3.below hb;replace r8:=r8.below hb;replace D8:=D8.below hb;replace hE:=hE.trans (hb.mono hE.size);clear hb;refine XRf (by rfl) _ _ (by go_simp) (qwi _ c8 _ aM [(p,s)] 1 wd (t,h,f,l) _ D8 rfl aY.out gM.out ty gv (HG.out _ hE)) ?_;rintro e eY ⟨rfl,hb⟩;refine ⟨_,rfl,?_⟩;replace r3:=r3.below hb;replace r8:=r8.below hb;replace D8:=D8.below hb;replace hE:=hE.trans (hb.mono hE.size);clear hb;refine aA.out _ _ (⟨r8.cell 0 _ rfl,r8.cell 1 _ rfl,r3.cell 0 _ rfl,r3.cell 1 _ rfl,r3.cell 2 _ rfl,r3.cell 3 _ rfl⟩) (fun aH=>?_)
  try simp only [PS]
  refine TY 4 (.bool false) rfl aH ?_;simp only [PS];refine DN ?_;clear dD
  by_cases gO:t<2
  ·have aJ:=r3.cell 0 _ rfl
   have aK:=r3.lt;go_wp2_with fail;clear aJ aK;refine (XCv _).mono ?_;rintro e gF ⟨⟨gJ,c16,gE,eD,rfl,eQ⟩,hb⟩;replace r3:=r3.below hb;replace r8:=r8.below hb;replace D8:=D8.below hb;replace hE:=hE.trans (hb.mono hE.size);clear hb;go_wp2_with fail;refine (qwi _ c16 _ eD [] 0 wd (0,0,1,0) _ eQ rfl ZeR (xF8 HX.out.n0 HX.out.n1) ty gv (HG.out _ hE)).mono ?_;rintro e gD ⟨rfl,hb⟩;replace hE:=hE.trans (hb.mono hE.size);go_wp2;go_ret;exact ⟨rfl,hE⟩
  by_cases gG:t=1000000000
  ·have aJ:=r3.cell 0 _ rfl
   have aK:=r3.lt;go_wp2_with fail;clear aJ aK;refine (XCv _).mono ?_;rintro e gF ⟨⟨gJ,c16,gE,eD,rfl,eQ⟩,hb⟩;replace r3:=r3.below hb;replace r8:=r8.below hb;replace D8:=D8.below hb;replace hE:=hE.trans (hb.mono hE.size);clear hb;go_wp2_with fail;refine (qwi _ c16 _ eD [] 0 wd (0,0,1,0) _ eQ rfl ZeR (xF8 HX.out.n0 HX.out.n1) ty gv (HG.out _ hE)).mono ?_;rintro e gD ⟨rfl,hb⟩;replace hE:=hE.trans (hb.mono hE.size);go_wp2;go_ret;exact ⟨rfl,hE⟩
  have gS:(t == 1000000000)=false:=by simpa using gG
  have fI:IntKind.i64.wrap (t+1)=t+1:=vRg _ (by omega) (by omega);have gV:IntKind.i64.wrap (1-h)=1-h:=vRg _ (by omega) (by omega);have gW:IntKind.i64.wrap (t-1)=t-1:=vRg _ (by omega) (by omega);obtain ⟨aJ,aP,aT,aQ⟩:=r3.k4;have aK:=r3.lt;go_upto_region 20 with fail;clear aJ aP aT aQ aK;generalize cO:eY.alloc _=eV;obtain ⟨hb,dM,cV⟩:=bx1 cO;clear cO;obtain ⟨B9,aB⟩:∃ k,k=eY.heap.size:=⟨_,rfl⟩;rw [<-aB] at cV ⊢;have r9:=cV.now;clear aB cV dM;replace r3:=r3.below hb;replace r8:=r8.below hb;replace D8:=D8.below hb;replace hE:=hE.trans (hb.mono hE.size);clear hb;obtain ⟨aJ,aP,aT,aQ⟩:=r3.k4;have aK:=r3.lt;obtain ⟨eI,eN,dZ,eH⟩:=r9.k4;have eP:=r9.lt;go_upto_region 22 with fail;clear aJ aP aT aQ aK eI eN dZ eH eP;generalize cP:eV.alloc _=b7;obtain ⟨hb,dV,cJ⟩:=bx1 cP;clear cP;obtain ⟨cM,aB⟩:∃ k,k=eV.heap.size:=⟨_,rfl⟩;rw [<-aB] at cJ ⊢;have aW:=cJ.now;clear aB cJ dV;replace r3:=r3.below hb;replace r8:=r8.below hb;replace D8:=D8.below hb
  replace r9:=r9.below hb;replace hE:=hE.trans (hb.mono hE.size);clear hb;have Xm:RoOk (t+1) (1-h) f l wd:=⟨by omega,by omega,⟨by omega,by omega,x3.2.2⟩,HX.out.l0,HX.out.l1,HX.out.n0,HX.out.n1⟩;have Xl:RoOk (t-1) (1-h) f l wd:=⟨by omega,by omega,⟨by omega,by omega,x3.2.2⟩,HX.out.l0,HX.out.l1,HX.out.n0,HX.out.n1⟩;obtain ⟨s2,bU⟩:∃ s,QCt (t+1) (1-h) f l wd=s:=⟨_,rfl⟩;have dI:=hid bU;have hq:s2.size=64:=by rw [<-bU];exact Xm.size
  have aG:=hid hq;clear bU hq;obtain ⟨p2,eO⟩:∃ p,(t+1) % 2=p:=⟨_,rfl⟩;have gI:Int.tmod (t+1) 2=p2:=by rw [Int.tmod_eq_emod_of_nonneg (by omega)];exact eO
  have cF:p2=0\/p2=1:=by omega
  have gK:=hid eO;clear eO;obtain ⟨s3,bU⟩:∃ s,QCt (t-1) (1-h) f l wd=s:=⟨_,rfl⟩;have eG:=hid bU;have hq:s3.size=64:=by rw [<-bU];exact Xl.size
  have aX:=hid hq;clear bU hq;obtain ⟨p3,eM⟩:∃ p,(t-1) % 2=p:=⟨_,rfl⟩;have gN:Int.tmod (t-1) 2=p3:=by rw [Int.tmod_eq_emod_of_nonneg (by omega)];exact eM
  have cI:p3=0\/p3=1:=by omega
  have gH:=hid eM;clear eM;have fA:frD z20 [(p,s),(p2,s2)] wd=(t+1,1-h,f,l):=by rw [<-HP.out,<-HS.out,<-gK.out,<-dI.out];exact HX.out.up Xm rfl
  have fF:frD z20 [(p,s),(p3,s3)] wd=(t,h,f,l):=by rw [<-HP.out,<-HS.out,<-gH.out,<-eG.out];exact HX.out.down Xl rfl
  have fS:frD z20 [(p,s),(p,s2)] wd=(0,0,1,0):=by rw [<-HP.out,<-HS.out,<-dI.out];exact HX.out.wrong Xm rfl
  have HF:=hid (And.intro fA (And.intro fF fS));clear fA fF fS Xm Xl;have eC:Hid (W01 [(p,s),(p2,s2)]/\W01 [(p,s),(p3,s3)]/\W01 [(p,s),(p,s2)]):=hid ⟨J7w aY.out cF aG.out,J7w aY.out cI aX.out,J7w aY.out aI aG.out⟩;go_cut [11] from 84 to 94 (fun yv wx=>RoY b7 wx yv 2 [(p,s),(p2,s2)])
  case first =>
   have dD:=(Below.refl b7.heap.size b7).drew;have De:=D8
   have aE:Hid (∀ W,Below b7.heap.size b7 W->W.cell? ⟨B8,0,none⟩=some (.slice a8 20 c8)/\W.cell? ⟨B8,1,none⟩=some (.slice cL 1 aM)/\W.cell? ⟨B9,0,none⟩=some (.int .i64 (t+1))/\W.cell? ⟨B9,1,none⟩=some (.int .i64 (1-h))/\W.cell? ⟨B9,2,none⟩=some (.int .i64 f)/\W.cell? ⟨B9,3,none⟩=some (.int .i64 l)):=hid fun W hT=>⟨(r8.below hT).cell 0 _ rfl,(r8.below hT).cell 1 _ rfl,(r9.below hT).cell 0 _ rfl,(r9.below hT).cell 1 _ rfl,(r9.below hT).cell 2 _ rfl,(r9.below hT).cell 3 _ rfl⟩
   refine yO4 (11) (S:=fun w'=>w'.cell? ⟨B8,0,none⟩=some (.slice a8 20 c8)/\w'.cell? ⟨B8,1,none⟩=some (.slice cL 1 aM)/\w'.cell? ⟨B9,0,none⟩=some (.int .i64 (t+1))/\w'.cell? ⟨B9,1,none⟩=some (.int .i64 (1-h))/\w'.cell? ⟨B9,2,none⟩=some (.int .i64 f)/\w'.cell? ⟨B9,3,none⟩=some (.int .i64 l)) (by kernel_rfl) (aE.out _ dD) (fun aF=>?_);refine TYT 0 (.agg #[.slice a8 20 c8,.slice cL 1 aM]) rfl aF (TYT 1 (.pointer (some ⟨B9,0,none⟩)) rfl aF (TYT 2 (.int .i64 (t+1)) rfl aF (TYT 3 (.int .i64 p2) rfl aF (TYT 4 (.agg #[.int .i64 (t+1),.int .i64 (1-h),.int .i64 f,.int .i64 l]) rfl aF (TYT 5 (.int .i64 wd) rfl aF ?_)))));simp only [PS];refine kPc (rs:=[6,10]) (by kernel_rfl) (by simp) ?_;refine AllReadyT.cons rfl (fun Kq aA=>?_) (AllReadyT.cons rfl (fun Kq aA=>?_) AllReadyT.nil)
   ·obtain ⟨yb,aD⟩:∃ y,y=b7.drew:=⟨_,rfl⟩
    rw [<-aD];have hT:Below b7.heap.size b7 yb:=by rw [aD];exact (Below.refl _ _).drew
    clear aD;refine XRf (by rfl) _ _ (by go_simp) (xIt (t+1) (1-h) f l wd _) ?_;rw [dI.out];rintro e y6 ⟨rfl,hb⟩;refine ⟨_,rfl,?_⟩;replace hT:=hT.trans (hb.mono hT.size);clear hb;refine aA.out _ _ (aE.out _ hT) (fun aH=>?_)
    try simp only [PS]
    refine TYT 7 (.agg #[.bool false,.int .i64 p2,.string s2]) rfl aH ?_;simp only [PS];refine kPc (rs:=[8,10]) (by kernel_rfl) (by simp) ?_;refine AllReadyT.cons rfl (fun Kq aA=>?_) (AllReadyT.cons rfl (fun Kq aA=>?_) AllReadyT.nil)
    ·go_simp
     generalize aC:y6.alloc _=y8;obtain ⟨OB,aB,hb,rO,bQ,hT⟩:=vi7 aC hT;rw [aB];clear aC aB hb;refine aA.out _ _ (aE.out _ hT) (fun aL=>?_)
     try simp only [PS]
     refine kPc (rs:=[9,10]) (by kernel_rfl) (by simp) ?_;refine AllReadyT.cons rfl (fun Kq aA=>?_) (AllReadyT.cons rfl (fun Kq aA=>?_) AllReadyT.nil)
     ·refine XRf (by rfl) _ _ (by go_simp) (jVL _ c8 _ aM [(p,s)] 1 2 (p2,s2) OB 1 _ (De.below hT) rfl rfl aY.out cF aG.out rO (by omega)) ?_
      rintro e y9 ⟨⟨a4,c4,aS,aR,rfl,E4⟩,hb⟩;refine ⟨_,rfl,?_⟩;replace hT:=hT.trans (hb.mono hT.size);clear hb rO;refine aA.out _ _ (aE.out _ hT) (fun bC=>?_)
      try simp only [PS]
      refine RDT 10 rfl (fun Kq aA=>?_);go_simp;generalize aC:y9.alloc _=bH;obtain ⟨B,aB,hb,rB,hB,hT⟩:=vi7 aC hT;rw [aB];replace E4:=(E4.mono (G:=fun b=>b≠B) (fun b hl _=>by omega)).below hb;clear aC aB hb;refine aA.out _ _ (aE.out _ hT) (fun cY=>?_)
      try simp only [PS]
      refine kPc (rs:=[11]) (by kernel_rfl) (by simp) ?_;refine AllReadyT.last rfl (fun Kq aA=>?_);have l0:=rB.cell 0 _ rfl;have l1:=rB.cell 1 _ rfl;obtain ⟨l2,l3⟩:=rB.z2;have l4:=rB.lt;go_simp;clear l0 l1 l2 l3 l4;refine aA.out _ _ trivial (fun _=>?_)
      try simp only [PS]
      refine kgn (by kernel_rfl) ?_ _;go_wp2_with fail;go_meet;exact JdK hT hB rB E4
     ·go_simp
      generalize aC:y8.alloc _=bH;obtain ⟨B,aB,hb,rB,hB,hT⟩:=vi7 aC hT;rw [aB];replace rO:=rO.below hb;clear aC aB hb;refine aA.out _ _ (aE.out _ hT) (fun cU=>?_)
      try simp only [PS]
      refine RDT 9 rfl (fun Kq aA=>?_);refine XRf (by rfl) _ _ (by go_simp) (jVL _ c8 _ aM [(p,s)] 1 2 (p2,s2) OB 1 _ (De.below hT) rfl rfl aY.out cF aG.out rO (by omega)) ?_;rintro e y9 ⟨⟨a4,c4,aS,aR,rfl,E4⟩,hb⟩;refine ⟨_,rfl,?_⟩;have bG:=rB.lt;replace rB:=rB.below hb;replace E4:=E4.mono (G:=fun b=>b≠B) (fun b _ k=>by omega);replace hT:=hT.trans (hb.mono hT.size);clear hb rO;refine aA.out _ _ (aE.out _ hT) (fun cQ=>?_)
      try simp only [PS]
      refine kPc (rs:=[11]) (by kernel_rfl) (by simp) ?_;refine AllReadyT.last rfl (fun Kq aA=>?_);have l0:=rB.cell 0 _ rfl;have l1:=rB.cell 1 _ rfl;obtain ⟨l2,l3⟩:=rB.z2;have l4:=rB.lt;go_simp;clear l0 l1 l2 l3 l4;refine aA.out _ _ trivial (fun _=>?_)
      try simp only [PS]
      refine kgn (by kernel_rfl) ?_ _;go_wp2_with fail;go_meet;exact JdK hT hB rB E4
    ·go_simp
     generalize aC:y6.alloc _=bH;obtain ⟨B,aB,hb,rB,hB,hT⟩:=vi7 aC hT;rw [aB];clear aC aB hb;refine aA.out _ _ (aE.out _ hT) (fun cS=>?_)
     try simp only [PS]
     refine RDT 8 rfl (fun Kq aA=>?_);go_simp;generalize aC:bH.alloc _=y8;obtain ⟨OB,aB,hb,rO,bQ,hT⟩:=vi7 aC hT;rw [aB];replace rB:=rB.below hb;clear aC aB hb;refine aA.out _ _ (aE.out _ hT) (fun bW=>?_)
     try simp only [PS]
     refine RDT 9 rfl (fun Kq aA=>?_);refine XRf (by rfl) _ _ (by go_simp) (jVL _ c8 _ aM [(p,s)] 1 2 (p2,s2) OB 1 _ (De.below hT) rfl rfl aY.out cF aG.out rO (by omega)) ?_;rintro e y9 ⟨⟨a4,c4,aS,aR,rfl,E4⟩,hb⟩;refine ⟨_,rfl,?_⟩;have bG:=rB.lt;replace rB:=rB.below hb;replace E4:=E4.mono (G:=fun b=>b≠B) (fun b _ k=>by omega);replace hT:=hT.trans (hb.mono hT.size);clear hb rO;refine aA.out _ _ (aE.out _ hT) (fun bV=>?_)
     try simp only [PS]
     refine kPc (rs:=[11]) (by kernel_rfl) (by simp) ?_;refine AllReadyT.last rfl (fun Kq aA=>?_);have l0:=rB.cell 0 _ rfl;have l1:=rB.cell 1 _ rfl;obtain ⟨l2,l3⟩:=rB.z2;have l4:=rB.lt;go_simp;clear l0 l1 l2 l3 l4;refine aA.out _ _ trivial (fun _=>?_)
     try simp only [PS]
     refine kgn (by kernel_rfl) ?_ _;go_wp2_with fail;go_meet;exact JdK hT hB rB E4
   ·obtain ⟨yb,aD⟩:∃ y,y=b7.drew:=⟨_,rfl⟩
    rw [<-aD];have hT:Below b7.heap.size b7 yb:=by rw [aD];exact (Below.refl _ _).drew
    clear aD;go_simp;generalize aC:yb.alloc _=bH;obtain ⟨B,aB,hb,rB,hB,hT⟩:=vi7 aC hT;rw [aB];clear aC aB hb;refine aA.out _ _ (aE.out _ hT) (fun cH=>?_)
    try simp only [PS]
    refine RDT 6 rfl (fun Kq aA=>?_);refine XRf (by rfl) _ _ (by go_simp) (xIt (t+1) (1-h) f l wd _) ?_;rw [dI.out];rintro e y6 ⟨rfl,hb⟩;refine ⟨_,rfl,?_⟩;replace rB:=rB.below hb;replace hT:=hT.trans (hb.mono hT.size);clear hb;refine aA.out _ _ (aE.out _ hT) (fun aN=>?_)
    try simp only [PS]
    refine TYT 7 (.agg #[.bool false,.int .i64 p2,.string s2]) rfl aN ?_;simp only [PS];refine RDT 8 rfl (fun Kq aA=>?_);go_simp;generalize aC:y6.alloc _=y8;obtain ⟨OB,aB,hb,rO,bQ,hT⟩:=vi7 aC hT;rw [aB];replace rB:=rB.below hb;clear aC aB hb;refine aA.out _ _ (aE.out _ hT) (fun cC=>?_)
    try simp only [PS]
    refine RDT 9 rfl (fun Kq aA=>?_);refine XRf (by rfl) _ _ (by go_simp) (jVL _ c8 _ aM [(p,s)] 1 2 (p2,s2) OB 1 _ (De.below hT) rfl rfl aY.out cF aG.out rO (by omega)) ?_;rintro e y9 ⟨⟨a4,c4,aS,aR,rfl,E4⟩,hb⟩;refine ⟨_,rfl,?_⟩;have bG:=rB.lt;replace rB:=rB.below hb;replace E4:=E4.mono (G:=fun b=>b≠B) (fun b _ k=>by omega);replace hT:=hT.trans (hb.mono hT.size);clear hb rO;refine aA.out _ _ (aE.out _ hT) (fun cE=>?_)
    try simp only [PS]
    refine kPc (rs:=[11]) (by kernel_rfl) (by simp) ?_;refine AllReadyT.last rfl (fun Kq aA=>?_);have l0:=rB.cell 0 _ rfl;have l1:=rB.cell 1 _ rfl;obtain ⟨l2,l3⟩:=rB.z2;have l4:=rB.lt;go_simp;clear l0 l1 l2 l3 l4;refine aA.out _ _ trivial (fun _=>?_)
    try simp only [PS]
    refine kgn (by kernel_rfl) ?_ _;go_wp2_with fail;go_meet;exact JdK hT hB rB E4
  case rest =>
   obtain ⟨fT,fZ,dY,dL,cT,rfl,hb,aO,bJ⟩:=hcut
   rename World=>bY
   replace r3:=r3.below hb;replace r8:=r8.below hb;replace D8:=D8.below hb;replace r9:=r9.below hb;replace aW:=aW.below hb;replace hE:=hE.trans (hb.mono hE.size);clear hb;go_upto_region 23 with fail;go_cut [12] from 94 to 104 (fun yv wx=>RoY bY wx yv 2 [(p,s),(p3,s3)])
   case first =>
    have dD:=(Below.refl bY.heap.size bY).drew;have De:=D8
    have aE:Hid (∀ W,Below bY.heap.size bY W->W.cell? ⟨B8,0,none⟩=some (.slice a8 20 c8)/\W.cell? ⟨B8,1,none⟩=some (.slice cL 1 aM)/\W.cell? ⟨cM,0,none⟩=some (.int .i64 (t-1))/\W.cell? ⟨cM,1,none⟩=some (.int .i64 (1-h))/\W.cell? ⟨cM,2,none⟩=some (.int .i64 f)/\W.cell? ⟨cM,3,none⟩=some (.int .i64 l)):=hid fun W hT=>⟨(r8.below hT).cell 0 _ rfl,(r8.below hT).cell 1 _ rfl,(aW.below hT).cell 0 _ rfl,(aW.below hT).cell 1 _ rfl,(aW.below hT).cell 2 _ rfl,(aW.below hT).cell 3 _ rfl⟩
    refine yO4 (11) (S:=fun w'=>w'.cell? ⟨B8,0,none⟩=some (.slice a8 20 c8)/\w'.cell? ⟨B8,1,none⟩=some (.slice cL 1 aM)/\w'.cell? ⟨cM,0,none⟩=some (.int .i64 (t-1))/\w'.cell? ⟨cM,1,none⟩=some (.int .i64 (1-h))/\w'.cell? ⟨cM,2,none⟩=some (.int .i64 f)/\w'.cell? ⟨cM,3,none⟩=some (.int .i64 l)) (by kernel_rfl) (aE.out _ dD) (fun aF=>?_);refine TYT 0 (.agg #[.slice a8 20 c8,.slice cL 1 aM]) rfl aF (TYT 1 (.pointer (some ⟨cM,0,none⟩)) rfl aF (TYT 2 (.int .i64 (t-1)) rfl aF (TYT 3 (.int .i64 p3) rfl aF (TYT 4 (.agg #[.int .i64 (t-1),.int .i64 (1-h),.int .i64 f,.int .i64 l]) rfl aF (TYT 5 (.int .i64 wd) rfl aF ?_)))));simp only [PS];refine kPc (rs:=[6,10]) (by kernel_rfl) (by simp) ?_;refine AllReadyT.cons rfl (fun Kq aA=>?_) (AllReadyT.cons rfl (fun Kq aA=>?_) AllReadyT.nil)
    ·obtain ⟨yb,aD⟩:∃ y,y=bY.drew:=⟨_,rfl⟩
     rw [<-aD];have hT:Below bY.heap.size bY yb:=by rw [aD];exact (Below.refl _ _).drew
     clear aD;refine XRf (by rfl) _ _ (by go_simp) (xIt (t-1) (1-h) f l wd _) ?_;rw [eG.out];rintro e y6 ⟨rfl,hb⟩;refine ⟨_,rfl,?_⟩;replace hT:=hT.trans (hb.mono hT.size);clear hb;refine aA.out _ _ (aE.out _ hT) (fun aH=>?_)
     try simp only [PS]
     refine TYT 7 (.agg #[.bool false,.int .i64 p3,.string s3]) rfl aH ?_;simp only [PS];refine kPc (rs:=[8,10]) (by kernel_rfl) (by simp) ?_;refine AllReadyT.cons rfl (fun Kq aA=>?_) (AllReadyT.cons rfl (fun Kq aA=>?_) AllReadyT.nil)
     ·go_simp
      generalize aC:y6.alloc _=y8;obtain ⟨OB,aB,hb,rO,bQ,hT⟩:=vi7 aC hT;rw [aB];clear aC aB hb;refine aA.out _ _ (aE.out _ hT) (fun aL=>?_)
      try simp only [PS]
      refine kPc (rs:=[9,10]) (by kernel_rfl) (by simp) ?_;refine AllReadyT.cons rfl (fun Kq aA=>?_) (AllReadyT.cons rfl (fun Kq aA=>?_) AllReadyT.nil)
      ·refine XRf (by rfl) _ _ (by go_simp) (jVL _ c8 _ aM [(p,s)] 1 2 (p3,s3) OB 1 _ (De.below hT) rfl rfl aY.out cI aX.out rO (by omega)) ?_
       rintro e y9 ⟨⟨a4,c4,aS,aR,rfl,E4⟩,hb⟩;refine ⟨_,rfl,?_⟩;replace hT:=hT.trans (hb.mono hT.size);clear hb rO;refine aA.out _ _ (aE.out _ hT) (fun bC=>?_)
       try simp only [PS]
       refine RDT 10 rfl (fun Kq aA=>?_);go_simp;generalize aC:y9.alloc _=bH;obtain ⟨B,aB,hb,rB,hB,hT⟩:=vi7 aC hT;rw [aB];replace E4:=(E4.mono (G:=fun b=>b≠B) (fun b hl _=>by omega)).below hb;clear aC aB hb;refine aA.out _ _ (aE.out _ hT) (fun cY=>?_)
       try simp only [PS]
       refine kPc (rs:=[11]) (by kernel_rfl) (by simp) ?_;refine AllReadyT.last rfl (fun Kq aA=>?_);have l0:=rB.cell 0 _ rfl;have l1:=rB.cell 1 _ rfl;obtain ⟨l2,l3⟩:=rB.z2;have l4:=rB.lt;go_simp;clear l0 l1 l2 l3 l4;refine aA.out _ _ trivial (fun _=>?_)
       try simp only [PS]
       refine kgn (by kernel_rfl) ?_ _;go_wp2_with fail;go_meet;exact JdK hT hB rB E4
      ·go_simp
       generalize aC:y8.alloc _=bH;obtain ⟨B,aB,hb,rB,hB,hT⟩:=vi7 aC hT;rw [aB];replace rO:=rO.below hb;clear aC aB hb;refine aA.out _ _ (aE.out _ hT) (fun cU=>?_)
       try simp only [PS]
       refine RDT 9 rfl (fun Kq aA=>?_);refine XRf (by rfl) _ _ (by go_simp) (jVL _ c8 _ aM [(p,s)] 1 2 (p3,s3) OB 1 _ (De.below hT) rfl rfl aY.out cI aX.out rO (by omega)) ?_;rintro e y9 ⟨⟨a4,c4,aS,aR,rfl,E4⟩,hb⟩;refine ⟨_,rfl,?_⟩;have bG:=rB.lt;replace rB:=rB.below hb;replace E4:=E4.mono (G:=fun b=>b≠B) (fun b _ k=>by omega);replace hT:=hT.trans (hb.mono hT.size);clear hb rO;refine aA.out _ _ (aE.out _ hT) (fun cQ=>?_)
       try simp only [PS]
       refine kPc (rs:=[11]) (by kernel_rfl) (by simp) ?_;refine AllReadyT.last rfl (fun Kq aA=>?_);have l0:=rB.cell 0 _ rfl;have l1:=rB.cell 1 _ rfl;obtain ⟨l2,l3⟩:=rB.z2;have l4:=rB.lt;go_simp;clear l0 l1 l2 l3 l4;refine aA.out _ _ trivial (fun _=>?_)
       try simp only [PS]
       refine kgn (by kernel_rfl) ?_ _;go_wp2_with fail;go_meet;exact JdK hT hB rB E4
     ·go_simp
      generalize aC:y6.alloc _=bH;obtain ⟨B,aB,hb,rB,hB,hT⟩:=vi7 aC hT;rw [aB];clear aC aB hb;refine aA.out _ _ (aE.out _ hT) (fun cS=>?_)
      try simp only [PS]
      refine RDT 8 rfl (fun Kq aA=>?_);go_simp;generalize aC:bH.alloc _=y8;obtain ⟨OB,aB,hb,rO,bQ,hT⟩:=vi7 aC hT;rw [aB];replace rB:=rB.below hb;clear aC aB hb;refine aA.out _ _ (aE.out _ hT) (fun bW=>?_)
      try simp only [PS]
      refine RDT 9 rfl (fun Kq aA=>?_);refine XRf (by rfl) _ _ (by go_simp) (jVL _ c8 _ aM [(p,s)] 1 2 (p3,s3) OB 1 _ (De.below hT) rfl rfl aY.out cI aX.out rO (by omega)) ?_;rintro e y9 ⟨⟨a4,c4,aS,aR,rfl,E4⟩,hb⟩;refine ⟨_,rfl,?_⟩;have bG:=rB.lt;replace rB:=rB.below hb;replace E4:=E4.mono (G:=fun b=>b≠B) (fun b _ k=>by omega);replace hT:=hT.trans (hb.mono hT.size);clear hb rO;refine aA.out _ _ (aE.out _ hT) (fun bV=>?_)
      try simp only [PS]
      refine kPc (rs:=[11]) (by kernel_rfl) (by simp) ?_;refine AllReadyT.last rfl (fun Kq aA=>?_);have l0:=rB.cell 0 _ rfl;have l1:=rB.cell 1 _ rfl;obtain ⟨l2,l3⟩:=rB.z2;have l4:=rB.lt;go_simp;clear l0 l1 l2 l3 l4;refine aA.out _ _ trivial (fun _=>?_)
      try simp only [PS]
      refine kgn (by kernel_rfl) ?_ _;go_wp2_with fail;go_meet;exact JdK hT hB rB E4
    ·obtain ⟨yb,aD⟩:∃ y,y=bY.drew:=⟨_,rfl⟩
     rw [<-aD];have hT:Below bY.heap.size bY yb:=by rw [aD];exact (Below.refl _ _).drew
     clear aD;go_simp;generalize aC:yb.alloc _=bH;obtain ⟨B,aB,hb,rB,hB,hT⟩:=vi7 aC hT;rw [aB];clear aC aB hb;refine aA.out _ _ (aE.out _ hT) (fun cH=>?_)
     try simp only [PS]
     refine RDT 6 rfl (fun Kq aA=>?_);refine XRf (by rfl) _ _ (by go_simp) (xIt (t-1) (1-h) f l wd _) ?_;rw [eG.out];rintro e y6 ⟨rfl,hb⟩;refine ⟨_,rfl,?_⟩;replace rB:=rB.below hb;replace hT:=hT.trans (hb.mono hT.size);clear hb;refine aA.out _ _ (aE.out _ hT) (fun aN=>?_)
     try simp only [PS]
     refine TYT 7 (.agg #[.bool false,.int .i64 p3,.string s3]) rfl aN ?_;simp only [PS];refine RDT 8 rfl (fun Kq aA=>?_);go_simp;generalize aC:y6.alloc _=y8;obtain ⟨OB,aB,hb,rO,bQ,hT⟩:=vi7 aC hT;rw [aB];replace rB:=rB.below hb;clear aC aB hb;refine aA.out _ _ (aE.out _ hT) (fun cC=>?_)
     try simp only [PS]
     refine RDT 9 rfl (fun Kq aA=>?_);refine XRf (by rfl) _ _ (by go_simp) (jVL _ c8 _ aM [(p,s)] 1 2 (p3,s3) OB 1 _ (De.below hT) rfl rfl aY.out cI aX.out rO (by omega)) ?_;rintro e y9 ⟨⟨a4,c4,aS,aR,rfl,E4⟩,hb⟩;refine ⟨_,rfl,?_⟩;have bG:=rB.lt;replace rB:=rB.below hb;replace E4:=E4.mono (G:=fun b=>b≠B) (fun b _ k=>by omega);replace hT:=hT.trans (hb.mono hT.size);clear hb rO;refine aA.out _ _ (aE.out _ hT) (fun cE=>?_)
     try simp only [PS]
     refine kPc (rs:=[11]) (by kernel_rfl) (by simp) ?_;refine AllReadyT.last rfl (fun Kq aA=>?_);have l0:=rB.cell 0 _ rfl;have l1:=rB.cell 1 _ rfl;obtain ⟨l2,l3⟩:=rB.z2;have l4:=rB.lt;go_simp;clear l0 l1 l2 l3 l4;refine aA.out _ _ trivial (fun _=>?_)
     try simp only [PS]
     refine kgn (by kernel_rfl) ?_ _;go_wp2_with fail;go_meet;exact JdK hT hB rB E4
   case rest =>
    obtain ⟨fO,fY,c12,dU,cZ,rfl,hb,aV,cK⟩:=hcut
    rename World=>b8
    replace r3:=r3.below hb;replace r8:=r8.below hb;replace D8:=D8.below hb;replace r9:=r9.below hb;replace aW:=aW.below hb;replace aO:=aO.below hb;replace bJ:=bJ.below hb;replace hE:=hE.trans (hb.mono hE.size);clear hb;go_upto_region 24 with fail;go_cut [13] from 104 to 114 (fun yv wx=>RoY b8 wx yv 2 [(p,s),(p,s2)])
    case first =>
     have dD:=(Below.refl b8.heap.size b8).drew;have De:=D8
     have aE:Hid (∀ W,Below b8.heap.size b8 W->W.cell? ⟨B8,0,none⟩=some (.slice a8 20 c8)/\W.cell? ⟨B8,1,none⟩=some (.slice cL 1 aM)/\W.cell? ⟨B3,0,none⟩=some (.int .i64 t)/\W.cell? ⟨B9,0,none⟩=some (.int .i64 (t+1))/\W.cell? ⟨B9,1,none⟩=some (.int .i64 (1-h))/\W.cell? ⟨B9,2,none⟩=some (.int .i64 f)/\W.cell? ⟨B9,3,none⟩=some (.int .i64 l)):=hid fun W hT=>⟨(r8.below hT).cell 0 _ rfl,(r8.below hT).cell 1 _ rfl,(r3.below hT).cell 0 _ rfl,(r9.below hT).cell 0 _ rfl,(r9.below hT).cell 1 _ rfl,(r9.below hT).cell 2 _ rfl,(r9.below hT).cell 3 _ rfl⟩
     refine yO4 (11) (S:=fun w'=>w'.cell? ⟨B8,0,none⟩=some (.slice a8 20 c8)/\w'.cell? ⟨B8,1,none⟩=some (.slice cL 1 aM)/\w'.cell? ⟨B3,0,none⟩=some (.int .i64 t)/\w'.cell? ⟨B9,0,none⟩=some (.int .i64 (t+1))/\w'.cell? ⟨B9,1,none⟩=some (.int .i64 (1-h))/\w'.cell? ⟨B9,2,none⟩=some (.int .i64 f)/\w'.cell? ⟨B9,3,none⟩=some (.int .i64 l)) (by kernel_rfl) (aE.out _ dD) (fun aF=>?_);refine TYT 0 (.agg #[.slice a8 20 c8,.slice cL 1 aM]) rfl aF (TYT 1 (.pointer (some ⟨B3,0,none⟩)) rfl aF (TYT 2 (.int .i64 t) rfl aF (TYT 3 (.int .i64 p) rfl aF (TYT 4 (.agg #[.int .i64 (t+1),.int .i64 (1-h),.int .i64 f,.int .i64 l]) rfl aF (TYT 5 (.int .i64 wd) rfl aF ?_)))));simp only [PS];refine kPc (rs:=[6,10]) (by kernel_rfl) (by simp) ?_;refine AllReadyT.cons rfl (fun Kq aA=>?_) (AllReadyT.cons rfl (fun Kq aA=>?_) AllReadyT.nil)
     ·obtain ⟨yb,aD⟩:∃ y,y=b8.drew:=⟨_,rfl⟩
      rw [<-aD];have hT:Below b8.heap.size b8 yb:=by rw [aD];exact (Below.refl _ _).drew
      clear aD;refine XRf (by rfl) _ _ (by go_simp) (xIt (t+1) (1-h) f l wd _) ?_;rw [dI.out];rintro e y6 ⟨rfl,hb⟩;refine ⟨_,rfl,?_⟩;replace hT:=hT.trans (hb.mono hT.size);clear hb;refine aA.out _ _ (aE.out _ hT) (fun aH=>?_)
      try simp only [PS]
      refine TYT 7 (.agg #[.bool false,.int .i64 p,.string s2]) rfl aH ?_;simp only [PS];refine kPc (rs:=[8,10]) (by kernel_rfl) (by simp) ?_;refine AllReadyT.cons rfl (fun Kq aA=>?_) (AllReadyT.cons rfl (fun Kq aA=>?_) AllReadyT.nil)
      ·go_simp
       generalize aC:y6.alloc _=y8;obtain ⟨OB,aB,hb,rO,bQ,hT⟩:=vi7 aC hT;rw [aB];clear aC aB hb;refine aA.out _ _ (aE.out _ hT) (fun aL=>?_)
       try simp only [PS]
       refine kPc (rs:=[9,10]) (by kernel_rfl) (by simp) ?_;refine AllReadyT.cons rfl (fun Kq aA=>?_) (AllReadyT.cons rfl (fun Kq aA=>?_) AllReadyT.nil)
       ·refine XRf (by rfl) _ _ (by go_simp) (jVL _ c8 _ aM [(p,s)] 1 2 (p,s2) OB 1 _ (De.below hT) rfl rfl aY.out aI aG.out rO (by omega)) ?_
        rintro e y9 ⟨⟨a4,c4,aS,aR,rfl,E4⟩,hb⟩;refine ⟨_,rfl,?_⟩;replace hT:=hT.trans (hb.mono hT.size);clear hb rO;refine aA.out _ _ (aE.out _ hT) (fun bC=>?_)
        try simp only [PS]
        refine RDT 10 rfl (fun Kq aA=>?_);go_simp;generalize aC:y9.alloc _=bH;obtain ⟨B,aB,hb,rB,hB,hT⟩:=vi7 aC hT;rw [aB];replace E4:=(E4.mono (G:=fun b=>b≠B) (fun b hl _=>by omega)).below hb;clear aC aB hb;refine aA.out _ _ (aE.out _ hT) (fun cY=>?_)
        try simp only [PS]
        refine kPc (rs:=[11]) (by kernel_rfl) (by simp) ?_;refine AllReadyT.last rfl (fun Kq aA=>?_);have l0:=rB.cell 0 _ rfl;have l1:=rB.cell 1 _ rfl;obtain ⟨l2,l3⟩:=rB.z2;have l4:=rB.lt;go_simp;clear l0 l1 l2 l3 l4;refine aA.out _ _ trivial (fun _=>?_)
        try simp only [PS]
        refine kgn (by kernel_rfl) ?_ _;go_wp2_with fail;go_meet;exact JdK hT hB rB E4
       ·go_simp
        generalize aC:y8.alloc _=bH;obtain ⟨B,aB,hb,rB,hB,hT⟩:=vi7 aC hT;rw [aB];replace rO:=rO.below hb;clear aC aB hb;refine aA.out _ _ (aE.out _ hT) (fun cU=>?_)
        try simp only [PS]
        refine RDT 9 rfl (fun Kq aA=>?_);refine XRf (by rfl) _ _ (by go_simp) (jVL _ c8 _ aM [(p,s)] 1 2 (p,s2) OB 1 _ (De.below hT) rfl rfl aY.out aI aG.out rO (by omega)) ?_;rintro e y9 ⟨⟨a4,c4,aS,aR,rfl,E4⟩,hb⟩;refine ⟨_,rfl,?_⟩;have bG:=rB.lt;replace rB:=rB.below hb;replace E4:=E4.mono (G:=fun b=>b≠B) (fun b _ k=>by omega);replace hT:=hT.trans (hb.mono hT.size);clear hb rO;refine aA.out _ _ (aE.out _ hT) (fun cQ=>?_)
        try simp only [PS]
        refine kPc (rs:=[11]) (by kernel_rfl) (by simp) ?_;refine AllReadyT.last rfl (fun Kq aA=>?_);have l0:=rB.cell 0 _ rfl;have l1:=rB.cell 1 _ rfl;obtain ⟨l2,l3⟩:=rB.z2;have l4:=rB.lt;go_simp;clear l0 l1 l2 l3 l4;refine aA.out _ _ trivial (fun _=>?_)
        try simp only [PS]
        refine kgn (by kernel_rfl) ?_ _;go_wp2_with fail;go_meet;exact JdK hT hB rB E4
      ·go_simp
       generalize aC:y6.alloc _=bH;obtain ⟨B,aB,hb,rB,hB,hT⟩:=vi7 aC hT;rw [aB];clear aC aB hb;refine aA.out _ _ (aE.out _ hT) (fun cS=>?_)
       try simp only [PS]
       refine RDT 8 rfl (fun Kq aA=>?_);go_simp;generalize aC:bH.alloc _=y8;obtain ⟨OB,aB,hb,rO,bQ,hT⟩:=vi7 aC hT;rw [aB];replace rB:=rB.below hb;clear aC aB hb;refine aA.out _ _ (aE.out _ hT) (fun bW=>?_)
       try simp only [PS]
       refine RDT 9 rfl (fun Kq aA=>?_);refine XRf (by rfl) _ _ (by go_simp) (jVL _ c8 _ aM [(p,s)] 1 2 (p,s2) OB 1 _ (De.below hT) rfl rfl aY.out aI aG.out rO (by omega)) ?_;rintro e y9 ⟨⟨a4,c4,aS,aR,rfl,E4⟩,hb⟩;refine ⟨_,rfl,?_⟩;have bG:=rB.lt;replace rB:=rB.below hb;replace E4:=E4.mono (G:=fun b=>b≠B) (fun b _ k=>by omega);replace hT:=hT.trans (hb.mono hT.size);clear hb rO;refine aA.out _ _ (aE.out _ hT) (fun bV=>?_)
       try simp only [PS]
       refine kPc (rs:=[11]) (by kernel_rfl) (by simp) ?_;refine AllReadyT.last rfl (fun Kq aA=>?_);have l0:=rB.cell 0 _ rfl;have l1:=rB.cell 1 _ rfl;obtain ⟨l2,l3⟩:=rB.z2;have l4:=rB.lt;go_simp;clear l0 l1 l2 l3 l4;refine aA.out _ _ trivial (fun _=>?_)
       try simp only [PS]
       refine kgn (by kernel_rfl) ?_ _;go_wp2_with fail;go_meet;exact JdK hT hB rB E4
     ·obtain ⟨yb,aD⟩:∃ y,y=b8.drew:=⟨_,rfl⟩
      rw [<-aD];have hT:Below b8.heap.size b8 yb:=by rw [aD];exact (Below.refl _ _).drew
      clear aD;go_simp;generalize aC:yb.alloc _=bH;obtain ⟨B,aB,hb,rB,hB,hT⟩:=vi7 aC hT;rw [aB];clear aC aB hb;refine aA.out _ _ (aE.out _ hT) (fun cH=>?_)
      try simp only [PS]
      refine RDT 6 rfl (fun Kq aA=>?_);refine XRf (by rfl) _ _ (by go_simp) (xIt (t+1) (1-h) f l wd _) ?_;rw [dI.out];rintro e y6 ⟨rfl,hb⟩;refine ⟨_,rfl,?_⟩;replace rB:=rB.below hb;replace hT:=hT.trans (hb.mono hT.size);clear hb;refine aA.out _ _ (aE.out _ hT) (fun aN=>?_)
      try simp only [PS]
      refine TYT 7 (.agg #[.bool false,.int .i64 p,.string s2]) rfl aN ?_;simp only [PS];refine RDT 8 rfl (fun Kq aA=>?_);go_simp;generalize aC:y6.alloc _=y8;obtain ⟨OB,aB,hb,rO,bQ,hT⟩:=vi7 aC hT;rw [aB];replace rB:=rB.below hb;clear aC aB hb;refine aA.out _ _ (aE.out _ hT) (fun cC=>?_)
      try simp only [PS]
      refine RDT 9 rfl (fun Kq aA=>?_);refine XRf (by rfl) _ _ (by go_simp) (jVL _ c8 _ aM [(p,s)] 1 2 (p,s2) OB 1 _ (De.below hT) rfl rfl aY.out aI aG.out rO (by omega)) ?_;rintro e y9 ⟨⟨a4,c4,aS,aR,rfl,E4⟩,hb⟩;refine ⟨_,rfl,?_⟩;have bG:=rB.lt;replace rB:=rB.below hb;replace E4:=E4.mono (G:=fun b=>b≠B) (fun b _ k=>by omega);replace hT:=hT.trans (hb.mono hT.size);clear hb rO;refine aA.out _ _ (aE.out _ hT) (fun cE=>?_)
      try simp only [PS]
      refine kPc (rs:=[11]) (by kernel_rfl) (by simp) ?_;refine AllReadyT.last rfl (fun Kq aA=>?_);have l0:=rB.cell 0 _ rfl;have l1:=rB.cell 1 _ rfl;obtain ⟨l2,l3⟩:=rB.z2;have l4:=rB.lt;go_simp;clear l0 l1 l2 l3 l4;refine aA.out _ _ trivial (fun _=>?_)
      try simp only [PS]
      refine kgn (by kernel_rfl) ?_ _;go_wp2_with fail;go_meet;exact JdK hT hB rB E4
    case rest =>
     obtain ⟨eS,eZ,eF,dQ,dH,rfl,hb,aZ,cN⟩:=hcut
     rename World=>bZ
     replace r3:=r3.below hb;replace r8:=r8.below hb;replace D8:=D8.below hb;replace r9:=r9.below hb;replace aW:=aW.below hb;replace aO:=aO.below hb;replace bJ:=bJ.below hb;replace aV:=aV.below hb;replace cK:=cK.below hb;replace hE:=hE.trans (hb.mono hE.size);clear hb;go_upto_region 25 with fail;have dD:=(Below.refl bZ.heap.size bZ).drew;refine wp_region_held_drew (S:=fun w'=>w'.cell? ⟨fT,0,none⟩=some (.slice fZ 20 dY)/\w'.cell? ⟨fT,1,none⟩=some (.slice dL 2 cT)/\w'.cell? ⟨fO,0,none⟩=some (.slice fY 20 c12)/\w'.cell? ⟨fO,1,none⟩=some (.slice dU 2 cZ)/\w'.cell? ⟨eS,0,none⟩=some (.slice eZ 20 eF)/\w'.cell? ⟨eS,1,none⟩=some (.slice dQ 2 dH)/\w'.cell? ⟨B9,0,none⟩=some (.int .i64 (t+1))/\w'.cell? ⟨B9,1,none⟩=some (.int .i64 (1-h))/\w'.cell? ⟨B9,2,none⟩=some (.int .i64 f)/\w'.cell? ⟨B9,3,none⟩=some (.int .i64 l)/\w'.cell? ⟨B3,0,none⟩=some (.int .i64 t)/\w'.cell? ⟨B3,1,none⟩=some (.int .i64 h)/\w'.cell? ⟨B3,2,none⟩=some (.int .i64 f)/\w'.cell? ⟨B3,3,none⟩=some (.int .i64 l)) (by kernel_rfl) (⟨(aO.below dD).cell 0 _ rfl,(aO.below dD).cell 1 _ rfl,(aV.below dD).cell 0 _ rfl,(aV.below dD).cell 1 _ rfl,(aZ.below dD).cell 0 _ rfl,(aZ.below dD).cell 1 _ rfl,(r9.below dD).cell 0 _ rfl,(r9.below dD).cell 1 _ rfl,(r9.below dD).cell 2 _ rfl,(r9.below dD).cell 3 _ rfl,(r3.below dD).cell 0 _ rfl,(r3.below dD).cell 1 _ rfl,(r3.below dD).cell 2 _ rfl,(r3.below dD).cell 3 _ rfl⟩) (fun aF=>?_)
     refine TY 0 (.agg #[.slice fZ 20 dY,.slice dL 2 cT]) rfl aF (TY 1 (.int .i64 wd) rfl aF (TY 3 (.agg #[.int .i64 (t+1),.int .i64 (1-h),.int .i64 f,.int .i64 l]) rfl aF ?_));simp only [PS];refine RD 2 rfl (fun Kq aA=>?_);obtain ⟨yb,aD⟩:∃ y,y=bZ.drew:=⟨_,rfl⟩;rw [<-aD];have hb:Below bZ.heap.size bZ yb:=by rw [aD];exact (Below.refl _ _).drew
     clear aD;replace r3:=r3.below hb;replace r8:=r8.below hb;replace D8:=D8.below hb;replace r9:=r9.below hb;replace aW:=aW.below hb;replace aO:=aO.below hb;replace bJ:=bJ.below hb;replace aV:=aV.below hb;replace cK:=cK.below hb;replace aZ:=aZ.below hb;replace cN:=cN.below hb;replace hE:=hE.trans (hb.mono hE.size);clear hb;refine XRf (by rfl) _ _ (by go_simp) (qwi _ dY _ cT [(p,s),(p2,s2)] 2 wd (t+1,1-h,f,l) _ bJ rfl eC.out.1 HF.out.1 ty gv (HG.out _ hE)) ?_;rintro e z2 ⟨rfl,hb⟩;refine ⟨_,rfl,?_⟩;replace r3:=r3.below hb;replace r8:=r8.below hb;replace D8:=D8.below hb;replace r9:=r9.below hb;replace aW:=aW.below hb;replace aO:=aO.below hb;replace bJ:=bJ.below hb;replace aV:=aV.below hb;replace cK:=cK.below hb;replace aZ:=aZ.below hb;replace cN:=cN.below hb;replace hE:=hE.trans (hb.mono hE.size);clear hb;refine aA.out _ _ (⟨aO.cell 0 _ rfl,aO.cell 1 _ rfl,aV.cell 0 _ rfl,aV.cell 1 _ rfl,aZ.cell 0 _ rfl,aZ.cell 1 _ rfl,r9.cell 0 _ rfl,r9.cell 1 _ rfl,r9.cell 2 _ rfl,r9.cell 3 _ rfl,r3.cell 0 _ rfl,r3.cell 1 _ rfl,r3.cell 2 _ rfl,r3.cell 3 _ rfl⟩) (fun aH=>?_)
     try simp only [PS]
     refine TY 4 (.bool true) rfl aH (TY 5 (.bool true) rfl aH (TY 6 (.agg #[.slice fY 20 c12,.slice dU 2 cZ]) rfl aH (TY 7 (.int .i64 wd) rfl aH (TY 9 (.agg #[.int .i64 t,.int .i64 h,.int .i64 f,.int .i64 l]) rfl aH ?_))));simp only [PS];refine RD 8 rfl (fun Kq aA=>?_);refine yL8 (by kernel_rfl) _ _ (by go_simp) (qwi _ c12 _ cZ [(p,s),(p3,s3)] 2 wd (t,h,f,l) _ cK rfl eC.out.2.1 HF.out.2.1 ty gv (HG.out _ hE)) ?_;rintro e z8 ⟨rfl,hb⟩;refine ⟨_,rfl,?_⟩;replace r3:=r3.below hb;replace r8:=r8.below hb;replace D8:=D8.below hb;replace r9:=r9.below hb;replace aW:=aW.below hb;replace aO:=aO.below hb;replace bJ:=bJ.below hb;replace aV:=aV.below hb;replace cK:=cK.below hb;replace aZ:=aZ.below hb;replace cN:=cN.below hb;replace hE:=hE.trans (hb.mono hE.size);clear hb;refine aA.out _ _ (⟨aO.cell 0 _ rfl,aO.cell 1 _ rfl,aV.cell 0 _ rfl,aV.cell 1 _ rfl,aZ.cell 0 _ rfl,aZ.cell 1 _ rfl,r9.cell 0 _ rfl,r9.cell 1 _ rfl,r9.cell 2 _ rfl,r9.cell 3 _ rfl,r3.cell 0 _ rfl,r3.cell 1 _ rfl,r3.cell 2 _ rfl,r3.cell 3 _ rfl⟩) (fun aL=>?_)
     try simp only [PS]
     refine TY 10 (.bool true) rfl aL (TY 11 (.bool true) rfl aL (TY 12 (.bool true) rfl aL (TY 13 (.agg #[.slice eZ 20 eF,.slice dQ 2 dH]) rfl aL (TY 14 (.int .i64 wd) rfl aL (TY 16 (.agg #[.int .i64 0,.int .i64 0,.int .i64 1,.int .i64 0]) rfl aL ?_)))));simp only [PS];refine RD 15 rfl (fun Kq aA=>?_);refine yL8 (by kernel_rfl) _ _ (by go_simp) (qwi _ eF _ dH [(p,s),(p,s2)] 2 wd (0,0,1,0) _ cN rfl eC.out.2.2 HF.out.2.2 ty gv (HG.out _ hE)) ?_;rintro e gP ⟨rfl,hb⟩;refine ⟨_,rfl,?_⟩;replace r3:=r3.below hb;replace r8:=r8.below hb;replace D8:=D8.below hb;replace r9:=r9.below hb;replace aW:=aW.below hb;replace aO:=aO.below hb;replace bJ:=bJ.below hb;replace aV:=aV.below hb;replace cK:=cK.below hb;replace aZ:=aZ.below hb;replace cN:=cN.below hb;replace hE:=hE.trans (hb.mono hE.size);clear hb;refine aA.out _ _ (⟨aO.cell 0 _ rfl,aO.cell 1 _ rfl,aV.cell 0 _ rfl,aV.cell 1 _ rfl,aZ.cell 0 _ rfl,aZ.cell 1 _ rfl,r9.cell 0 _ rfl,r9.cell 1 _ rfl,r9.cell 2 _ rfl,r9.cell 3 _ rfl,r3.cell 0 _ rfl,r3.cell 1 _ rfl,r3.cell 2 _ rfl,r3.cell 3 _ rfl⟩) (fun bC=>?_)
     try simp only [PS]
     refine TY 17 (.bool true) rfl bC (TY 18 (.bool true) rfl bC (TY 19 (.bool true) rfl bC ?_));simp only [PS];refine DN ?_;go_wp2;go_ret;exact ⟨rfl,hE⟩
end Go.Proofs.YtcdojnnkjeakmaaGreatDoor
