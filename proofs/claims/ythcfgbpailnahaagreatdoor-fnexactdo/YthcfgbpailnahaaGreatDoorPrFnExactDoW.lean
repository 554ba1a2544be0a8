import Derived.OpenShut
import Derived.ShutString
import Derived.OpenVars
import Derived.LaidLaws
import Derived.LaidHandle
import Derived.Deep.DeepHandedRow
import Derived.Test.YthcfgbpailnahaaGreatDoorCards
import Derived.Test.YthcfgbpailnahaaGreatDoorTie
import Derived.Test.YthcfgbpailnahaaGreatDoorPrG23
set_option maxHeartbeats 32000000
namespace Go.Proofs.YthcfgbpailnahaaGreatDoor.fnExactDo
open _root_.Go.Proofs.Tryz
open Go.ChangeShapes Go.WideShapes Go.ChangeAt Go.RowKit Go.Joins
open Go.ChangeMaps (open_string shut_string)
set_option linter.all false
set_option maxRecDepth 8000
theorem own:ownKnob prog.godebug=none:=by kernel_rfl
theorem laidOut:laidOutB prog=true:=by kernel_rfl
theorem gEt:prog.globalNamed "errors.errorType"=some 0:=by kernel_rfl
theorem gEn:prog.globalNamed "loop.example/kilnstone/impl.errNoPage"=some 1:=by kernel_rfl
theorem gEnT:(prog.globals[1]?).map (·.type)=some 223:=by kernel_rfl
theorem rt:(prog.cutTypes.find? (·.1 == "internal/reflectlite.rtype")).map (·.2)=some 318:=by kernel_rfl
theorem oneRow:((List.range prog.types.size).filter λt=>prog.rowNamed t [101,114,114,111,114])=[223]:=by kernel_rfl
theorem of_laid{W:World}(h:laidMetH prog Rows.fnExactDoRow.laid W):W.cell? ⟨0,0,none⟩=some (.iface 318 (.agg #[.pointer (some ⟨3,223,none⟩)]))/\(∃ty v,W.cell? ⟨1,0,none⟩=some (.iface ty v))/\1<W.heap.size:=by
 have h':laidMet prog [("loop.example/kilnstone/impl.errNoPage",Rows.laid_loop_example_kilnstone_impl_errNoPage)] W/\handlesMet prog [("errors.errorType",Rows.laid_errors_errorType)] W:=h
 obtain⟨aA,u,ty,e1,e2,e3,e4,e5⟩:=h'.2 _ (EH.2 rfl);have en:aA=[101,114,114,111,114]:=(DA e1).symm;subst en;obtain rfl:=DA (rt.symm.j e2)
 have hm:ty∈(List.range prog.types.size).filter λt=>prog.rowNamed t [101,114,114,111,114]:=List.mem_filter.2 ⟨GS.2 e3,e4⟩
 rw[oneRow]at hm;obtain rfl:=EH.1 hm;have hh:typeHandle prog 223=.pointer (some ⟨3,223,none⟩):=by kernel_rfl
 rw[hh]at e5;obtain⟨ps,⟨g0,t0,aD,f0,p0,q0,aF,aG,aH,aE,_,_⟩,_,_⟩:=h'.1;obtain rfl:=DA (gEn.symm.j aF);obtain rfl:=DA (gEnT.symm.j aG);obtain⟨l0⟩:=aD;obtain⟨_,u,v,aC,_,_⟩:=iface_of_trod underlying223 aE
 have aB:W.cell? ⟨1,0,none⟩=some (.iface u v):=by
  have:=World.var?_cell gEn aH 0;simp at aC;subst aC;simpa using this
 refine⟨by simpa using World.var?_cell gEt e5 0,⟨u,v,aB⟩,?_⟩;rcases GN 1 W.heap.size with hl|hl
 ·exact hl
 exfalso
 have:W.heap[1]?=none:=DW hl;simp[World.cell?,this]at aB
theorem dep_ownw{x:Wo}{w:World}{base g1 g2 g3 g4 g5:Nat}{gs:Nat->Nat}(h:OwnW x w base g1 g2 g3 g4 g5 gs):Dep w base w.heap.size (λW=>OwnW x W base g1 g2 g3 g4 g5 gs) :=⟨h,AA _,λw' k1 k2=>by
  have b1:=h.b1;have b2:=h.b2;have o13:=h.o13;have o34:=h.o34;have o45:=h.o45
  have row:∀ {g:Nat} {cs:List Value},Row w g cs->base<=g->Row w' g cs:=λhr hb=>QW hr (k1 _ hb hr.lt) (AD hr.lt k2)
  exact⟨row h.r1 b1,row h.r2 b2,row h.r3 (by omega),⟨row h.r4.row (by omega),λi hi=>⟨row (h.r4.st i hi).1 (by have:=(h.r4.st i hi).2;omega),(h.r4.st i hi).2⟩,h.r4.asc⟩,row h.r5 (by omega),h.b1,h.b2,h.n12,h.o13,h.o23,h.o34,h.o45,h.ogs⟩⟩
def DoZ(w0 v:World)(Y:Wo)(zv:Value):Prop:=∃(q:Wp) (o:Nat->Nat) (lo hi B:Nat),zv=.pointer (some ⟨B,0,none⟩)/\Row v B (wL Y q)/\w0.heap.size<=B/\Dep v lo hi (λW=>OO Y W q o)/\(∀b,o b≠0->lo<=b/\b<hi)/\w0.heap.size<=lo/\lo<=hi/\(B<lo\/hi<=B)/\Below w0.heap.size w0 v
@[reducible] def wNz(x:Wo)(a b c d e:Nat):Array Value:=#[.int .i64 x.w,.slice (some ⟨a,0,none⟩) x.ss.length x.ss.length,.slice (some ⟨b,0,none⟩) x.ws.length x.ws.length,.bool x.up,.int .i64 x.W,.int .i64 x.S,.int .i64 x.L,.int .i64 x.T,.int .i64 x.H,.int .i64 x.F,.int .i64 x.R,.int .i64 x.U,.int .i64 x.O,.slice (some ⟨c,0,none⟩) x.rs.length x.rs.length,.slice (some ⟨d,0,none⟩) x.P.length x.P.length,.slice (some ⟨e,0,none⟩) x.ts.length x.ts.length]
@[reducible] def wMz(x:Wo)(a b c d e:Nat):List Value:=[.int .i64 x.w,.slice (some ⟨a,0,none⟩) x.ss.length x.ss.length,.slice (some ⟨b,0,none⟩) x.ws.length x.ws.length,.bool x.up,.int .i64 x.W,.int .i64 x.S,.int .i64 x.L,.int .i64 x.T,.int .i64 x.H,.int .i64 x.F,.int .i64 x.R,.int .i64 x.U,.int .i64 x.O,.slice (some ⟨c,0,none⟩) x.rs.length x.rs.length,.slice (some ⟨d,0,none⟩) x.P.length x.P.length,.slice (some ⟨e,0,none⟩) x.ts.length x.ts.length]
theorem info_lwD:(prog.info? 35).map (·.size)=some 16:=by kernel_rfl
theorem info_leD:(prog.info? 39).map (·.size)=some 4:=by kernel_rfl
set_option maxRecDepth 100000 in
theorem walk(x:Wo)(q:Wp)(e:Ev)(a:Option Addr)(c:Nat)(f:Option Addr)(d:Nat)(w:World)(h:x.at w q)(hx:x.le maxLen)(eZ:Chs w a e.b)(hi:Ints w f e.fs)(mL:e.b.length<=maxLen)(mM:∀s∈e.b,s.1.size<=maxLen/\s.2.1.size<=maxLen)(mQ:e.fs.length<=maxLen)(hL:laidMetH prog Rows.fnExactDoRow.laid w):Calls prog 3 #[MD x q,MK e a c f d] w λr w'=>r=.returned (.bool true)/\Below w.heap.size w w':=by
 obtain⟨mR,⟨ty,gv,mU⟩,lC⟩:=of_laid hL;have jW:=LE (λw' k=>vF x q w' k hx);obtain⟨R,HR⟩:∃R,Hid (R=LO (QV x) 1048576):=⟨_,LE rfl⟩;rw[<-HR.o]at jW;unfold MD at jW⊢;unfold MK;go_enter func3,ntmps3;go_wp2_with fail;have hE:Below w.heap.size w w:=AB _ _;generalize jC:w.alloc _=v1;obtain⟨hb,kS,bA⟩:=LJ jC;clear jC;replace hE:=hE.j (hb.i hE.size);clear hb;generalize jD:v1.alloc _=v2;obtain⟨hb,kT,bB⟩:=LJ jD;clear jD;rw[kS]at bB kT;replace bA:=bA.I hb;replace hE:=hE.j (hb.i hE.size);clear hb;refine(jW.o _ (h.I hE)).i ?_;rintro rz v3 ⟨rfl,hb⟩;have mX:v2.heap.size<=v3.heap.size:=hb.size;replace bA:=bA.I hb;replace bB:=bB.I hb;replace hE:=hE.j (hb.i hE.size);clear hb;obtain⟨gN,gQ,gR,gS,gU,gV,gW,gX,gY,gZ,fA,fB,fC,fE,fF,fG,iA⟩:=c16 bA.l;obtain⟨iB,iC,iD,iE⟩:=bB.l.k4;have iF:=bB.l.lt
 by_cases hR:R<0
 ·go_wp2
  go_ret;exact⟨rfl,hE⟩
 have k9:0<=R:=by omega
 have hm:x.le 1048576:=Bm x (by rw[<-HR.o];omega);have kB:NL x.P<=1048576:=Ex x (by rw[<-HR.o];omega);have lA:R<=1048576:=by have:=RV (QV x) 1048576 (by omega);rw[<-HR.o]at this;omega
 have jV:=LE (λw' k=>tU e a c f d R w' k k9 lA mL mM mQ);obtain⟨R2,jZ⟩:∃y,Hid (y=LO (TR e) R):=⟨_,LE rfl⟩;rw[<-jZ.o]at jV;unfold MK at jV;go_wp2_with fail;clear gN gQ gR gS gU gV gW gX gY gZ fA fB fC fE fF fG iA iB iC iD iE iF;refine(jV.o _ (eZ.I hE)).i ?_;rintro rz v4 ⟨rfl,hb⟩;have mY:v3.heap.size<=v4.heap.size:=hb.size;replace bA:=bA.I hb;replace bB:=bB.I hb;replace hE:=hE.j (hb.i hE.size);clear hb
 by_cases nC:R2<0
 ·clear bA bB
  go_wp2;go_ret;exact⟨rfl,hE⟩
 have eI:e.le:=wI k9 lA (by rw[<-jZ.o];omega);obtain⟨Y,HY⟩:∃y,Hid (y=x.doR e):=⟨_,LE rfl⟩;have hY:=wQ x e;rw[<-HY.o]at hY;have gF:=LE (λw' k=>Eg x q w' k hm);have eY:=LE (λw' k1 k2=>sO e a c f d w' k1 k2 eI.b.1 eI.f);have kY:=LE (λq1 q2 w' k1 k2=>pB x q1 q2 w' k1 k2 hm);have kX:=LE (λa1 c1 f1 d1 a2 c2 f2 d2 w' k1 k2 k3 k4=>Ii e a1 c1 f1 d1 a2 c2 f2 d2 w' k1 k2 k3 k4 eI.b.1 eI.f);have jT:=LE (λq1 q2 w' k1 k2=>pB Y q1 q2 w' k1 k2 hY.1);have fZ:=LE (λq1 a1 c1 f1 d1 w' k1 k2 k3=>Ft x q1 e a1 c1 f1 d1 w' k1 hm k2 k3 eI);have eX:=LE (λq1 a1 c1 f1 d1 w' k1 (hc:x.rs.length<=q1.cs) k2 k3 (hb:Below w.heap.size w w')=>xS x q1 e a1 c1 f1 d1 w' k1 hc hm k2 k3 eI ty gv ((hb.cell (p:=⟨1,0,none⟩) lC).j mU) ((hb.cell (p:=⟨0,0,none⟩) (by show 0<_;omega)).j mR) (AD lC hb.size));rw[<-HY.o]at fZ eX;unfold dq at fZ eX;have jY:=LE (λq1 o w' k k2=>pZ x q1 o w' k k2 hm kB)
 obtain⟨KX,k7⟩:∃k:Nat,Hid (k=wk4 x):=⟨_,LE rfl⟩;have mJ:=Gy hm kB;rw[<-k7.o]at jY mJ;have k8:=LE (λlo hi g1 g2 w' k hh hw=>Il e lo hi g1 g2 KX w' k hh (by omega) (by have:=eI.b.1;have:=eI.f;omega) hw);have jX:=LE (λq1 o w' k k2=>pZ Y q1 o w' k k2 hY.1 hY.2);have jU:=LE (λq1 o w' k=>Id Y q1 o w' k hY.1 hY.2);have nE:e.b.length<=1048576/\e.fs.length<=1048576:=⟨eI.b.1,eI.f⟩;obtain⟨KK,kZ⟩:∃k:Nat,Hid (k=wk4 Y):=⟨_,LE rfl⟩;rw[<-kZ.o]at jX jU;have nB:(0:Int)<=(KK:Int):=by omega
 unfold MD at gF kY jT fZ eX jY jX jU;unfold MK at eY kX fZ eX k8;clear HY hY kB hm eI jV jZ jW k7 kZ;go_upto_region 8 with fail
 iterate 4(generalize Value.agg _=A9)
 go_cut [6] from 24 to 28 (λzv wx=>DoZ v4 wx Y zv)
 case first =>
  have aP:=(AB v4.heap.size v4).drew;have mH:=hE;have HK:=AB v4.heap.size v4;replace bA:=bA.I aP;replace bB:=bB.I aP;replace hE:=hE.j (aP.i hE.size);replace HK:=HK.j aP
  refine UV (6) (S:=λw'=>Row w' w.heap.size (wL x q)/\Row w' (w.heap.size+1) [.int .i64 e.K,.slice a e.b.length c,.int .i64 e.cut,.slice f e.fs.length d]) (by kernel_rfl) (⟨bA.l,bB.l⟩) (λeB=>?_);refine MY 0 (.agg (wA x q)) rfl (BN ⟨by rfl,λw hw=>by obtain⟨z0,z1⟩:=hw;exact OP 35 _ rfl _ 0 rfl _ _ z0.range underlying35 rfl info_lwD⟩) eB (MY 2 (.agg #[.int .i64 e.K,.slice a e.b.length c,.int .i64 e.cut,.slice f e.fs.length d]) rfl (BN ⟨by rfl,λw hw=>by obtain⟨z0,z1⟩:=hw;exact OP 39 _ rfl _ 0 rfl _ _ z1.range underlying39 rfl info_leD⟩) eB ?_);simp only[PS];refine PD (rs:=[1,5]) (by kernel_rfl) (by simp) ?_;refine AllReadyT.cons rfl (λKq aA=>?_) (AllReadyT.cons rfl (λKq aA=>?_) AllReadyT.nil)
  focus
   generalize aQ:v4.drew=cY at bA bB hE HK⊢;have i8:v4.heap.size<=cY.heap.size:=by rw[<-aQ];exact aP.size
   clear aQ aP;refine LK (by rfl) 7 #[.agg (wA x q)] (by go_simp) (gF.o _ (h.I hE)) ?_;rintro r cA ⟨aG,aI,aK,aM,aO,dB,rfl,cM,hb⟩;refine⟨_,rfl,?_⟩;have jA:cY.heap.size<=cA.heap.size:=hb.size;replace bA:=bA.I hb;replace bB:=bB.I hb;replace hE:=hE.j (hb.i hE.size);replace HK:=HK.j (hb.i HK.size);have bW:Dep cA cY.heap.size cA.heap.size (λW=>OwnW x W cY.heap.size aG aI aK aM aO dB):=dep_ownw cM;clear hb cM;refine aA.o _ _ (⟨bA.l,bB.l⟩) (λeG=>?_)
   try simp only[PS]
   refine PD (rs:=[3,5]) (by kernel_rfl) (by simp) ?_;refine AllReadyT.cons rfl (λKq aA=>?_) (AllReadyT.cons rfl (λKq aA=>?_) AllReadyT.nil)
   focus
    refine LK (by rfl) 8 #[.agg #[.int .i64 e.K,.slice a e.b.length c,.int .i64 e.cut,.slice f e.fs.length d]] (by go_simp) (eY.o _ (eZ.I hE) (hi.I hE)) ?_;rintro r bF ⟨bQ,bU,rfl,aY,hb⟩;refine⟨_,rfl,?_⟩;have eV:cA.heap.size<=bF.heap.size:=hb.size;replace bA:=bA.I hb;replace bB:=bB.I hb;replace bW:=bW.I hb;replace hE:=hE.j (hb.i hE.size);replace HK:=HK.j (hb.i HK.size);have cC:=aY.dep;clear hb aY;refine aA.o _ _ (⟨bA.l,bB.l⟩) (λdF=>?_)
    try simp only[PS]
    refine PD (rs:=[4,5]) (by kernel_rfl) (by simp) ?_;refine AllReadyT.cons rfl (λKq aA=>?_) (AllReadyT.cons rfl (λKq aA=>?_) AllReadyT.nil)
    focus
     obtain⟨aS,cJ⟩:∃y,y=bF.heap.size:=⟨_,rfl⟩;refine LK (by rfl) 6 #[.agg (wNz x aG aI aK aM aO),.agg #[.int .i64 e.K,.slice (some ⟨bQ,0,none⟩) e.b.length e.b.length,.int .i64 e.cut,.slice (some ⟨bU,0,none⟩) e.fs.length e.fs.length]] (by go_simp) (fZ.o (SC x aG aI aK aM aO) _ _ _ _ _ bW.l.at cC.l.r1.chs cC.l.r2.ints) ?_;rintro r aW ⟨cN,eO,rfl,bC,aU,hb⟩;refine⟨_,rfl,?_⟩;obtain⟨aE,cH⟩:∃y,y=aW.heap.size:=⟨_,rfl⟩;have dL:bF.heap.size<=aW.heap.size:=hb.size;replace bA:=bA.I hb;replace bB:=bB.I hb;replace bW:=bW.I hb;replace cC:=cC.I hb;replace hE:=hE.j (hb.i hE.size);replace HK:=HK.j (hb.i HK.size);have zd:=WB bC aU;rw[<-cJ,<-cH]at zd aU;have eK:aS<=aE/\aE<=aW.heap.size:=by omega
     clear hb bC bW cC;refine aA.o _ _ (⟨bA.l,bB.l⟩) (λj7=>?_)
     try simp only[PS]
     refine ND 5 rfl (λKq aA=>?_);go_simp;generalize aQ:aW.alloc _=bJ;obtain⟨hb,dQ,bZ⟩:=LJ aQ;obtain⟨aB,cE⟩:∃y,y=aW.heap.size:=⟨_,rfl⟩;rw[<-cE]at bZ⊢;have dN:aW.heap.size<=bJ.heap.size:=hb.size;replace bA:=bA.I hb;replace bB:=bB.I hb;replace zd:=zd.I hb;replace hE:=hE.j (hb.i hE.size);replace HK:=HK.j (hb.i HK.size);have cP:aB<bJ.heap.size:=bZ.l.lt;have eT:w.heap.size+1<aB:=by have:=bB.l.lt;omega
     have dU:∀y:Nat,y<=v4.heap.size->y<=aB:=λy h=>by omega
     have eM:aB<aS\/aE<=aB:=.inr (by omega);clear hb aQ cE dQ;refine aA.o _ _ (⟨bA.l,bB.l⟩) (λgH=>?_)
     try simp only[PS]
     have gG:=cP;have gK:=gH
    rotate_left
    focus
     go_simp;generalize aQ:bF.alloc _=aW;obtain⟨hb,dQ,bZ⟩:=LJ aQ;obtain⟨aB,cE⟩:∃y,y=bF.heap.size:=⟨_,rfl⟩;rw[<-cE]at bZ⊢;have dL:bF.heap.size<=aW.heap.size:=hb.size;replace bA:=bA.I hb;replace bB:=bB.I hb;replace bW:=bW.I hb;replace cC:=cC.I hb;replace hE:=hE.j (hb.i hE.size);replace HK:=HK.j (hb.i HK.size);have cP:aB<aW.heap.size:=bZ.l.lt;have eT:w.heap.size+1<aB:=by have:=bB.l.lt;omega
     have dU:∀y:Nat,y<=v4.heap.size->y<=aB:=λy h=>by omega
     clear hb aQ cE dQ;refine aA.o _ _ (⟨bA.l,bB.l⟩) (λj8=>?_)
     try simp only[PS]
     refine ND 4 rfl (λKq aA=>?_);obtain⟨aS,cJ⟩:∃y,y=aW.heap.size:=⟨_,rfl⟩;refine LK (by rfl) 6 #[.agg (wNz x aG aI aK aM aO),.agg #[.int .i64 e.K,.slice (some ⟨bQ,0,none⟩) e.b.length e.b.length,.int .i64 e.cut,.slice (some ⟨bU,0,none⟩) e.fs.length e.fs.length]] (by go_simp) (fZ.o (SC x aG aI aK aM aO) _ _ _ _ _ bW.l.at cC.l.r1.chs cC.l.r2.ints) ?_;rintro r bJ ⟨cN,eO,rfl,bC,aU,hb⟩;refine⟨_,rfl,?_⟩;obtain⟨aE,cH⟩:∃y,y=bJ.heap.size:=⟨_,rfl⟩;have dN:aW.heap.size<=bJ.heap.size:=hb.size;replace bA:=bA.I hb;replace bB:=bB.I hb;replace bW:=bW.I hb;replace cC:=cC.I hb;replace bZ:=bZ.I hb;replace hE:=hE.j (hb.i hE.size);replace HK:=HK.j (hb.i HK.size);have zd:=WB bC aU;rw[<-cJ,<-cH]at zd aU;have eK:aS<=aE/\aE<=bJ.heap.size:=by omega
     clear hb bC bW cC;have eM:aB<aS\/aE<=aB:=.inl (by omega);refine aA.o _ _ (⟨bA.l,bB.l⟩) (λgI=>?_)
     try simp only[PS]
     have gG:=cP;have gK:=gI
   rotate_left 2
   focus
    go_simp;generalize aQ:cA.alloc _=bF;obtain⟨hb,dQ,bZ⟩:=LJ aQ;obtain⟨aB,cE⟩:∃y,y=cA.heap.size:=⟨_,rfl⟩;rw[<-cE]at bZ⊢;have eV:cA.heap.size<=bF.heap.size:=hb.size;replace bA:=bA.I hb;replace bB:=bB.I hb;replace bW:=bW.I hb;replace hE:=hE.j (hb.i hE.size);replace HK:=HK.j (hb.i HK.size);have cP:aB<bF.heap.size:=bZ.l.lt;have eT:w.heap.size+1<aB:=by have:=bB.l.lt;omega
    have dU:∀y:Nat,y<=v4.heap.size->y<=aB:=λy h=>by omega
    clear hb aQ cE dQ;refine aA.o _ _ (⟨bA.l,bB.l⟩) (λj9=>?_)
    try simp only[PS]
    refine ND 3 rfl (λKq aA=>?_);refine LK (by rfl) 8 #[.agg #[.int .i64 e.K,.slice a e.b.length c,.int .i64 e.cut,.slice f e.fs.length d]] (by go_simp) (eY.o _ (eZ.I hE) (hi.I hE)) ?_;rintro r aW ⟨bQ,bU,rfl,aY,hb⟩;refine⟨_,rfl,?_⟩;have dL:bF.heap.size<=aW.heap.size:=hb.size;replace bA:=bA.I hb;replace bB:=bB.I hb;replace bW:=bW.I hb;replace bZ:=bZ.I hb;replace hE:=hE.j (hb.i hE.size);replace HK:=HK.j (hb.i HK.size);have cC:=aY.dep;clear hb aY;refine aA.o _ _ (⟨bA.l,bB.l⟩) (λkA=>?_)
    try simp only[PS]
    refine ND 4 rfl (λKq aA=>?_);obtain⟨aS,cJ⟩:∃y,y=aW.heap.size:=⟨_,rfl⟩;refine LK (by rfl) 6 #[.agg (wNz x aG aI aK aM aO),.agg #[.int .i64 e.K,.slice (some ⟨bQ,0,none⟩) e.b.length e.b.length,.int .i64 e.cut,.slice (some ⟨bU,0,none⟩) e.fs.length e.fs.length]] (by go_simp) (fZ.o (SC x aG aI aK aM aO) _ _ _ _ _ bW.l.at cC.l.r1.chs cC.l.r2.ints) ?_;rintro r bJ ⟨cN,eO,rfl,bC,aU,hb⟩;refine⟨_,rfl,?_⟩;obtain⟨aE,cH⟩:∃y,y=bJ.heap.size:=⟨_,rfl⟩;have dN:aW.heap.size<=bJ.heap.size:=hb.size;replace bA:=bA.I hb;replace bB:=bB.I hb;replace bW:=bW.I hb;replace cC:=cC.I hb;replace bZ:=bZ.I hb;replace hE:=hE.j (hb.i hE.size);replace HK:=HK.j (hb.i HK.size);have zd:=WB bC aU;rw[<-cJ,<-cH]at zd aU;have eK:aS<=aE/\aE<=bJ.heap.size:=by omega
    clear hb bC bW cC;have eM:aB<aS\/aE<=aB:=.inl (by omega);refine aA.o _ _ (⟨bA.l,bB.l⟩) (λgJ=>?_)
    try simp only[PS]
    have gG:=cP;have gK:=gJ
  rotate_left 3
  focus
   generalize aQ:v4.drew=cY at bA bB hE HK⊢;have i8:v4.heap.size<=cY.heap.size:=by rw[<-aQ];exact aP.size
   clear aQ aP;go_simp;generalize aQ:cY.alloc _=cA;obtain⟨hb,dQ,bZ⟩:=LJ aQ;obtain⟨aB,cE⟩:∃y,y=cY.heap.size:=⟨_,rfl⟩;rw[<-cE]at bZ⊢;have jA:cY.heap.size<=cA.heap.size:=hb.size;replace bA:=bA.I hb;replace bB:=bB.I hb;replace hE:=hE.j (hb.i hE.size);replace HK:=HK.j (hb.i HK.size);have cP:aB<cA.heap.size:=bZ.l.lt;have eT:w.heap.size+1<aB:=by have:=bB.l.lt;omega
   have dU:∀y:Nat,y<=v4.heap.size->y<=aB:=λy h=>by omega
   clear hb aQ cE dQ;refine aA.o _ _ (⟨bA.l,bB.l⟩) (λjH=>?_)
   try simp only[PS]
   refine ND 1 rfl (λKq aA=>?_);refine LK (by rfl) 7 #[.agg (wA x q)] (by go_simp) (gF.o _ (h.I hE)) ?_;rintro r bF ⟨aG,aI,aK,aM,aO,dB,rfl,cM,hb⟩;refine⟨_,rfl,?_⟩;have eV:cA.heap.size<=bF.heap.size:=hb.size;replace bA:=bA.I hb;replace bB:=bB.I hb;replace bZ:=bZ.I hb;replace hE:=hE.j (hb.i hE.size);replace HK:=HK.j (hb.i HK.size);have bW:Dep bF cA.heap.size bF.heap.size (λW=>OwnW x W cA.heap.size aG aI aK aM aO dB):=dep_ownw cM;clear hb cM;refine aA.o _ _ (⟨bA.l,bB.l⟩) (λjI=>?_)
   try simp only[PS]
   refine ND 3 rfl (λKq aA=>?_);refine LK (by rfl) 8 #[.agg #[.int .i64 e.K,.slice a e.b.length c,.int .i64 e.cut,.slice f e.fs.length d]] (by go_simp) (eY.o _ (eZ.I hE) (hi.I hE)) ?_;rintro r aW ⟨bQ,bU,rfl,aY,hb⟩;refine⟨_,rfl,?_⟩;have dL:bF.heap.size<=aW.heap.size:=hb.size;replace bA:=bA.I hb;replace bB:=bB.I hb;replace bW:=bW.I hb;replace bZ:=bZ.I hb;replace hE:=hE.j (hb.i hE.size);replace HK:=HK.j (hb.i HK.size);have cC:=aY.dep;clear hb aY;refine aA.o _ _ (⟨bA.l,bB.l⟩) (λjJ=>?_)
   try simp only[PS]
   refine ND 4 rfl (λKq aA=>?_);obtain⟨aS,cJ⟩:∃y,y=aW.heap.size:=⟨_,rfl⟩;refine LK (by rfl) 6 #[.agg (wNz x aG aI aK aM aO),.agg #[.int .i64 e.K,.slice (some ⟨bQ,0,none⟩) e.b.length e.b.length,.int .i64 e.cut,.slice (some ⟨bU,0,none⟩) e.fs.length e.fs.length]] (by go_simp) (fZ.o (SC x aG aI aK aM aO) _ _ _ _ _ bW.l.at cC.l.r1.chs cC.l.r2.ints) ?_;rintro r bJ ⟨cN,eO,rfl,bC,aU,hb⟩;refine⟨_,rfl,?_⟩;obtain⟨aE,cH⟩:∃y,y=bJ.heap.size:=⟨_,rfl⟩;have dN:aW.heap.size<=bJ.heap.size:=hb.size;replace bA:=bA.I hb;replace bB:=bB.I hb;replace bW:=bW.I hb;replace cC:=cC.I hb;replace bZ:=bZ.I hb;replace hE:=hE.j (hb.i hE.size);replace HK:=HK.j (hb.i HK.size);have zd:=WB bC aU;rw[<-cJ,<-cH]at zd aU;have eK:aS<=aE/\aE<=bJ.heap.size:=by omega
   clear hb bC bW cC;have eM:aB<aS\/aE<=aB:=.inl (by omega);refine aA.o _ _ (⟨bA.l,bB.l⟩) (λeH=>?_)
   try simp only[PS]
   have gG:=cP;have gK:=eH
  all_goals
   refine PD (rs:=[6]) (by kernel_rfl) (by simp) ?_;refine AllReadyT.last rfl (λKq aA=>?_);refine UK rfl 53 _ _ rfl aB 0 (wA Y cN) rfl rfl (bZ.l.there rfl) MF (by kernel_rfl) ?_;refine aA.o _ _ trivial (λ_=>?_)
   try simp only[PS]
   refine UN (by kernel_rfl) ?_ _;have G:=PJ bJ aB 0 (wL Y cN);have r8:=bZ.l.sets (wL Y cN) rfl;generalize World.setCells _ _ _ _=y5 at G r8⊢;replace zd:=zd.z G (λg e=>by cases e;omega);have lB:=dU _ (AA _);have HF:=LE (AG r8 (AG zd (HK.j (NE G HK.size (λg e=>by cases e;omega)))));clear bA bB hE zd bZ G r8 HK;go_wp2_with fail;go_meet;exact⟨cN,eO,aS,aE,aB,rfl,HF.o.1,lB,HF.o.2.1,aU,by omega,by omega,eM,HF.o.2.2⟩
 case rest =>
 obtain⟨cN,eO,aS,aE,aB,rfl,rZ,lK,zd,aU,lF,lH,eM,hb⟩:=hcut;have i6:v4.heap.size<=wc.heap.size:=hb.size;replace bA:=bA.I hb;replace bB:=bB.I hb;replace hE:=hE.j (hb.i hE.size);have kD:=rZ.lt;have kO:=zd.top;have bZ:=cd rZ;clear hb rZ;obtain⟨dZ,eC⟩:∃y,y=wc:=⟨_,rfl⟩;rw[<-eC]at bA bB hE i6 kD kO bZ zd⊢;clear eC
 as_aux_lemma =>
  go_upto_region 9 with fail;refine BA ?_;refine AN rfl 35 _ rfl w.heap.size 0 rfl _ _ bA.l.range underlying35 rfl info_lwD ?_;simp only[PS];go_wp2_with fail;refine(gF.o _ (h.I hE)).i ?_;rintro rz v5 ⟨cQ,cS,cT,cU,cV,jG,rfl,eQ,hb⟩;have mZ:dZ.heap.size<=v5.heap.size:=hb.size;replace bA:=bA.I hb;replace bB:=bB.I hb;replace zd:=zd.I hb;replace bZ:=bZ.I hb;replace hE:=hE.j (hb.i hE.size);have xd:Dep v5 dZ.heap.size v5.heap.size (λW=>OwnW x W dZ.heap.size cQ cS cT cU cV jG):=dep_ownw eQ;have lI:=eQ.r5.lt;clear eQ;clear hb;go_upto_region 10 with fail;generalize jE:v5.alloc _=v6;obtain⟨hb,kU,bX⟩:=LJ jE;have m6:v5.heap.size+1<=v6.heap.size:=by omega
  clear jE kU;replace bA:=bA.I hb;replace bB:=bB.I hb;replace zd:=zd.I hb;replace bZ:=bZ.I hb;replace xd:=xd.I hb;replace hE:=hE.j (hb.i hE.size);clear hb
  as_aux_lemma =>
   go_upto_region 10 with fail;refine BA ?_;refine AN rfl 39 _ rfl (w.heap.size+1) 0 rfl _ _ bB.l.range underlying39 rfl info_leD ?_;simp only[PS];go_wp2_with fail;refine(eY.o _ (eZ.I hE) (hi.I hE)).i ?_;rintro rz v7 ⟨eE,eF,rfl,eP,hb⟩;have m7:v6.heap.size<=v7.heap.size:=hb.size;replace bA:=bA.I hb;replace bB:=bB.I hb;replace zd:=zd.I hb;replace bZ:=bZ.I hb;replace xd:=xd.I hb;replace bX:=bX.I hb;replace hE:=hE.j (hb.i hE.size);have ed:=eP.dep;have jK:=eP.r2.lt;clear eP;clear hb;go_upto_region 11 with fail;generalize jF:v7.alloc _=v8;obtain⟨hb,kV,bY⟩:=LJ jF;have m8:v7.heap.size+1<=v8.heap.size:=by omega
   clear jF kV;replace bA:=bA.I hb;replace bB:=bB.I hb;replace zd:=zd.I hb;replace bZ:=bZ.I hb;replace xd:=xd.I hb;replace bX:=bX.I hb;replace ed:=ed.I hb;replace hE:=hE.j (hb.i hE.size);clear hb
   as_aux_lemma =>
    go_upto_region 11 with fail;refine BA ?_;refine AN rfl 53 _ rfl v5.heap.size 0 rfl _ _ bX.l.range underlying53 rfl MF ?_;simp only[PS];refine AN rfl 58 _ rfl v7.heap.size 0 rfl _ _ bY.l.range underlying58 rfl ZN ?_;simp only[PS];go_wp2_with fail;refine(eX.o (SC x cQ cS cT cU cV) _ _ _ _ _ xd.l.at (AA _) ed.l.r1.chs ed.l.r2.ints hE).i ?_;rintro rz v9 ⟨eR,gL,rfl,gE,dV,hb⟩;have m9:v8.heap.size<=v9.heap.size:=hb.size;replace bA:=bA.I hb;replace bB:=bB.I hb;replace zd:=zd.I hb;replace bZ:=bZ.I hb;replace xd:=xd.I hb;replace bX:=bX.I hb;replace ed:=ed.I hb;replace bY:=bY.I hb;replace hE:=hE.j (hb.i hE.size);have gd:=WB gE dV;clear gE;clear hb;go_upto_region 12 with fail;generalize gD:v9.alloc _=mC;obtain⟨hb,jS,bG⟩:=LJ gD;have lL:v9.heap.size+1<=mC.heap.size:=by omega
    clear gD jS;replace bA:=bA.I hb;replace bB:=bB.I hb;replace zd:=zd.I hb;replace bZ:=bZ.I hb;replace xd:=xd.I hb;replace bX:=bX.I hb;replace ed:=ed.I hb;replace bY:=bY.I hb;replace gd:=gd.I hb;replace hE:=hE.j (hb.i hE.size);clear hb
    as_aux_lemma =>
     go_upto_region 12 with fail;refine BA ?_;refine AN rfl 53 _ rfl v9.heap.size 0 rfl _ _ bG.l.range underlying53 rfl MF ?_;simp only[PS];refine AN rfl 53 _ rfl aB 0 rfl _ _ bZ.l.range underlying53 rfl MF ?_;simp only[PS];go_wp2_with fail;refine(jT.o eR cN _ gd.l.at zd.l.at).i ?_;rintro rz jQ ⟨rfl,hb⟩;have lM:mC.heap.size<=jQ.heap.size:=hb.size;replace bA:=bA.I hb;replace bB:=bB.I hb;replace zd:=zd.I hb;replace bZ:=bZ.I hb;replace xd:=xd.I hb;replace bX:=bX.I hb;replace ed:=ed.I hb;replace bY:=bY.I hb;replace gd:=gd.I hb;replace bG:=bG.I hb;replace hE:=hE.j (hb.i hE.size);clear hb
     as_aux_lemma =>
      go_upto_region 14 with fail;have aP:=(AB jQ.heap.size jQ).drew;replace bA:=bA.I aP;replace bB:=bB.I aP;replace zd:=zd.I aP;replace bZ:=bZ.I aP;replace xd:=xd.I aP;replace bX:=bX.I aP;replace ed:=ed.I aP;replace bY:=bY.I aP;replace gd:=gd.I aP;replace bG:=bG.I aP;replace hE:=hE.j (aP.i hE.size);refine AP (S:=λw'=>Row w' (v5.heap.size) (wMz x cQ cS cT cU cV)/\Row w' w.heap.size (wL x q)) (by kernel_rfl) (⟨bX.l,bA.l⟩) (λeB=>?_);refine TK 0 (.agg (wNz x cQ cS cT cU cV)) rfl (BN ⟨by rfl,λw hw=>by obtain⟨z0,z1⟩:=hw;exact OP 53 _ rfl _ 0 rfl _ _ z0.range underlying53 rfl MF⟩) eB (TK 1 (.agg (wA x q)) rfl (BN ⟨by rfl,λw hw=>by obtain⟨z0,z1⟩:=hw;exact OP 35 _ rfl _ 0 rfl _ _ z1.range underlying35 rfl info_lwD⟩) eB ?_);simp only[PS];refine RD 2 rfl (λKq aA=>?_);generalize aQ:jQ.drew=jM at bA bB zd bZ xd bX ed bY gd bG hE⊢
      have kE:jQ.heap.size<=jM.heap.size:=by rw[<-aQ];exact aP.size
      clear aQ aP;refine LK (by rfl) 7 #[.agg (wA x q)] (by go_simp) (gF.o _ (h.I hE)) ?_;rintro r jN ⟨j0,j1,j2,j3,j4,mG,rfl,jL,hb⟩;refine⟨_,rfl,?_⟩;have kF:jM.heap.size<=jN.heap.size:=hb.size;replace bA:=bA.I hb;replace bB:=bB.I hb;replace zd:=zd.I hb;replace bZ:=bZ.I hb;replace xd:=xd.I hb;replace bX:=bX.I hb;replace ed:=ed.I hb;replace bY:=bY.I hb;replace gd:=gd.I hb;replace bG:=bG.I hb;replace hE:=hE.j (hb.i hE.size);clear hb;refine aA.o _ _ (⟨bX.l,bA.l⟩) (λeG=>?_)
      try simp only[PS]
      refine RD 3 rfl (λKq aA=>?_);refine LK (by rfl) _ _ (by go_simp) (kY.o (SC x cQ cS cT cU cV) (SC x j0 j1 j2 j3 j4) _ xd.l.at jL.at) ?_;rintro r eW ⟨rfl,hb⟩;refine⟨_,rfl,?_⟩;have kG:jN.heap.size<=eW.heap.size:=hb.size;replace bA:=bA.I hb;replace bB:=bB.I hb;replace zd:=zd.I hb;replace bZ:=bZ.I hb;replace xd:=xd.I hb;replace bX:=bX.I hb;replace ed:=ed.I hb;replace bY:=bY.I hb;replace gd:=gd.I hb;replace bG:=bG.I hb;replace hE:=hE.j (hb.i hE.size);clear hb;refine aA.o _ _ (⟨bX.l,bA.l⟩) (λdF=>?_)
      try simp only[PS]
      refine TY 4 (.bool false) rfl dF ?_;simp only[PS];refine DN ?_;clear eB eG dF;clear jL
      as_aux_lemma =>
       go_upto_region 16 with fail;have aP:=(AB eW.heap.size eW).drew;replace bA:=bA.I aP;replace bB:=bB.I aP;replace zd:=zd.I aP;replace bZ:=bZ.I aP;replace xd:=xd.I aP;replace bX:=bX.I aP;replace ed:=ed.I aP;replace bY:=bY.I aP;replace gd:=gd.I aP;replace bG:=bG.I aP;replace hE:=hE.j (aP.i hE.size);refine AP (S:=λw'=>Row w' (v7.heap.size) [.int .i64 e.K,.slice (some ⟨eE,0,none⟩) e.b.length e.b.length,.int .i64 e.cut,.slice (some ⟨eF,0,none⟩) e.fs.length e.fs.length]/\Row w' (w.heap.size+1) [.int .i64 e.K,.slice a e.b.length c,.int .i64 e.cut,.slice f e.fs.length d]) (by kernel_rfl) (⟨bY.l,bB.l⟩) (λeB=>?_);refine TK 0 (.agg #[.int .i64 e.K,.slice (some ⟨eE,0,none⟩) e.b.length e.b.length,.int .i64 e.cut,.slice (some ⟨eF,0,none⟩) e.fs.length e.fs.length]) rfl (BN ⟨by rfl,λw hw=>by obtain⟨z0,z1⟩:=hw;exact OP 58 _ rfl _ 0 rfl _ _ z0.range underlying58 rfl ZN⟩) eB (TK 1 (.agg #[.int .i64 e.K,.slice a e.b.length c,.int .i64 e.cut,.slice f e.fs.length d]) rfl (BN ⟨by rfl,λw hw=>by obtain⟨z0,z1⟩:=hw;exact OP 39 _ rfl _ 0 rfl _ _ z1.range underlying39 rfl info_leD⟩) eB ?_)
       simp only[PS];refine RD 2 rfl (λKq aA=>?_);generalize aQ:eW.drew=jO at bA bB zd bZ xd bX ed bY gd bG hE⊢;have kH:eW.heap.size<=jO.heap.size:=by rw[<-aQ];exact aP.size
       clear aQ aP;refine LK (by rfl) 8 #[.agg #[.int .i64 e.K,.slice a e.b.length c,.int .i64 e.cut,.slice f e.fs.length d]] (by go_simp) (eY.o _ (eZ.I hE) (hi.I hE)) ?_;rintro r jP ⟨j5,j6,rfl,gM,hb⟩;refine⟨_,rfl,?_⟩;have kK:jO.heap.size<=jP.heap.size:=hb.size;replace bA:=bA.I hb;replace bB:=bB.I hb;replace zd:=zd.I hb;replace bZ:=bZ.I hb;replace xd:=xd.I hb;replace bX:=bX.I hb;replace ed:=ed.I hb;replace bY:=bY.I hb;replace gd:=gd.I hb;replace bG:=bG.I hb;replace hE:=hE.j (hb.i hE.size);clear hb;refine aA.o _ _ (⟨bY.l,bB.l⟩) (λeG=>?_)
       try simp only[PS]
       refine RD 3 rfl (λKq aA=>?_);refine LK (by rfl) 11 #[.agg #[.int .i64 e.K,.slice (some ⟨eE,0,none⟩) e.b.length e.b.length,.int .i64 e.cut,.slice (some ⟨eF,0,none⟩) e.fs.length e.fs.length],.agg #[.int .i64 e.K,.slice (some ⟨j5,0,none⟩) e.b.length e.b.length,.int .i64 e.cut,.slice (some ⟨j6,0,none⟩) e.fs.length e.fs.length]] (by go_simp) (kX.o _ _ _ _ _ _ _ _ _ ed.l.r1.chs gM.r1.chs ed.l.r2.ints gM.r2.ints) ?_;rintro r jB ⟨rfl,hb⟩;refine⟨_,rfl,?_⟩;have kL:jP.heap.size<=jB.heap.size:=hb.size;replace bA:=bA.I hb;replace bB:=bB.I hb;replace zd:=zd.I hb;replace bZ:=bZ.I hb;replace xd:=xd.I hb;replace bX:=bX.I hb;replace ed:=ed.I hb;replace bY:=bY.I hb;replace gd:=gd.I hb;replace bG:=bG.I hb;replace hE:=hE.j (hb.i hE.size);clear hb;refine aA.o _ _ (⟨bY.l,bB.l⟩) (λdF=>?_)
       try simp only[PS]
       refine TY 4 (.bool false) rfl dF ?_;simp only[PS];refine DN ?_;clear eB eG dF;clear gM
       as_aux_lemma =>
        go_upto_region 19 with fail;refine BA ?_;refine AN rfl 53 _ rfl v5.heap.size 0 rfl _ _ bX.l.range underlying53 rfl MF ?_;simp only[PS];go_wp2_with fail;obtain⟨mV,wx,sx⟩:=xd.l.woo;refine(jY.o (SC x cQ cS cT cU cV) mV _ wx (λb k=>by have:=sx b k;omega)).i ?_;rintro rz kP ⟨rfl,hO,_⟩;have hV:Win dZ.heap.size v5.heap.size jB kP:=hO.win (λb k=>by have:=sx b k;omega);clear hO wx sx;clear xd;have lN:jB.heap.size<=kP.heap.size:=hV.size;replace bA:=bA.win hV (by omega);replace bB:=bB.win hV (by omega);replace zd:=zd.win hV (by omega);replace bZ:=bZ.win hV (by omega);replace bX:=bX.win hV (by omega);replace ed:=ed.win hV (by omega);replace bY:=bY.win hV (by omega);replace gd:=gd.win hV (by omega);replace bG:=bG.win hV (by omega);replace hE:=hE.j (hV.I (by have:=hE.size;omega) hE.size);clear hV
        as_aux_lemma =>
         go_upto_region 20 with fail;refine BA ?_;refine AN rfl 58 _ rfl v7.heap.size 0 rfl _ _ bY.l.range underlying58 rfl ZN ?_;simp only[PS];go_wp2_with fail;refine(k8.o v6.heap.size v7.heap.size _ _ _ ed.l jK (by omega)).i ?_;rintro rz mD ⟨⟨n,rfl⟩,hV⟩;clear ed;have lO:kP.heap.size<=mD.heap.size:=hV.size;replace bA:=bA.win hV (by omega);replace bB:=bB.win hV (by omega);replace zd:=zd.win hV (by omega);replace bZ:=bZ.win hV (by omega);replace bX:=bX.win hV (by omega);replace bY:=bY.win hV (by omega);replace gd:=gd.win hV (by omega);replace bG:=bG.win hV (by omega);replace hE:=hE.j (hV.I (by have:=hE.size;omega) hE.size);clear hV;have nF:(0:Int)<=(n:Int):=by omega
         as_aux_lemma =>
          obtain⟨iG,iH,iI,iJ,iK,iL,iM,iN,iO,iP,fH,fI,fJ,fO,fQ,fS,iQ⟩:=c16 bG.l;obtain⟨iR,iS,iT,iU,iV,iW,iX,iY,iZ,i3,fT,fU,fV,fW,fX,fY,i4⟩:=c16 bZ.l;go_wp2_with fail;clear iG iH iI iJ iK iL iM iN iO iP fH fI fJ fO fQ fS iQ iR iS iT iU iV iW iX iY iZ i3 fT fU fV fW fX fY i4;refine(jT.o eR cN _ gd.l.at zd.l.at).i ?_;rintro rz kQ ⟨rfl,hb⟩;have lP:mD.heap.size<=kQ.heap.size:=hb.size;replace bA:=bA.I hb;replace bB:=bB.I hb;replace zd:=zd.I hb;replace bZ:=bZ.I hb;replace bX:=bX.I hb;replace bY:=bY.I hb;replace gd:=gd.I hb;replace bG:=bG.I hb;replace hE:=hE.j (hb.i hE.size);clear hb
          as_aux_lemma =>
           go_upto_region 24 with fail;refine BA ?_;refine AN rfl 53 _ rfl v9.heap.size 0 rfl _ _ bG.l.range underlying53 rfl MF ?_;simp only[PS];go_wp2_with fail;refine(jX.o eR gL _ gd.l (λb k=>by have:=dV b k;omega)).i ?_;rintro rz kR ⟨rfl,hO,hK⟩;have hV:Win v8.heap.size v9.heap.size kQ kR:=hO.win dV;clear gd;have lQ:kQ.heap.size<=kR.heap.size:=hV.size;replace bA:=bA.win hV (by omega);replace bB:=bB.win hV (by omega);replace zd:=zd.win hV (by omega);replace bZ:=bZ.win hV (by omega);replace bX:=bX.win hV (by omega);replace bY:=bY.win hV (by omega);replace bG:=bG.win hV (by omega);replace hE:=hE.j (hV.I (by have:=hE.size;omega) hE.size);clear hV;have gd:=hK.dep dV (by omega);clear hO hK
           as_aux_lemma =>
            go_upto_region 26 with fail;refine BA ?_;refine AN rfl 53 _ rfl v9.heap.size 0 rfl _ _ bG.l.range underlying53 rfl MF ?_;simp only[PS];go_wp2_with fail;refine(jU.o eR gL _ gd.l).i ?_;rintro rz dP ⟨rfl,hb⟩;have lT:kR.heap.size<=dP.heap.size:=hb.size;replace bA:=bA.I hb;replace bB:=bB.I hb;replace zd:=zd.I hb;replace bZ:=bZ.I hb;replace bX:=bX.I hb;replace bY:=bY.I hb;replace bG:=bG.I hb;replace gd:=gd.I hb;replace hE:=hE.j (hb.i hE.size);clear hb
            as_aux_lemma =>
             go_upto_region 31 with fail
             skip
             go_cut [13] from 75 to 79 (λzv wx=>DoZ dP wx Y zv)
             case first =>
              have aP:=(AB dP.heap.size dP).drew;have mH:=hE;have HK:=AB dP.heap.size dP;clear zd;clear bZ;clear bX;clear bY;clear bG;clear gd;replace bA:=bA.I aP;replace bB:=bB.I aP;replace hE:=hE.j (aP.i hE.size);replace HK:=HK.j aP
              refine UV (6) (S:=λw'=>Row w' w.heap.size (wL x q)/\Row w' (w.heap.size+1) [.int .i64 e.K,.slice a e.b.length c,.int .i64 e.cut,.slice f e.fs.length d]) (by kernel_rfl) (⟨bA.l,bB.l⟩) (λeB=>?_);refine MY 0 (.agg (wA x q)) rfl (BN ⟨by rfl,λw hw=>by obtain⟨z0,z1⟩:=hw;exact OP 35 _ rfl _ 0 rfl _ _ z0.range underlying35 rfl info_lwD⟩) eB (MY 2 (.agg #[.int .i64 e.K,.slice a e.b.length c,.int .i64 e.cut,.slice f e.fs.length d]) rfl (BN ⟨by rfl,λw hw=>by obtain⟨z0,z1⟩:=hw;exact OP 39 _ rfl _ 0 rfl _ _ z1.range underlying39 rfl info_leD⟩) eB ?_);simp only[PS];refine PD (rs:=[1,5]) (by kernel_rfl) (by simp) ?_;refine AllReadyT.cons rfl (λKq aA=>?_) (AllReadyT.cons rfl (λKq aA=>?_) AllReadyT.nil)
              focus
               generalize aQ:dP.drew=cX at bA bB hE HK⊢;have i7:dP.heap.size<=cX.heap.size:=by rw[<-aQ];exact aP.size
               clear aQ aP;refine LK (by rfl) 7 #[.agg (wA x q)] (by go_simp) (gF.o _ (h.I hE)) ?_;rintro r b7 ⟨aF,aH,aJ,aL,aN,cZ,rfl,cL,hb⟩;refine⟨_,rfl,?_⟩;have i9:cX.heap.size<=b7.heap.size:=hb.size;replace bA:=bA.I hb;replace bB:=bB.I hb;replace hE:=hE.j (hb.i hE.size);replace HK:=HK.j (hb.i HK.size);have bV:Dep b7 cX.heap.size b7.heap.size (λW=>OwnW x W cX.heap.size aF aH aJ aL aN cZ):=dep_ownw cL;clear hb cL;refine aA.o _ _ (⟨bA.l,bB.l⟩) (λeG=>?_)
               try simp only[PS]
               refine PD (rs:=[3,5]) (by kernel_rfl) (by simp) ?_;refine AllReadyT.cons rfl (λKq aA=>?_) (AllReadyT.cons rfl (λKq aA=>?_) AllReadyT.nil)
               focus
                refine LK (by rfl) 8 #[.agg #[.int .i64 e.K,.slice a e.b.length c,.int .i64 e.cut,.slice f e.fs.length d]] (by go_simp) (eY.o _ (eZ.I hE) (hi.I hE)) ?_;rintro r bE ⟨bP,bT,rfl,aX,hb⟩;refine⟨_,rfl,?_⟩;have eU:b7.heap.size<=bE.heap.size:=hb.size;replace bA:=bA.I hb;replace bB:=bB.I hb;replace bV:=bV.I hb;replace hE:=hE.j (hb.i hE.size);replace HK:=HK.j (hb.i HK.size);have cB:=aX.dep;clear hb aX;refine aA.o _ _ (⟨bA.l,bB.l⟩) (λdF=>?_)
                try simp only[PS]
                refine PD (rs:=[4,5]) (by kernel_rfl) (by simp) ?_;refine AllReadyT.cons rfl (λKq aA=>?_) (AllReadyT.cons rfl (λKq aA=>?_) AllReadyT.nil)
                focus
                 obtain⟨aR,cI⟩:∃y,y=bE.heap.size:=⟨_,rfl⟩;refine LK (by rfl) 9 #[.agg (wNz x aF aH aJ aL aN),.agg #[.int .i64 e.K,.slice (some ⟨bP,0,none⟩) e.b.length e.b.length,.int .i64 e.cut,.slice (some ⟨bT,0,none⟩) e.fs.length e.fs.length]] (by go_simp) (eX.o (SC x aF aH aJ aL aN) _ _ _ _ _ bV.l.at (AA _) cB.l.r1.chs cB.l.r2.ints hE) ?_;rintro r aV ⟨cW,eN,rfl,aZ,aT,hb⟩;refine⟨_,rfl,?_⟩;obtain⟨aD,cF⟩:∃y,y=aV.heap.size:=⟨_,rfl⟩;have dH:bE.heap.size<=aV.heap.size:=hb.size;replace bA:=bA.I hb;replace bB:=bB.I hb;replace bV:=bV.I hb;replace cB:=cB.I hb;replace hE:=hE.j (hb.i hE.size);replace HK:=HK.j (hb.i HK.size);have hd:=WB aZ aT;rw[<-cI,<-cF]at hd aT;have eJ:aR<=aD/\aD<=aV.heap.size:=by omega
                 clear hb aZ bV cB;refine aA.o _ _ (⟨bA.l,bB.l⟩) (λj7=>?_)
                 try simp only[PS]
                 refine ND 5 rfl (λKq aA=>?_);go_simp;generalize aQ:aV.alloc _=bI;obtain⟨hb,dQ,bH⟩:=LJ aQ;obtain⟨aC,cE⟩:∃y,y=aV.heap.size:=⟨_,rfl⟩;rw[<-cE]at bH⊢;have dM:aV.heap.size<=bI.heap.size:=hb.size;replace bA:=bA.I hb;replace bB:=bB.I hb;replace hd:=hd.I hb;replace hE:=hE.j (hb.i hE.size);replace HK:=HK.j (hb.i HK.size);have cO:aC<bI.heap.size:=bH.l.lt;have eS:w.heap.size+1<aC:=by have:=bB.l.lt;omega
                 have dR:∀y:Nat,y<=dP.heap.size->y<=aC:=λy h=>by omega
                 have eL:aC<aR\/aD<=aC:=.inr (by omega);clear hb aQ cE dQ;refine aA.o _ _ (⟨bA.l,bB.l⟩) (λgH=>?_)
                 try simp only[PS]
                 have gG:=cO;have gK:=gH
                rotate_left
                focus
                 go_simp;generalize aQ:bE.alloc _=aV;obtain⟨hb,dQ,bH⟩:=LJ aQ;obtain⟨aC,cE⟩:∃y,y=bE.heap.size:=⟨_,rfl⟩;rw[<-cE]at bH⊢;have dH:bE.heap.size<=aV.heap.size:=hb.size;replace bA:=bA.I hb;replace bB:=bB.I hb;replace bV:=bV.I hb;replace cB:=cB.I hb;replace hE:=hE.j (hb.i hE.size);replace HK:=HK.j (hb.i HK.size);have cO:aC<aV.heap.size:=bH.l.lt;have eS:w.heap.size+1<aC:=by have:=bB.l.lt;omega
                 have dR:∀y:Nat,y<=dP.heap.size->y<=aC:=λy h=>by omega
                 clear hb aQ cE dQ;refine aA.o _ _ (⟨bA.l,bB.l⟩) (λj8=>?_)
                 try simp only[PS]
                 refine ND 4 rfl (λKq aA=>?_);obtain⟨aR,cI⟩:∃y,y=aV.heap.size:=⟨_,rfl⟩;refine LK (by rfl) 9 #[.agg (wNz x aF aH aJ aL aN),.agg #[.int .i64 e.K,.slice (some ⟨bP,0,none⟩) e.b.length e.b.length,.int .i64 e.cut,.slice (some ⟨bT,0,none⟩) e.fs.length e.fs.length]] (by go_simp) (eX.o (SC x aF aH aJ aL aN) _ _ _ _ _ bV.l.at (AA _) cB.l.r1.chs cB.l.r2.ints hE) ?_;rintro r bI ⟨cW,eN,rfl,aZ,aT,hb⟩;refine⟨_,rfl,?_⟩;obtain⟨aD,cF⟩:∃y,y=bI.heap.size:=⟨_,rfl⟩;have dM:aV.heap.size<=bI.heap.size:=hb.size;replace bA:=bA.I hb;replace bB:=bB.I hb;replace bV:=bV.I hb;replace cB:=cB.I hb;replace bH:=bH.I hb;replace hE:=hE.j (hb.i hE.size);replace HK:=HK.j (hb.i HK.size);have hd:=WB aZ aT;rw[<-cI,<-cF]at hd aT;have eJ:aR<=aD/\aD<=bI.heap.size:=by omega
                 clear hb aZ bV cB;have eL:aC<aR\/aD<=aC:=.inl (by omega);refine aA.o _ _ (⟨bA.l,bB.l⟩) (λgI=>?_)
                 try simp only[PS]
                 have gG:=cO;have gK:=gI
               rotate_left 2
               focus
                go_simp;generalize aQ:b7.alloc _=bE;obtain⟨hb,dQ,bH⟩:=LJ aQ;obtain⟨aC,cE⟩:∃y,y=b7.heap.size:=⟨_,rfl⟩;rw[<-cE]at bH⊢;have eU:b7.heap.size<=bE.heap.size:=hb.size;replace bA:=bA.I hb;replace bB:=bB.I hb;replace bV:=bV.I hb;replace hE:=hE.j (hb.i hE.size);replace HK:=HK.j (hb.i HK.size);have cO:aC<bE.heap.size:=bH.l.lt;have eS:w.heap.size+1<aC:=by have:=bB.l.lt;omega
                have dR:∀y:Nat,y<=dP.heap.size->y<=aC:=λy h=>by omega
                clear hb aQ cE dQ;refine aA.o _ _ (⟨bA.l,bB.l⟩) (λj9=>?_)
                try simp only[PS]
                refine ND 3 rfl (λKq aA=>?_);refine LK (by rfl) 8 #[.agg #[.int .i64 e.K,.slice a e.b.length c,.int .i64 e.cut,.slice f e.fs.length d]] (by go_simp) (eY.o _ (eZ.I hE) (hi.I hE)) ?_;rintro r aV ⟨bP,bT,rfl,aX,hb⟩;refine⟨_,rfl,?_⟩;have dH:bE.heap.size<=aV.heap.size:=hb.size;replace bA:=bA.I hb;replace bB:=bB.I hb;replace bV:=bV.I hb;replace bH:=bH.I hb;replace hE:=hE.j (hb.i hE.size);replace HK:=HK.j (hb.i HK.size);have cB:=aX.dep;clear hb aX;refine aA.o _ _ (⟨bA.l,bB.l⟩) (λkA=>?_)
                try simp only[PS]
                refine ND 4 rfl (λKq aA=>?_);obtain⟨aR,cI⟩:∃y,y=aV.heap.size:=⟨_,rfl⟩;refine LK (by rfl) 9 #[.agg (wNz x aF aH aJ aL aN),.agg #[.int .i64 e.K,.slice (some ⟨bP,0,none⟩) e.b.length e.b.length,.int .i64 e.cut,.slice (some ⟨bT,0,none⟩) e.fs.length e.fs.length]] (by go_simp) (eX.o (SC x aF aH aJ aL aN) _ _ _ _ _ bV.l.at (AA _) cB.l.r1.chs cB.l.r2.ints hE) ?_;rintro r bI ⟨cW,eN,rfl,aZ,aT,hb⟩;refine⟨_,rfl,?_⟩;obtain⟨aD,cF⟩:∃y,y=bI.heap.size:=⟨_,rfl⟩;have dM:aV.heap.size<=bI.heap.size:=hb.size;replace bA:=bA.I hb;replace bB:=bB.I hb;replace bV:=bV.I hb;replace cB:=cB.I hb;replace bH:=bH.I hb;replace hE:=hE.j (hb.i hE.size);replace HK:=HK.j (hb.i HK.size);have hd:=WB aZ aT;rw[<-cI,<-cF]at hd aT;have eJ:aR<=aD/\aD<=bI.heap.size:=by omega
                clear hb aZ bV cB;have eL:aC<aR\/aD<=aC:=.inl (by omega);refine aA.o _ _ (⟨bA.l,bB.l⟩) (λgJ=>?_)
                try simp only[PS]
                have gG:=cO;have gK:=gJ
              rotate_left 3
              focus
               generalize aQ:dP.drew=cX at bA bB hE HK⊢;have i7:dP.heap.size<=cX.heap.size:=by rw[<-aQ];exact aP.size
               clear aQ aP;go_simp;generalize aQ:cX.alloc _=b7;obtain⟨hb,dQ,bH⟩:=LJ aQ;obtain⟨aC,cE⟩:∃y,y=cX.heap.size:=⟨_,rfl⟩;rw[<-cE]at bH⊢;have i9:cX.heap.size<=b7.heap.size:=hb.size;replace bA:=bA.I hb;replace bB:=bB.I hb;replace hE:=hE.j (hb.i hE.size);replace HK:=HK.j (hb.i HK.size);have cO:aC<b7.heap.size:=bH.l.lt;have eS:w.heap.size+1<aC:=by have:=bB.l.lt;omega
               have dR:∀y:Nat,y<=dP.heap.size->y<=aC:=λy h=>by omega
               clear hb aQ cE dQ;refine aA.o _ _ (⟨bA.l,bB.l⟩) (λjH=>?_)
               try simp only[PS]
               refine ND 1 rfl (λKq aA=>?_);refine LK (by rfl) 7 #[.agg (wA x q)] (by go_simp) (gF.o _ (h.I hE)) ?_;rintro r bE ⟨aF,aH,aJ,aL,aN,cZ,rfl,cL,hb⟩;refine⟨_,rfl,?_⟩;have eU:b7.heap.size<=bE.heap.size:=hb.size;replace bA:=bA.I hb;replace bB:=bB.I hb;replace bH:=bH.I hb;replace hE:=hE.j (hb.i hE.size);replace HK:=HK.j (hb.i HK.size);have bV:Dep bE b7.heap.size bE.heap.size (λW=>OwnW x W b7.heap.size aF aH aJ aL aN cZ):=dep_ownw cL;clear hb cL;refine aA.o _ _ (⟨bA.l,bB.l⟩) (λjI=>?_)
               try simp only[PS]
               refine ND 3 rfl (λKq aA=>?_);refine LK (by rfl) 8 #[.agg #[.int .i64 e.K,.slice a e.b.length c,.int .i64 e.cut,.slice f e.fs.length d]] (by go_simp) (eY.o _ (eZ.I hE) (hi.I hE)) ?_;rintro r aV ⟨bP,bT,rfl,aX,hb⟩;refine⟨_,rfl,?_⟩;have dH:bE.heap.size<=aV.heap.size:=hb.size;replace bA:=bA.I hb;replace bB:=bB.I hb;replace bV:=bV.I hb;replace bH:=bH.I hb;replace hE:=hE.j (hb.i hE.size);replace HK:=HK.j (hb.i HK.size);have cB:=aX.dep;clear hb aX;refine aA.o _ _ (⟨bA.l,bB.l⟩) (λjJ=>?_)
               try simp only[PS]
               refine ND 4 rfl (λKq aA=>?_);obtain⟨aR,cI⟩:∃y,y=aV.heap.size:=⟨_,rfl⟩;refine LK (by rfl) 9 #[.agg (wNz x aF aH aJ aL aN),.agg #[.int .i64 e.K,.slice (some ⟨bP,0,none⟩) e.b.length e.b.length,.int .i64 e.cut,.slice (some ⟨bT,0,none⟩) e.fs.length e.fs.length]] (by go_simp) (eX.o (SC x aF aH aJ aL aN) _ _ _ _ _ bV.l.at (AA _) cB.l.r1.chs cB.l.r2.ints hE) ?_;rintro r bI ⟨cW,eN,rfl,aZ,aT,hb⟩;refine⟨_,rfl,?_⟩;obtain⟨aD,cF⟩:∃y,y=bI.heap.size:=⟨_,rfl⟩;have dM:aV.heap.size<=bI.heap.size:=hb.size;replace bA:=bA.I hb;replace bB:=bB.I hb;replace bV:=bV.I hb;replace cB:=cB.I hb;replace bH:=bH.I hb;replace hE:=hE.j (hb.i hE.size);replace HK:=HK.j (hb.i HK.size);have hd:=WB aZ aT;rw[<-cI,<-cF]at hd aT;have eJ:aR<=aD/\aD<=bI.heap.size:=by omega
               clear hb aZ bV cB;have eL:aC<aR\/aD<=aC:=.inl (by omega);refine aA.o _ _ (⟨bA.l,bB.l⟩) (λeH=>?_)
               try simp only[PS]
               have gG:=cO;have gK:=eH
              all_goals
               refine PD (rs:=[6]) (by kernel_rfl) (by simp) ?_;refine AllReadyT.last rfl (λKq aA=>?_);refine UK rfl 53 _ _ rfl aC 0 (wA Y cW) rfl rfl (bH.l.there rfl) MF (by kernel_rfl) ?_;refine aA.o _ _ trivial (λ_=>?_)
               try simp only[PS]
               refine UN (by kernel_rfl) ?_ _;have G:=PJ bI aC 0 (wL Y cW);have r8:=bH.l.sets (wL Y cW) rfl;generalize World.setCells _ _ _ _=y5 at G r8⊢;replace hd:=hd.z G (λg e=>by cases e;omega);have lB:=dR _ (AA _);have HF:=LE (AG r8 (AG hd (HK.j (NE G HK.size (λg e=>by cases e;omega)))));clear bA bB hE hd bH G r8 HK;go_wp2_with fail;go_meet;exact⟨cW,eN,aR,aD,aC,rfl,HF.o.1,lB,HF.o.2.1,aT,by omega,by omega,eL,HF.o.2.2⟩
             case rest =>
             obtain⟨cW,eN,aR,aD,aC,rfl,rZ,lJ,hd,aT,lE,lG,eL,hb⟩:=hcut;have i5:dP.heap.size<=wc.heap.size:=hb.size;replace bA:=bA.I hb;replace bB:=bB.I hb;replace zd:=zd.I hb;replace bZ:=bZ.I hb;replace bX:=bX.I hb;replace bY:=bY.I hb;replace bG:=bG.I hb;replace gd:=gd.I hb;replace hE:=hE.j (hb.i hE.size);have kC:=rZ.lt;have kM:=hd.top;have bH:=cd rZ;clear hb rZ;obtain⟨jR,eC⟩:∃y,y=wc:=⟨_,rfl⟩;rw[<-eC]at bA bB zd bZ bX bY bG gd hE i5 kC kM bH hd⊢;clear eC
             as_aux_lemma =>
              go_upto_region 32 with fail;refine BA ?_;refine AN rfl 53 _ rfl aC 0 rfl _ _ bH.l.range underlying53 rfl MF ?_;simp only[PS];refine AN rfl 53 _ rfl aB 0 rfl _ _ bZ.l.range underlying53 rfl MF ?_;simp only[PS];go_wp2_with fail;refine(jT.o cW cN _ hd.l.at zd.l.at).i ?_;rintro rz mF ⟨rfl,hb⟩;have lU:jR.heap.size<=mF.heap.size:=hb.size;replace bA:=bA.I hb;replace bB:=bB.I hb;replace zd:=zd.I hb;replace bZ:=bZ.I hb;replace bX:=bX.I hb;replace bY:=bY.I hb;replace bG:=bG.I hb;replace gd:=gd.I hb;replace hd:=hd.I hb;replace bH:=bH.I hb;replace hE:=hE.j (hb.i hE.size);clear hb
              as_aux_lemma =>
               go_upto_region 35 with fail;refine BA ?_;refine AN rfl 53 _ rfl v9.heap.size 0 rfl _ _ bG.l.range underlying53 rfl MF ?_;simp only[PS];go_wp2_with fail;refine(jU.o eR gL _ gd.l).i ?_;rintro rz nA ⟨rfl,hb⟩;have lZ:mF.heap.size<=nA.heap.size:=hb.size;replace bA:=bA.I hb;replace bB:=bB.I hb;replace zd:=zd.I hb;replace bZ:=bZ.I hb;replace bX:=bX.I hb;replace bY:=bY.I hb;replace bG:=bG.I hb;replace gd:=gd.I hb;replace hd:=hd.I hb;replace bH:=bH.I hb;replace hE:=hE.j (hb.i hE.size);clear hb;go_wp2_with fail;go_ret;exact⟨rfl,hE⟩
end Go.Proofs.YthcfgbpailnahaaGreatDoor.fnExactDo
