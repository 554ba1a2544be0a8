import Derived.Test.YtehbpeinnepdcaaGreatDoorPrG41
set_option maxHeartbeats 32000000
namespace Go.Proofs.YtehbpeinnepdcaaGreatDoor
open Go.RowKit
set_option maxRecDepth 8000
set_option linter.unusedVariables false
set_option linter.unusedSimpArgs false
theorem vht:(Tryz.prog.info? 74).map (fun i=>(i.zero,i.size,i.bytes))=some (some (.agg #[.int .i64 0,.string ByteArray.empty]),2,24):=by kernel_rfl
theorem qXa (k:Int) (s:ByteArray):∀ u∈[Value.int .i64 k,Value.string s],u.oneCell'=true:=by intro u hu;simp at hu;rcases hu with rfl | rfl<;>rfl
theorem xeS (s:ByteArray):∀ u∈[Value.string s],u.oneCell'=true:=by intro u hu;simp at hu;subst hu;rfl
theorem JVt {w:World} {B:Nat} {e:TypeId} {k:Nat} {g m c:Nat} {cs:List Value} (h:w.ownsRow B e k (.slice (some ⟨g,0,none⟩) m c) m cs):m<=c:=by
 rcases h.2 with ⟨h1,h2⟩ | ⟨g2,cap,aA,h1,h2,h3,h4⟩
 ·cases h1
 ·cases h1;exact h4.1
theorem Qt0:zeros.size<=64:=by decide
def kki (o:Option Value):Nat:=match o with | some (.slice _ n _)=>n | _=>0
theorem XX0 {w:World} {p:Addr} {a:Option Addr} {n c:Nat} (h:w.cell? p=some (.slice a n c)):kki (w.cell? p)=n:=by rw [h];rfl
def SpW (w wr:World) (R:Nat) (a:Option Addr) (n c:Nat) (p:Int) (A4 B g sc:Nat) (ss:List ByteArray) (N:Nat):Prop:=∃ (g' aA:Nat) (ws:List WrT),DkLe ss ws/\ws.length<=N/\SpS w wr R a n c p A4 B g sc ss g' aA ws
def SpN (w wr:World) (R:Nat) (a:Option Addr) (n c:Nat) (p:Int) (A4 B g' aA:Nat) (ws:List WrT) (N:Nat):Prop:=∃ (g sc:Nat) (ss:List ByteArray),DkLe ss ws/\ss.length<=N/\SpS w wr R a n c p A4 B g sc ss g' aA ws
theorem yFR (R:Nat) (a:Option Addr) (n c:Nat) (p:Int) (a0:Option Addr) (ss:List ByteArray) (c0:Nat) (a1:Option Addr) (ws:List WrT) (c1:Nat) (w:World) (h:Rdr w R a n c p) (hp:p<99980000) (h1:Strs w a0 ss) (h2:Wrs w a1 ws) (hd:DkLe ss ws) (hs:8<=ss.length/\ss.length<=40) (eZ:ws.length<=300):Calls Tryz.prog 47 #[.pointer (some ⟨R,0,none⟩),Zoj a0 ss.length c0 a1 ws.length c1] w fun r w'=>JP4 w w' r/\Zlg w R a n c p 4 w':=by
 have p0:=h.p0;obtain ⟨i0,cN,cO,cP,cQ⟩:=yWN vht;have HI:=hid (And.intro cN (And.intro cO (And.intro cP cQ)));clear cN cO cP cQ;obtain ⟨i1,cN,cO,cP,cQ⟩:=yWN vB4;have HJ:=hid (And.intro cN (And.intro cO (And.intro cP cQ)));clear cN cO cP cQ;have aZ:=hid hd;clear hd;unfold Zoj;go_enter Tryz.func47,Tryz.ntmps47;go_wp2_with fail;generalize b8:w.alloc _=v1;obtain ⟨hb,bY,b3⟩:=bx1 b8;clear b8;have hE:Below w.heap.size w v1:=hb;clear hb b3;generalize cC:v1.alloc _=v2;obtain ⟨hb,cS,b4⟩:=bx1 cC;clear cC;replace hE:=hE.trans (hb.mono hE.size);clear hb;have CC:=X4E a0 ss c0 a1 ws c1 v2 (h1.below hE) (h2.below hE) (by omega) (by omega);unfold Zoj at CC;refine CC.mono ?_;rintro e v3 ⟨g,sc,g',aI,rfl,so,wo,ne,hb⟩;replace hE:=hE.trans (hb.mono hE.size);replace b4:=b4.below hb;have s3:=hb.size;clear hb CC h1 h2;unfold Zoj;go_upto_region 2 with fail;generalize cE:v3.alloc _=v4;obtain ⟨hb,dH,b5⟩:=bx1 cE;clear cE;obtain ⟨B,dK⟩:∃ B,B=v3.heap.size:=⟨_,rfl⟩
 obtain ⟨A4,cT⟩:∃ B,B=w.heap.size+1:=⟨_,rfl⟩;rw [<-dK] at b5 ⊢;rw [bY,<-cT] at b4;rw [cS,bY,<-cT] at so wo;rw [<-cT];have lg:=(so.lt g rfl).2;have eM:=(wo.lt g' rfl).2;replace hE:=hE.trans (hb.mono hE.size);have S0:SpS w v4 R a n c (p) A4 B g sc ss g' aI ws:=⟨h.keep (N:=w.heap.size) h.lts.1 h.lts.2 hE,Qbp _ hE,h.lts.1,h.lts.2,(b4.below hb).now,b5.now,by omega,by omega,jcb so hb,jcb wo hb,by omega,by omega,ne⟩;have eR:A4<B:=by omega
 have eQ:w.heap.size<=A4:=by omega
 clear hb b4 b5 so wo lg eM dH cS bY dK cT hE s3 h ne;generalize Value.agg _=eP;go_wp2_with fail;refine (ZfV R a n c p 7 _ S0.rd (by omega)).mono ?_;rintro e v5 ⟨⟨v,rfl,v0,eN⟩,hr,hg⟩;have S1:=S0.pick hr hg;clear S0 hr hg;have eW:(0:Int)<(ss.length:Int):=by omega
 have eJ:(4:Int)<(ss.length:Int):=by omega
 have hv:v=0\/v=1\/v=2\/v=3\/v=4\/v=5\/v=6:=by omega
 clear v0 eN;rcases hv with rfl | rfl | rfl | rfl | rfl | rfl | rfl
 ·have q0:=S1.r5.cell 0 _ rfl
  have q1:=S1.r5.cell 1 _ rfl;have ql:=S1.r5.lt;go_upto_region 7 with fail;clear q0 q1 ql;refine yO4 (8) (S:=fun w'=>w'.cell? ⟨B,0,none⟩=some (.slice (some ⟨g,0,none⟩) ss.length sc)) (by kernel_rfl) (S1.drew.r5.cell 0 _ rfl) (fun aH=>?_);refine TYT 0 (.pointer (some ⟨B,0,none⟩)) rfl aH (TYT 1 (.slice (some ⟨g,0,none⟩) ss.length sc) rfl aH (TYT 2 (.pointer (some ⟨R,0,none⟩)) rfl aH (TYT 3 (.pointer (some ⟨B,0,none⟩)) rfl aH (TYT 4 (.slice (some ⟨g,0,none⟩) ss.length sc) rfl aH (TYT 5 (.int .i64 (ss.length:Int)) rfl aH ?_)))));simp only [PS];refine RDT 6 rfl (fun Kq aA=>?_);obtain ⟨yb,aD⟩:∃ y,y=v5.drew:=⟨_,rfl⟩;rw [<-aD];have EB:SpS w yb R a n c (p+1) A4 B g sc ss g' aI ws:=by rw [aD];exact S1.drew
  clear aD;refine XRf (by rfl) _ _ (by go_simp) (ZfV R a n c (p+1) (ss.length:Int) _ EB.rd (by omega)) ?_;rintro e y6 ⟨⟨t',rfl,t0,t1⟩,hr,hg⟩;refine ⟨_,rfl,?_⟩;have E6:=EB.pick hr hg;clear hr hg;obtain ⟨t,rfl⟩:∃ k:Nat,t'=(k:Int):=⟨t'.toNat,by omega⟩;have tl:t<ss.length:=by omega
  have ti:(t:Int)<((ss.length:Nat):Int):=by omega
  refine aA.out _ _ (E6.r5.cell 0 _ rfl) (fun aU=>?_)
  try simp only [PS]
  refine TYT 7 (.pointer (some ⟨g,t,none⟩)) rfl aU ?_;simp only [PS];refine kPc (rs:=[8]) (by kernel_rfl) (by simp) ?_;refine AllReadyT.last rfl (fun Kq aA=>?_);have cg:=E6.so.cellAt t (by simpa using tl);have fg:=E6.so.frozenAt t;have lg:=E6.lg.1.2;go_simp;clear cg fg lg;refine aA.out _ _ trivial (fun _=>?_)
  try simp only [PS]
  refine kgn (by kernel_rfl) ?_ _;have E8:=E6.sect t tl ⟨#[115,104,111,114,116]⟩;have aO:=hid (aZ.out.set t ⟨#[115,104,111,114,116]⟩ (by decide));obtain ⟨s8,e8⟩:∃ l,l=ss.set t ⟨#[115,104,111,114,116]⟩:=⟨_,rfl⟩;rw [<-e8] at E8 aO;generalize bU:World.setCell _ _ _=y7 at E8 ⊢;clear bU e8;have q0:=E8.r5.cell 0 _ rfl;have q1:=E8.r5.cell 1 _ rfl;have ql:=E8.r5.lt;have f0:=E8.r4.cell 0 _ rfl;have f1:=E8.r4.cell 1 _ rfl;obtain ⟨f2,f3⟩:=E8.r4.z2;have fl:=E8.r4.lt;have aV:A4≠B:=by omega
  have aW:B≠A4:=by omega
  go_wp2;clear q0 q1 ql f0 f1 f2 f3 fl aV aW;obtain ⟨r8,aM,aK,aL,aG⟩:=E8.fin s8.length (Nat.le_refl _) (.slice (some ⟨g,0,none⟩) s8.length sc) (.slice (some ⟨g',0,none⟩) ws.length aI);rw [List.take_length] at aG;generalize aF:World.setCell _ _ _=y8 at r8 aM aK aL aG ⊢;clear aF;have z0:=r8.cell 0 _ rfl;have z1:=r8.cell 1 _ rfl;have z2:=r8.lt;exact bodyPost_ret (v:=.agg #[.slice (some ⟨g,0,none⟩) s8.length sc,.slice (some ⟨g',0,none⟩) ws.length aI]) (by simp [results,Tryz.results47,go_sem,z0,z1]) rfl ⟨⟨s8,ws,g,sc,g',aI,rfl,aO.out,aL,aG⟩,⟨p+1+1,by omega,by omega,aM⟩,aK⟩
 ·have q0:=S1.r5.cell 0 _ rfl
  have q1:=S1.r5.cell 1 _ rfl;have ql:=S1.r5.lt;have eX:IntKind.i64.wrap ((ss.length:Int)+1)=(ss.length:Int)+1:=vRg _ (by omega) (by omega);go_upto_region 9 with fail;clear q0 q1 ql;refine yO4 (10) (S:=fun w'=>w'.cell? ⟨B,0,none⟩=some (.slice (some ⟨g,0,none⟩) ss.length sc)) (by kernel_rfl) (S1.drew.r5.cell 0 _ rfl) (fun aH=>?_);refine TYT 0 (.pointer (some ⟨B,0,none⟩)) rfl aH (TYT 1 (.slice (some ⟨g,0,none⟩) ss.length sc) rfl aH (TYT 2 (.pointer (some ⟨R,0,none⟩)) rfl aH (TYT 3 (.pointer (some ⟨B,0,none⟩)) rfl aH (TYT 4 (.slice (some ⟨g,0,none⟩) ss.length sc) rfl aH (TYT 5 (.int .i64 (ss.length:Int)) rfl aH (TYT 6 (.int .i64 ((ss.length:Int)+1)) rfl aH ?_))))));simp only [PS];refine RDT 7 rfl (fun Kq aA=>?_);obtain ⟨yb,aD⟩:∃ y,y=v5.drew:=⟨_,rfl⟩;rw [<-aD];have EB:SpS w yb R a n c (p+1) A4 B g sc ss g' aI ws:=by rw [aD];exact S1.drew
  clear aD;refine XRf (by rfl) _ _ (by go_simp) (ZfV R a n c (p+1) ((ss.length:Int)+1) _ EB.rd (by omega)) ?_;rintro e y7 ⟨⟨t',rfl,t0,t1⟩,hr,hg⟩;refine ⟨_,rfl,?_⟩;have E7:=EB.pick hr hg;clear hr hg;obtain ⟨t,rfl⟩:∃ k:Nat,t'=(k:Int):=⟨t'.toNat,by omega⟩;have hk:t<=ss.length:=by omega
  have eS:(0:Int)<=(t:Int):=by omega
  have eT:(t:Int)<=(ss.length:Int):=by omega
  have eD:=JVt E7.so;have eU:(t:Int)<=(sc:Int):=by omega
  refine aA.out _ _ (E7.r5.cell 0 _ rfl) (fun aU=>?_)
  try simp only [PS]
  refine TYT 8 (.slice (some ⟨g,0,none⟩) t sc) rfl aU (TYT 9 (.pointer (some ⟨B,0,none⟩)) rfl aU ?_);simp only [PS];refine kPc (rs:=[10]) (by kernel_rfl) (by simp) ?_;refine AllReadyT.last rfl (fun Kq aA=>?_);have l0:=E7.r5.cell 0 _ rfl;have l1:=E7.r5.froz 0 (by simp);have l2:=E7.r5.lt;go_simp;clear l0 l1 l2;refine aA.out _ _ trivial (fun _=>?_)
  try simp only [PS]
  refine kgn (by kernel_rfl) ?_ _;have r5:=E7.r5.set 0 (by simp) (.slice (some ⟨g,0,none⟩) t sc);have G0:y7.grownBy (y7.setCell ⟨B,0,none⟩ (.slice (some ⟨g,0,none⟩) t sc)) (some B):=XGx y7 B 0 _;have r4:=E7.r4.grown G0 (fun e=>by injection e with e;omega);have b7:=hid (E7.fin1 t hk (.slice (some ⟨g,0,none⟩) t sc) (.slice (some ⟨g,0,none⟩) t sc) (.slice (some ⟨g',0,none⟩) ws.length aI));generalize cU:y7.setCell _ _=y9 at r5 r4 b7 ⊢;clear cU G0;have q0:=r5.cell 0 _ rfl;have q1:=r5.cell 1 _ rfl;have ql:=r5.lt;have f0:=r4.cell 0 _ rfl;have f1:=r4.cell 1 _ rfl;obtain ⟨f2,f3⟩:=r4.z2;have fl:=r4.lt;have aV:A4≠B:=by omega
  have aW:B≠A4:=by omega
  go_wp2;clear q0 q1 ql f0 f1 f2 f3 fl aV aW;obtain ⟨r8,aM,aK,aL,aG⟩:=b7.out;generalize aF:World.setCell _ _ _=y8 at r8 aM aK aL aG ⊢;clear aF;have z0:=r8.cell 0 _ rfl;have z1:=r8.cell 1 _ rfl;have z2:=r8.lt;exact bodyPost_ret (v:=.agg #[.slice (some ⟨g,0,none⟩) t sc,.slice (some ⟨g',0,none⟩) ws.length aI]) (by simp [results,Tryz.results47,go_sem,z0,z1]) rfl ⟨⟨ss.take t,ws,g,sc,g',aI,(by unfold Zoj;rw [List.length_take,Nat.min_eq_left hk]),(aZ.out).take _,aL,aG⟩,⟨p+1+1,by omega,by omega,aM⟩,aK⟩
 ·have q0:=S1.r5.cell 0 _ rfl
  have q1:=S1.r5.cell 1 _ rfl;have ql:=S1.r5.lt;go_upto_region 11 with fail;clear q0 q1 ql;refine yO4 (15) (S:=fun w'=>w'.cell? ⟨B,0,none⟩=some (.slice (some ⟨g,0,none⟩) ss.length sc)/\w'.cell? ⟨B,1,none⟩=some (.slice (some ⟨g',0,none⟩) ws.length aI)) (by kernel_rfl) (⟨S1.drew.r5.cell 0 _ rfl,S1.drew.r5.cell 1 _ rfl⟩) (fun aH=>?_);refine TYT 0 (.pointer (some ⟨B,1,none⟩)) rfl aH (TYT 1 (.slice (some ⟨g',0,none⟩) ws.length aI) rfl aH (TYT 2 (.pointer (some ⟨B,0,none⟩)) rfl aH (TYT 3 (.slice (some ⟨g,0,none⟩) ss.length sc) rfl aH (TYT 4 (.int .i64 (ss.length:Int)) rfl aH (TYT 6 (.pointer (some ⟨R,0,none⟩)) rfl aH ?_)))));simp only [PS];refine kPc (rs:=[5,7]) (by kernel_rfl) (by simp) ?_;refine AllReadyT.cons rfl (fun Kq aA=>?_) (AllReadyT.cons rfl (fun Kq aA=>?_) AllReadyT.nil)
  ·obtain ⟨yb,aD⟩:∃ y,y=v5.drew:=⟨_,rfl⟩
   rw [<-aD];have EB:SpS w yb R a n c (p+1) A4 B g sc ss g' aI ws:=by rw [aD];exact S1.drew
   clear aD;go_simp;have aJ:=quc yb (.cells #[.int .i64 (-1),.int .i64 (ss.length:Int),.int .i64 0] 3);have E5:=EB.below aJ;have rX:=xER yb #[.int .i64 (-1),.int .i64 (ss.length:Int),.int .i64 0] 3;obtain ⟨X,bC⟩:∃ z,z=yb.heap.size:=⟨_,rfl⟩;have dU:R<X:=by rw [bC];have:=EB.lR;have:=EB.lt;omega
   obtain ⟨y5,bG⟩:∃ z,z=yb.alloc (.cells #[.int .i64 (-1),.int .i64 (ss.length:Int),.int .i64 0] 3):=⟨_,rfl⟩;rw [<-bC,<-bG] at rX;rw [<-bG] at E5;rw [<-bG,<-bC];clear bG bC aJ;refine aA.out _ _ (⟨E5.r5.cell 0 _ rfl,E5.r5.cell 1 _ rfl⟩) (fun aU=>?_)
   try simp only [PS]
   refine RDT 7 rfl (fun Kq aA=>?_);refine XRf (by rfl) _ _ (by go_simp) (ZfV R a n c (p+1) 3 _ E5.rd (by omega)) ?_;rintro e y7 ⟨⟨t',rfl,t0,t1⟩,hr,hg⟩;refine ⟨_,rfl,?_⟩;have E7:=E5.pick hr hg;have rX:=rX.grown hg (fun e=>by injection e with e;omega);clear hr hg;obtain ⟨t,rfl⟩:∃ k:Nat,t'=(k:Int):=⟨t'.toNat,by omega⟩;have tl:t<3:=by omega
   have ti:(t:Int)<3:=by omega
   refine aA.out _ _ (⟨E7.r5.cell 0 _ rfl,E7.r5.cell 1 _ rfl⟩) (fun aX=>?_)
   try simp only [PS]
   refine TYT 8 (.pointer (some ⟨X,t,none⟩)) rfl aX ?_;simp only [PS];refine kPc (rs:=[9,10]) (by kernel_rfl) (by simp) ?_;refine AllReadyT.cons rfl (fun Kq aA=>?_) (AllReadyT.cons rfl (fun Kq aA=>?_) AllReadyT.nil)
   ·obtain ⟨zz,hz⟩:∃ zz:Int,([.int .i64 (-1),.int .i64 (ss.length:Int),.int .i64 0]:List Value)[t]?=some (.int .i64 zz):=by rcases t with _ | _ | _ | t<;>first | exact ⟨_,rfl⟩ | omega
    have cX:=rX.cell t _ hz;have lX:=rX.lt;go_simp;clear cX lX;refine aA.out _ _ aX (fun _=>?_)
    try simp only [PS]
    refine RDT 10 rfl (fun Kq aA=>?_);refine XRf (by rfl) 26 #[] (by go_simp) (zeros_s _) ?_;rintro e aR ⟨rfl,aJ⟩;refine ⟨_,rfl,?_⟩;have aP:=E7.below aJ;have rX:=rX.below aJ;clear aJ;refine aA.out _ _ (⟨aP.r5.cell 0 _ rfl,aP.r5.cell 1 _ rfl⟩) (fun cV=>?_)
    try simp only [PS]
    refine TYT 11 (.agg #[.int .i64 zz,.string zeros]) rfl cV ?_;simp only [PS];refine RDT 12 rfl (fun Kq aA=>?_);go_simp;have aQ:=aP.below (quc aR (.cells #[.int .i64 zz,.string zeros] 74));have lB:=aP.r5.lt;refine aA.out _ _ (⟨aQ.r5.cell 0 _ rfl,aQ.r5.cell 1 _ rfl⟩) (fun dZ=>?_)
    try simp only [PS]
    refine RDT 13 rfl (fun Kq aA=>?_);refine SAL _ (by rfl) _ _ _ (by rfl) (A4+1) Tryz.underlying24 HI.out rfl (by omega) (.slice (some ⟨g',0,none⟩) ws.length aI) ws.length _ (by rfl) aQ.wo ⟨aR.heap.size,0,none⟩ 1 1 [.int .i64 zz,.string zeros] (by rfl) rfl (World.news_of_block (heap_alloc_new aR _)) (qXa _ _) (by simp;omega) (aR.heap.size+1) (by simp) ?_;intro kk cap yA aE aB aS aY;have aC:yA.ownsRow (A4+1) 74 2 (.slice (some ⟨kk,0,none⟩) (ws++[(zz,zeros)]).length cap) (ws++[(zz,zeros)]).length (yaV (ws++[(zz,zeros)])):=by rw [QXs,List.length_append];exact aE
    obtain ⟨rA,GA⟩:=aQ.pushW aC aB aS (by simp);clear aE aB aS aC;refine aA.out _ _ (⟨rA.cell 0 _ rfl,rA.cell 1 _ rfl⟩) (fun cW=>?_)
    try simp only [PS]
    refine TYT 14 (.pointer (some ⟨B,1,none⟩)) rfl cW ?_;simp only [PS];refine kPc (rs:=[15]) (by kernel_rfl) (by simp) ?_;refine AllReadyT.last rfl (fun Kq aA=>?_);have l0:=rA.cell 1 _ rfl;have l1:=rA.froz 1 (by simp);have l2:=rA.lt;go_simp;clear l0 l1 l2;refine aA.out _ _ trivial (fun _=>?_)
    try simp only [PS]
    refine kgn (by kernel_rfl) ?_ _;rw [List.length_append] at GA;have aO:=hid (aZ.out.pushW (zz,zeros) (by omega) Qt0);obtain ⟨aT,e2⟩:∃ l:List WrT,l=ws++[(zz,zeros)]:=⟨_,rfl⟩;rw [<-e2] at aO GA;generalize aN:World.setCell _ _ _=yC at GA ⊢;clear aN e2;have q0:=GA.r5.cell 0 _ rfl;have q1:=GA.r5.cell 1 _ rfl;have ql:=GA.r5.lt;have f0:=GA.r4.cell 0 _ rfl;have f1:=GA.r4.cell 1 _ rfl;obtain ⟨f2,f3⟩:=GA.r4.z2;have fl:=GA.r4.lt;have aV:A4≠B:=by omega
    have aW:B≠A4:=by omega
    go_wp2;clear q0 q1 ql f0 f1 f2 f3 fl aV aW;obtain ⟨r8,aM,aK,aL,aG⟩:=GA.fin ss.length (Nat.le_refl _) (.slice (some ⟨g,0,none⟩) ss.length sc) (.slice (some ⟨kk,0,none⟩) aT.length cap);rw [List.take_length] at aG;generalize aF:World.setCell _ _ _=y8 at r8 aM aK aL aG ⊢;clear aF;have z0:=r8.cell 0 _ rfl;have z1:=r8.cell 1 _ rfl;have z2:=r8.lt;exact bodyPost_ret (v:=.agg #[.slice (some ⟨g,0,none⟩) ss.length sc,.slice (some ⟨kk,0,none⟩) aT.length cap]) (by simp [results,Tryz.results47,go_sem,z0,z1]) rfl ⟨⟨ss,aT,g,sc,kk,cap,rfl,aO.out,aL,aG⟩,⟨p+1+1,by omega,by omega,aM⟩,aK⟩
   ·refine XRf (by rfl) 26 #[] (by go_simp) (zeros_s _) ?_
    rintro e aR ⟨rfl,aJ⟩;refine ⟨_,rfl,?_⟩;have aP:=E7.below aJ;have rX:=rX.below aJ;clear aJ;refine aA.out _ _ (⟨aP.r5.cell 0 _ rfl,aP.r5.cell 1 _ rfl⟩) (fun cL=>?_)
    try simp only [PS]
    refine RDT 9 rfl (fun Kq aA=>?_)
    obtain ⟨zz,hz⟩:∃ zz:Int,([.int .i64 (-1),.int .i64 (ss.length:Int),.int .i64 0]:List Value)[t]?=some (.int .i64 zz):=by rcases t with _ | _ | _ | t<;>first | exact ⟨_,rfl⟩ | omega
    have cX:=rX.cell t _ hz;have lX:=rX.lt;go_simp;clear cX lX;refine aA.out _ _ cL (fun _=>?_)
    try simp only [PS]
    refine TYT 11 (.agg #[.int .i64 zz,.string zeros]) rfl cL ?_;simp only [PS];refine RDT 12 rfl (fun Kq aA=>?_);go_simp;have aQ:=aP.below (quc aR (.cells #[.int .i64 zz,.string zeros] 74));have lB:=aP.r5.lt;refine aA.out _ _ (⟨aQ.r5.cell 0 _ rfl,aQ.r5.cell 1 _ rfl⟩) (fun dL=>?_)
    try simp only [PS]
    refine RDT 13 rfl (fun Kq aA=>?_);refine SAL _ (by rfl) _ _ _ (by rfl) (A4+1) Tryz.underlying24 HI.out rfl (by omega) (.slice (some ⟨g',0,none⟩) ws.length aI) ws.length _ (by rfl) aQ.wo ⟨aR.heap.size,0,none⟩ 1 1 [.int .i64 zz,.string zeros] (by rfl) rfl (World.news_of_block (heap_alloc_new aR _)) (qXa _ _) (by simp;omega) (aR.heap.size+1) (by simp) ?_;intro kk cap yA aE aB aS aY;have aC:yA.ownsRow (A4+1) 74 2 (.slice (some ⟨kk,0,none⟩) (ws++[(zz,zeros)]).length cap) (ws++[(zz,zeros)]).length (yaV (ws++[(zz,zeros)])):=by rw [QXs,List.length_append];exact aE
    obtain ⟨rA,GA⟩:=aQ.pushW aC aB aS (by simp);clear aE aB aS aC;refine aA.out _ _ (⟨rA.cell 0 _ rfl,rA.cell 1 _ rfl⟩) (fun cF=>?_)
    try simp only [PS]
    refine TYT 14 (.pointer (some ⟨B,1,none⟩)) rfl cF ?_;simp only [PS];refine kPc (rs:=[15]) (by kernel_rfl) (by simp) ?_;refine AllReadyT.last rfl (fun Kq aA=>?_);have l0:=rA.cell 1 _ rfl;have l1:=rA.froz 1 (by simp);have l2:=rA.lt;go_simp;clear l0 l1 l2;refine aA.out _ _ trivial (fun _=>?_)
    try simp only [PS]
    refine kgn (by kernel_rfl) ?_ _;rw [List.length_append] at GA;have aO:=hid (aZ.out.pushW (zz,zeros) (by omega) Qt0);obtain ⟨aT,e2⟩:∃ l:List WrT,l=ws++[(zz,zeros)]:=⟨_,rfl⟩;rw [<-e2] at aO GA;generalize aN:World.setCell _ _ _=yC at GA ⊢;clear aN e2;have q0:=GA.r5.cell 0 _ rfl;have q1:=GA.r5.cell 1 _ rfl;have ql:=GA.r5.lt;have f0:=GA.r4.cell 0 _ rfl;have f1:=GA.r4.cell 1 _ rfl;obtain ⟨f2,f3⟩:=GA.r4.z2;have fl:=GA.r4.lt;have aV:A4≠B:=by omega
    have aW:B≠A4:=by omega
    go_wp2;clear q0 q1 ql f0 f1 f2 f3 fl aV aW;obtain ⟨r8,aM,aK,aL,aG⟩:=GA.fin ss.length (Nat.le_refl _) (.slice (some ⟨g,0,none⟩) ss.length sc) (.slice (some ⟨kk,0,none⟩) aT.length cap);rw [List.take_length] at aG;generalize aF:World.setCell _ _ _=y8 at r8 aM aK aL aG ⊢;clear aF;have z0:=r8.cell 0 _ rfl;have z1:=r8.cell 1 _ rfl;have z2:=r8.lt;exact bodyPost_ret (v:=.agg #[.slice (some ⟨g,0,none⟩) ss.length sc,.slice (some ⟨kk,0,none⟩) aT.length cap]) (by simp [results,Tryz.results47,go_sem,z0,z1]) rfl ⟨⟨ss,aT,g,sc,kk,cap,rfl,aO.out,aL,aG⟩,⟨p+1+1,by omega,by omega,aM⟩,aK⟩
  ·obtain ⟨yb,aD⟩:∃ y,y=v5.drew:=⟨_,rfl⟩
   rw [<-aD];have EB:SpS w yb R a n c (p+1) A4 B g sc ss g' aI ws:=by rw [aD];exact S1.drew
   clear aD;refine XRf (by rfl) _ _ (by go_simp) (ZfV R a n c (p+1) 3 _ EB.rd (by omega)) ?_;rintro e y7 ⟨⟨t',rfl,t0,t1⟩,hr,hg⟩;refine ⟨_,rfl,?_⟩;have E7:=EB.pick hr hg;clear hr hg;obtain ⟨t,rfl⟩:∃ k:Nat,t'=(k:Int):=⟨t'.toNat,by omega⟩;have tl:t<3:=by omega
   have ti:(t:Int)<3:=by omega
   refine aA.out _ _ (⟨E7.r5.cell 0 _ rfl,E7.r5.cell 1 _ rfl⟩) (fun dM=>?_)
   try simp only [PS]
   refine kPc (rs:=[5,10]) (by kernel_rfl) (by simp) ?_;refine AllReadyT.cons rfl (fun Kq aA=>?_) (AllReadyT.cons rfl (fun Kq aA=>?_) AllReadyT.nil)
   ·go_simp
    have aJ:=quc y7 (.cells #[.int .i64 (-1),.int .i64 (ss.length:Int),.int .i64 0] 3);have E5:=E7.below aJ;have rX:=xER y7 #[.int .i64 (-1),.int .i64 (ss.length:Int),.int .i64 0] 3;obtain ⟨X,bC⟩:∃ z,z=y7.heap.size:=⟨_,rfl⟩;have dU:R<X:=by rw [bC];have:=E7.lR;have:=E7.lt;omega
    obtain ⟨y5,bG⟩:∃ z,z=y7.alloc (.cells #[.int .i64 (-1),.int .i64 (ss.length:Int),.int .i64 0] 3):=⟨_,rfl⟩;rw [<-bC,<-bG] at rX;rw [<-bG] at E5;rw [<-bG,<-bC];clear bG bC aJ;refine aA.out _ _ (⟨E5.r5.cell 0 _ rfl,E5.r5.cell 1 _ rfl⟩) (fun bI=>?_)
    try simp only [PS]
    refine TYT 8 (.pointer (some ⟨X,t,none⟩)) rfl bI ?_;simp only [PS];refine kPc (rs:=[9,10]) (by kernel_rfl) (by simp) ?_;refine AllReadyT.cons rfl (fun Kq aA=>?_) (AllReadyT.cons rfl (fun Kq aA=>?_) AllReadyT.nil)
    ·obtain ⟨zz,hz⟩:∃ zz:Int,([.int .i64 (-1),.int .i64 (ss.length:Int),.int .i64 0]:List Value)[t]?=some (.int .i64 zz):=by rcases t with _ | _ | _ | t<;>first | exact ⟨_,rfl⟩ | omega
     have cX:=rX.cell t _ hz;have lX:=rX.lt;go_simp;clear cX lX;refine aA.out _ _ bI (fun _=>?_)
     try simp only [PS]
     refine RDT 10 rfl (fun Kq aA=>?_);refine XRf (by rfl) 26 #[] (by go_simp) (zeros_s _) ?_;rintro e aR ⟨rfl,aJ⟩;refine ⟨_,rfl,?_⟩;have aP:=E5.below aJ;have rX:=rX.below aJ;clear aJ;refine aA.out _ _ (⟨aP.r5.cell 0 _ rfl,aP.r5.cell 1 _ rfl⟩) (fun cH=>?_)
     try simp only [PS]
     refine TYT 11 (.agg #[.int .i64 zz,.string zeros]) rfl cH ?_;simp only [PS];refine RDT 12 rfl (fun Kq aA=>?_);go_simp;have aQ:=aP.below (quc aR (.cells #[.int .i64 zz,.string zeros] 74));have lB:=aP.r5.lt;refine aA.out _ _ (⟨aQ.r5.cell 0 _ rfl,aQ.r5.cell 1 _ rfl⟩) (fun dN=>?_)
     try simp only [PS]
     refine RDT 13 rfl (fun Kq aA=>?_);refine SAL _ (by rfl) _ _ _ (by rfl) (A4+1) Tryz.underlying24 HI.out rfl (by omega) (.slice (some ⟨g',0,none⟩) ws.length aI) ws.length _ (by rfl) aQ.wo ⟨aR.heap.size,0,none⟩ 1 1 [.int .i64 zz,.string zeros] (by rfl) rfl (World.news_of_block (heap_alloc_new aR _)) (qXa _ _) (by simp;omega) (aR.heap.size+1) (by simp) ?_;intro kk cap yA aE aB aS aY;have aC:yA.ownsRow (A4+1) 74 2 (.slice (some ⟨kk,0,none⟩) (ws++[(zz,zeros)]).length cap) (ws++[(zz,zeros)]).length (yaV (ws++[(zz,zeros)])):=by rw [QXs,List.length_append];exact aE
     obtain ⟨rA,GA⟩:=aQ.pushW aC aB aS (by simp);clear aE aB aS aC;refine aA.out _ _ (⟨rA.cell 0 _ rfl,rA.cell 1 _ rfl⟩) (fun cI=>?_)
     try simp only [PS]
     refine TYT 14 (.pointer (some ⟨B,1,none⟩)) rfl cI ?_;simp only [PS];refine kPc (rs:=[15]) (by kernel_rfl) (by simp) ?_;refine AllReadyT.last rfl (fun Kq aA=>?_);have l0:=rA.cell 1 _ rfl;have l1:=rA.froz 1 (by simp);have l2:=rA.lt;go_simp;clear l0 l1 l2;refine aA.out _ _ trivial (fun _=>?_)
     try simp only [PS]
     refine kgn (by kernel_rfl) ?_ _;rw [List.length_append] at GA;have aO:=hid (aZ.out.pushW (zz,zeros) (by omega) Qt0);obtain ⟨aT,e2⟩:∃ l:List WrT,l=ws++[(zz,zeros)]:=⟨_,rfl⟩;rw [<-e2] at aO GA;generalize aN:World.setCell _ _ _=yC at GA ⊢;clear aN e2;have q0:=GA.r5.cell 0 _ rfl;have q1:=GA.r5.cell 1 _ rfl;have ql:=GA.r5.lt;have f0:=GA.r4.cell 0 _ rfl;have f1:=GA.r4.cell 1 _ rfl;obtain ⟨f2,f3⟩:=GA.r4.z2;have fl:=GA.r4.lt;have aV:A4≠B:=by omega
     have aW:B≠A4:=by omega
     go_wp2;clear q0 q1 ql f0 f1 f2 f3 fl aV aW;obtain ⟨r8,aM,aK,aL,aG⟩:=GA.fin ss.length (Nat.le_refl _) (.slice (some ⟨g,0,none⟩) ss.length sc) (.slice (some ⟨kk,0,none⟩) aT.length cap);rw [List.take_length] at aG;generalize aF:World.setCell _ _ _=y8 at r8 aM aK aL aG ⊢;clear aF;have z0:=r8.cell 0 _ rfl;have z1:=r8.cell 1 _ rfl;have z2:=r8.lt;exact bodyPost_ret (v:=.agg #[.slice (some ⟨g,0,none⟩) ss.length sc,.slice (some ⟨kk,0,none⟩) aT.length cap]) (by simp [results,Tryz.results47,go_sem,z0,z1]) rfl ⟨⟨ss,aT,g,sc,kk,cap,rfl,aO.out,aL,aG⟩,⟨p+1+1,by omega,by omega,aM⟩,aK⟩
    ·refine XRf (by rfl) 26 #[] (by go_simp) (zeros_s _) ?_
     rintro e aR ⟨rfl,aJ⟩;refine ⟨_,rfl,?_⟩;have aP:=E5.below aJ;have rX:=rX.below aJ;clear aJ;refine aA.out _ _ (⟨aP.r5.cell 0 _ rfl,aP.r5.cell 1 _ rfl⟩) (fun bJ=>?_)
     try simp only [PS]
     refine RDT 9 rfl (fun Kq aA=>?_)
     obtain ⟨zz,hz⟩:∃ zz:Int,([.int .i64 (-1),.int .i64 (ss.length:Int),.int .i64 0]:List Value)[t]?=some (.int .i64 zz):=by rcases t with _ | _ | _ | t<;>first | exact ⟨_,rfl⟩ | omega
     have cX:=rX.cell t _ hz;have lX:=rX.lt;go_simp;clear cX lX;refine aA.out _ _ bJ (fun _=>?_)
     try simp only [PS]
     refine TYT 11 (.agg #[.int .i64 zz,.string zeros]) rfl bJ ?_;simp only [PS];refine RDT 12 rfl (fun Kq aA=>?_);go_simp;have aQ:=aP.below (quc aR (.cells #[.int .i64 zz,.string zeros] 74));have lB:=aP.r5.lt;refine aA.out _ _ (⟨aQ.r5.cell 0 _ rfl,aQ.r5.cell 1 _ rfl⟩) (fun dO=>?_)
     try simp only [PS]
     refine RDT 13 rfl (fun Kq aA=>?_);refine SAL _ (by rfl) _ _ _ (by rfl) (A4+1) Tryz.underlying24 HI.out rfl (by omega) (.slice (some ⟨g',0,none⟩) ws.length aI) ws.length _ (by rfl) aQ.wo ⟨aR.heap.size,0,none⟩ 1 1 [.int .i64 zz,.string zeros] (by rfl) rfl (World.news_of_block (heap_alloc_new aR _)) (qXa _ _) (by simp;omega) (aR.heap.size+1) (by simp) ?_;intro kk cap yA aE aB aS aY;have aC:yA.ownsRow (A4+1) 74 2 (.slice (some ⟨kk,0,none⟩) (ws++[(zz,zeros)]).length cap) (ws++[(zz,zeros)]).length (yaV (ws++[(zz,zeros)])):=by rw [QXs,List.length_append];exact aE
     obtain ⟨rA,GA⟩:=aQ.pushW aC aB aS (by simp);clear aE aB aS aC;refine aA.out _ _ (⟨rA.cell 0 _ rfl,rA.cell 1 _ rfl⟩) (fun cJ=>?_)
     try simp only [PS]
     refine TYT 14 (.pointer (some ⟨B,1,none⟩)) rfl cJ ?_;simp only [PS];refine kPc (rs:=[15]) (by kernel_rfl) (by simp) ?_;refine AllReadyT.last rfl (fun Kq aA=>?_);have l0:=rA.cell 1 _ rfl;have l1:=rA.froz 1 (by simp);have l2:=rA.lt;go_simp;clear l0 l1 l2;refine aA.out _ _ trivial (fun _=>?_)
     try simp only [PS]
     refine kgn (by kernel_rfl) ?_ _;rw [List.length_append] at GA;have aO:=hid (aZ.out.pushW (zz,zeros) (by omega) Qt0);obtain ⟨aT,e2⟩:∃ l:List WrT,l=ws++[(zz,zeros)]:=⟨_,rfl⟩;rw [<-e2] at aO GA;generalize aN:World.setCell _ _ _=yC at GA ⊢;clear aN e2;have q0:=GA.r5.cell 0 _ rfl;have q1:=GA.r5.cell 1 _ rfl;have ql:=GA.r5.lt;have f0:=GA.r4.cell 0 _ rfl;have f1:=GA.r4.cell 1 _ rfl;obtain ⟨f2,f3⟩:=GA.r4.z2;have fl:=GA.r4.lt;have aV:A4≠B:=by omega
     have aW:B≠A4:=by omega
     go_wp2;clear q0 q1 ql f0 f1 f2 f3 fl aV aW;obtain ⟨r8,aM,aK,aL,aG⟩:=GA.fin ss.length (Nat.le_refl _) (.slice (some ⟨g,0,none⟩) ss.length sc) (.slice (some ⟨kk,0,none⟩) aT.length cap);rw [List.take_length] at aG;generalize aF:World.setCell _ _ _=y8 at r8 aM aK aL aG ⊢;clear aF;have z0:=r8.cell 0 _ rfl;have z1:=r8.cell 1 _ rfl;have z2:=r8.lt;exact bodyPost_ret (v:=.agg #[.slice (some ⟨g,0,none⟩) ss.length sc,.slice (some ⟨kk,0,none⟩) aT.length cap]) (by simp [results,Tryz.results47,go_sem,z0,z1]) rfl ⟨⟨ss,aT,g,sc,kk,cap,rfl,aO.out,aL,aG⟩,⟨p+1+1,by omega,by omega,aM⟩,aK⟩
   ·refine XRf (by rfl) 26 #[] (by go_simp) (zeros_s _) ?_
    rintro e aR ⟨rfl,aJ⟩;refine ⟨_,rfl,?_⟩;have aP:=E7.below aJ;clear aJ;refine aA.out _ _ (⟨aP.r5.cell 0 _ rfl,aP.r5.cell 1 _ rfl⟩) (fun dQ=>?_)
    try simp only [PS]
    refine RDT 5 rfl (fun Kq aA=>?_);go_simp;have aJ:=quc aR (.cells #[.int .i64 (-1),.int .i64 (ss.length:Int),.int .i64 0] 3);have E5:=aP.below aJ;have rX:=xER aR #[.int .i64 (-1),.int .i64 (ss.length:Int),.int .i64 0] 3;obtain ⟨X,bC⟩:∃ z,z=aR.heap.size:=⟨_,rfl⟩;have dU:R<X:=by rw [bC];have:=aP.lR;have:=aP.lt;omega
    obtain ⟨y5,bG⟩:∃ z,z=aR.alloc (.cells #[.int .i64 (-1),.int .i64 (ss.length:Int),.int .i64 0] 3):=⟨_,rfl⟩;rw [<-bC,<-bG] at rX;rw [<-bG] at E5;rw [<-bG,<-bC];clear bG bC aJ;refine aA.out _ _ (⟨E5.r5.cell 0 _ rfl,E5.r5.cell 1 _ rfl⟩) (fun bH=>?_)
    try simp only [PS]
    refine TYT 8 (.pointer (some ⟨X,t,none⟩)) rfl bH ?_;simp only [PS];refine RDT 9 rfl (fun Kq aA=>?_)
    obtain ⟨zz,hz⟩:∃ zz:Int,([.int .i64 (-1),.int .i64 (ss.length:Int),.int .i64 0]:List Value)[t]?=some (.int .i64 zz):=by rcases t with _ | _ | _ | t<;>first | exact ⟨_,rfl⟩ | omega
    have cX:=rX.cell t _ hz;have lX:=rX.lt;go_simp;clear cX lX;refine aA.out _ _ bH (fun _=>?_)
    try simp only [PS]
    refine TYT 11 (.agg #[.int .i64 zz,.string zeros]) rfl bH ?_;simp only [PS];refine RDT 12 rfl (fun Kq aA=>?_);go_simp;have aQ:=E5.below (quc y5 (.cells #[.int .i64 zz,.string zeros] 74));have lB:=E5.r5.lt;refine aA.out _ _ (⟨aQ.r5.cell 0 _ rfl,aQ.r5.cell 1 _ rfl⟩) (fun dR=>?_)
    try simp only [PS]
    refine RDT 13 rfl (fun Kq aA=>?_);refine SAL _ (by rfl) _ _ _ (by rfl) (A4+1) Tryz.underlying24 HI.out rfl (by omega) (.slice (some ⟨g',0,none⟩) ws.length aI) ws.length _ (by rfl) aQ.wo ⟨y5.heap.size,0,none⟩ 1 1 [.int .i64 zz,.string zeros] (by rfl) rfl (World.news_of_block (heap_alloc_new y5 _)) (qXa _ _) (by simp;omega) (y5.heap.size+1) (by simp) ?_;intro kk cap yA aE aB aS aY;have aC:yA.ownsRow (A4+1) 74 2 (.slice (some ⟨kk,0,none⟩) (ws++[(zz,zeros)]).length cap) (ws++[(zz,zeros)]).length (yaV (ws++[(zz,zeros)])):=by rw [QXs,List.length_append];exact aE
    obtain ⟨rA,GA⟩:=aQ.pushW aC aB aS (by simp);clear aE aB aS aC;refine aA.out _ _ (⟨rA.cell 0 _ rfl,rA.cell 1 _ rfl⟩) (fun cK=>?_)
    try simp only [PS]
    refine TYT 14 (.pointer (some ⟨B,1,none⟩)) rfl cK ?_;simp only [PS];refine kPc (rs:=[15]) (by kernel_rfl) (by simp) ?_;refine AllReadyT.last rfl (fun Kq aA=>?_);have l0:=rA.cell 1 _ rfl;have l1:=rA.froz 1 (by simp);have l2:=rA.lt;go_simp;clear l0 l1 l2;refine aA.out _ _ trivial (fun _=>?_)
    try simp only [PS]
    refine kgn (by kernel_rfl) ?_ _;rw [List.length_append] at GA;have aO:=hid (aZ.out.pushW (zz,zeros) (by omega) Qt0);obtain ⟨aT,e2⟩:∃ l:List WrT,l=ws++[(zz,zeros)]:=⟨_,rfl⟩;rw [<-e2] at aO GA;generalize aN:World.setCell _ _ _=yC at GA ⊢;clear aN e2;have q0:=GA.r5.cell 0 _ rfl;have q1:=GA.r5.cell 1 _ rfl;have ql:=GA.r5.lt;have f0:=GA.r4.cell 0 _ rfl;have f1:=GA.r4.cell 1 _ rfl;obtain ⟨f2,f3⟩:=GA.r4.z2;have fl:=GA.r4.lt;have aV:A4≠B:=by omega
    have aW:B≠A4:=by omega
    go_wp2;clear q0 q1 ql f0 f1 f2 f3 fl aV aW;obtain ⟨r8,aM,aK,aL,aG⟩:=GA.fin ss.length (Nat.le_refl _) (.slice (some ⟨g,0,none⟩) ss.length sc) (.slice (some ⟨kk,0,none⟩) aT.length cap);rw [List.take_length] at aG;generalize aF:World.setCell _ _ _=y8 at r8 aM aK aL aG ⊢;clear aF;have z0:=r8.cell 0 _ rfl;have z1:=r8.cell 1 _ rfl;have z2:=r8.lt;exact bodyPost_ret (v:=.agg #[.slice (some ⟨g,0,none⟩) ss.length sc,.slice (some ⟨kk,0,none⟩) aT.length cap]) (by simp [results,Tryz.results47,go_sem,z0,z1]) rfl ⟨⟨ss,aT,g,sc,kk,cap,rfl,aO.out,aL,aG⟩,⟨p+1+1,by omega,by omega,aM⟩,aK⟩
 ·have q0:=S1.r5.cell 0 _ rfl
  have q1:=S1.r5.cell 1 _ rfl;have ql:=S1.r5.lt;have E4:=S1.below (quc v5 (.cells #[.int .i64 2,.string ⟨#[115,104,111,114,116]⟩] 74));have dI:=hid E4;have lB:=S1.r5.lt;clear E4
  go_upto_region 22 with (first | (at_builtin;refine WAL _ rfl _ _ 24 rfl (A4+1) Tryz.underlying24 HI.out rfl (by omega) _ ws.length _ rfl dI.out.wo ⟨v5.heap.size,0,none⟩ 1 1 [.int .i64 2,.string ⟨#[115,104,111,114,116]⟩] rfl rfl (World.news_of_block (heap_alloc_new v5 _)) (qXa _ _) (by simp;omega) (v5.heap.size+1) (by simp) ?_;intro kk cap yA aE aB aS aY;have aC:yA.ownsRow (A4+1) 74 2 (.slice (some ⟨kk,0,none⟩) (ws++[((2,⟨#[115,104,111,114,116]⟩):WrT)]).length cap) (ws++[((2,⟨#[115,104,111,114,116]⟩):WrT)]).length (yaV (ws++[(2,⟨#[115,104,111,114,116]⟩)])):=(by rw [QXs,List.length_append];exact aE);obtain ⟨rA,GA⟩:=dI.out.pushW aC aB aS (by simp);have l0:=rA.cell 1 _ rfl;have l1:=rA.froz 1 (by simp);have l2:=rA.lt;rw [List.length_append] at GA;have dJ:=hid GA;clear aE aB aS aC GA rA))
  clear q0 q1 ql;have GA:=dJ.out;have aO:=hid (aZ.out.pushW (2,⟨#[115,104,111,114,116]⟩) (by omega) (by decide));obtain ⟨aT,e2⟩:∃ l:List WrT,l=ws++[(2,⟨#[115,104,111,114,116]⟩)]:=⟨_,rfl⟩;rw [<-e2] at aO GA;generalize aN:World.setCell _ _ _=yC at GA ⊢;clear aN e2 dJ;have q0:=GA.r5.cell 0 _ rfl;have q1:=GA.r5.cell 1 _ rfl;have ql:=GA.r5.lt;have f0:=GA.r4.cell 0 _ rfl;have f1:=GA.r4.cell 1 _ rfl;obtain ⟨f2,f3⟩:=GA.r4.z2;have fl:=GA.r4.lt;have aV:A4≠B:=by omega
  have aW:B≠A4:=by omega
  go_wp2;clear q0 q1 ql f0 f1 f2 f3 fl aV aW;obtain ⟨r8,aM,aK,aL,aG⟩:=GA.fin ss.length (Nat.le_refl _) (.slice (some ⟨g,0,none⟩) ss.length sc) (.slice (some ⟨kk,0,none⟩) aT.length cap);rw [List.take_length] at aG;generalize aF:World.setCell _ _ _=y8 at r8 aM aK aL aG ⊢;clear aF;have z0:=r8.cell 0 _ rfl;have z1:=r8.cell 1 _ rfl;have z2:=r8.lt;exact bodyPost_ret (v:=.agg #[.slice (some ⟨g,0,none⟩) ss.length sc,.slice (some ⟨kk,0,none⟩) aT.length cap]) (by simp [results,Tryz.results47,go_sem,z0,z1]) rfl ⟨⟨ss,aT,g,sc,kk,cap,rfl,aO.out,aL,aG⟩,⟨p+1,by omega,by omega,aM⟩,aK⟩
 ·go_wp2_with fail
  refine (ZfV R a n c (p+1) 2 _ S1.rd (by omega)).mono ?_;rintro e v6 ⟨⟨z,rfl,z0,z1⟩,hr,hg⟩;have S2:=S1.pick hr hg;clear S1 hr hg;obtain ⟨N,hN⟩:∃ N:Nat,(300:Int)+z=(N:Int):=⟨(300+z).toNat,by omega⟩;have eK:IntKind.i64.wrap ((300:Int)+z)=(N:Int):=by rw [hN];exact vRg _ (by omega) (by omega)
  have eB:N<=301:=by omega
  have dE:IntKind.i64.wrap (N:Int)=(N:Int):=vRg _ (by omega) (by omega);have eC:300<=N:=by omega
  have q0:=S2.r5.cell 0 _ rfl;have q1:=S2.r5.cell 1 _ rfl;have ql:=S2.r5.lt;go_wp2_with fail;clear q0 q1 ql;go_loopw [88] (fun _ wr=>SpW w wr R a n c (p+1+1) A4 B g sc ss N) (fun _ wr=>400-kki (wr.cell? ⟨B,1,none⟩))
  case atStart=>exact ⟨g',aI,ws,aZ.out,by omega,S2⟩
  case round =>
   obtain ⟨g',aI,ws,cM,eG,S3⟩:=hrel;have bZ:=hid cM;clear S2 aZ cM
   by_cases eH:ws.length<N
   ·have bW:(ws.length:Int)<(N:Int):=by omega
    have q0:=S3.r5.cell 0 _ rfl;have q1:=S3.r5.cell 1 _ rfl;have ql:=S3.r5.lt;go_upto_region 17 with fail;clear q0 q1 ql;refine yO4 (7) (S:=fun w'=>w'.cell? ⟨B,1,none⟩=some (.slice (some ⟨g',0,none⟩) ws.length aI)) (by kernel_rfl) (S3.drew.r5.cell 1 _ rfl) (fun aH=>?_);refine TYT 0 (.pointer (some ⟨B,1,none⟩)) rfl aH (TYT 1 (.slice (some ⟨g',0,none⟩) ws.length aI) rfl aH ?_);simp only [PS];refine RDT 2 rfl (fun Kq aA=>?_);obtain ⟨yb,aD⟩:∃ y,y=wr.drew:=⟨_,rfl⟩;rw [<-aD];have EB:SpS w yb R a n c (p+1+1) A4 B g sc ss g' aI ws:=by rw [aD];exact S3.drew
    clear aD;refine XRf (by rfl) 26 #[] (by go_simp) (zeros_s _) ?_;rintro e y2 ⟨rfl,aJ⟩;refine ⟨_,rfl,?_⟩;have E2:=EB.below aJ;clear aJ;refine aA.out _ _ (E2.r5.cell 1 _ rfl) (fun aU=>?_)
    try simp only [PS]
    refine TYT 3 (.agg #[.int .i64 3,.string zeros]) rfl aU ?_;simp only [PS];refine RDT 4 rfl (fun Kq aA=>?_);go_simp;have E4:=E2.below (quc y2 (.cells #[.int .i64 3,.string zeros] 74));have lB:=E2.r5.lt;refine aA.out _ _ (E4.r5.cell 1 _ rfl) (fun aX=>?_)
    try simp only [PS]
    refine RDT 5 rfl (fun Kq aA=>?_);refine SAL _ (by rfl) _ _ _ (by rfl) (A4+1) Tryz.underlying24 HI.out rfl (by omega) (.slice (some ⟨g',0,none⟩) ws.length aI) ws.length _ (by rfl) E4.wo ⟨y2.heap.size,0,none⟩ 1 1 [.int .i64 3,.string zeros] (by rfl) rfl (World.news_of_block (heap_alloc_new y2 _)) (qXa _ _) (by simp;omega) (y2.heap.size+1) (by simp) ?_;intro kk cap yA aE aB aS aY;have aC:yA.ownsRow (A4+1) 74 2 (.slice (some ⟨kk,0,none⟩) (ws++[(3,zeros)]).length cap) (ws++[(3,zeros)]).length (yaV (ws++[(3,zeros)])):=by rw [QXs,List.length_append];exact aE
    obtain ⟨rA,GA⟩:=E4.pushW aC aB aS (by simp);clear aE aB aS aC;refine aA.out _ _ (rA.cell 1 _ rfl) (fun bV=>?_)
    try simp only [PS]
    refine TYT 6 (.pointer (some ⟨B,1,none⟩)) rfl bV ?_;simp only [PS];refine kPc (rs:=[7]) (by kernel_rfl) (by simp) ?_;refine AllReadyT.last rfl (fun Kq aA=>?_);have l0:=rA.cell 1 _ rfl;have l1:=rA.froz 1 (by simp);have l2:=rA.lt;go_simp;clear l0 l1 l2;refine aA.out _ _ trivial (fun _=>?_)
    try simp only [PS]
    refine kgn (by kernel_rfl) ?_ _;rw [List.length_append] at GA;have aO:=hid (bZ.out.pushW (3,zeros) (by omega) Qt0);obtain ⟨l2,e2⟩:∃ l:List WrT,l=ws++[(3,zeros)]:=⟨_,rfl⟩;have eF:l2.length=ws.length+1:=by rw [e2,List.length_append];rfl
    rw [<-e2] at aO GA;generalize aN:World.setCell _ _ _=yC at GA ⊢;clear aN e2 rA;have cY:=XX0 (S3.r5.cell 1 _ rfl);have cZ:=XX0 (GA.r5.cell 1 _ rfl);go_wp2_with fail;go_roundw
    case rel=>exact ⟨kk,cap,l2,aO.out,by omega,GA⟩
    case measure=>(try rw [cY,cZ]);omega
   ·have bW:¬ (ws.length:Int)<(N:Int):=by omega
    have q0:=S3.r5.cell 0 _ rfl;have q1:=S3.r5.cell 1 _ rfl;have ql:=S3.r5.lt;have f0:=S3.r4.cell 0 _ rfl;have f1:=S3.r4.cell 1 _ rfl;obtain ⟨f2,f3⟩:=S3.r4.z2;have fl:=S3.r4.lt;have aV:A4≠B:=by omega
    have aW:B≠A4:=by omega
    go_wp2;clear q0 q1 ql f0 f1 f2 f3 fl aV aW;obtain ⟨r8,aM,aK,aL,aG⟩:=S3.fin ss.length (Nat.le_refl _) (.slice (some ⟨g,0,none⟩) ss.length sc) (.slice (some ⟨g',0,none⟩) ws.length aI);rw [List.take_length] at aG;generalize aF:World.setCell _ _ _=y8 at r8 aM aK aL aG ⊢;clear aF;have z0:=r8.cell 0 _ rfl;have z1:=r8.cell 1 _ rfl;have z2:=r8.lt;exact bodyPost_ret (v:=.agg #[.slice (some ⟨g,0,none⟩) ss.length sc,.slice (some ⟨g',0,none⟩) ws.length aI]) (by simp [results,Tryz.results47,go_sem,z0,z1]) rfl ⟨⟨ss,ws,g,sc,g',aI,rfl,bZ.out,aL,aG⟩,⟨p+1+1,by omega,by omega,aM⟩,aK⟩
 ·go_wp2_with fail
  refine (ZfV R a n c (p+1) 2 _ S1.rd (by omega)).mono ?_;rintro e v6 ⟨⟨z,rfl,z0,z1⟩,hr,hg⟩;have S2:=S1.pick hr hg;clear S1 hr hg;obtain ⟨N,hN⟩:∃ N:Nat,(200:Int)+z=(N:Int):=⟨(200+z).toNat,by omega⟩;have eK:IntKind.i64.wrap ((200:Int)+z)=(N:Int):=by rw [hN];exact vRg _ (by omega) (by omega)
  have eB:N<=201:=by omega
  have dE:IntKind.i64.wrap (N:Int)=(N:Int):=vRg _ (by omega) (by omega);have eC:200<=N:=by omega
  have q0:=S2.r5.cell 0 _ rfl;have q1:=S2.r5.cell 1 _ rfl;have ql:=S2.r5.lt;go_wp2_with fail;clear q0 q1 ql;go_loopw [105] (fun _ wr=>SpN w wr R a n c (p+1+1) A4 B g' aI ws N) (fun _ wr=>400-kki (wr.cell? ⟨B,0,none⟩))
  case atStart=>exact ⟨g,sc,ss,aZ.out,by omega,S2⟩
  case round =>
   obtain ⟨g,sc,ss,cM,eG,S3⟩:=hrel;have bZ:=hid cM;clear S2 aZ cM
   by_cases eH:ss.length<N
   ·have bW:(ss.length:Int)<(N:Int):=by omega
    have q0:=S3.r5.cell 0 _ rfl;have q1:=S3.r5.cell 1 _ rfl;have ql:=S3.r5.lt;go_upto_region 21 with fail;clear q0 q1 ql;refine yO4 (6) (S:=fun w'=>w'.cell? ⟨B,0,none⟩=some (.slice (some ⟨g,0,none⟩) ss.length sc)) (by kernel_rfl) (S3.drew.r5.cell 0 _ rfl) (fun aH=>?_);refine TYT 0 (.pointer (some ⟨B,0,none⟩)) rfl aH (TYT 1 (.slice (some ⟨g,0,none⟩) ss.length sc) rfl aH ?_);simp only [PS];refine RDT 2 rfl (fun Kq aA=>?_);obtain ⟨yb,aD⟩:∃ y,y=wr.drew:=⟨_,rfl⟩;rw [<-aD];have EB:SpS w yb R a n c (p+1+1) A4 B g sc ss g' aI ws:=by rw [aD];exact S3.drew
    clear aD;refine XRf (by rfl) 26 #[] (by go_simp) (zeros_s _) ?_;rintro e y2 ⟨rfl,aJ⟩;refine ⟨_,rfl,?_⟩;have E2:=EB.below aJ;clear aJ;refine aA.out _ _ (E2.r5.cell 0 _ rfl) (fun aU=>?_)
    try simp only [PS]
    refine RDT 3 rfl (fun Kq aA=>?_);go_simp;have E4:=E2.below (quc y2 (.cells #[.string zeros] 9));have lB:=E2.r5.lt;refine aA.out _ _ (E4.r5.cell 0 _ rfl) (fun aX=>?_)
    try simp only [PS]
    refine RDT 4 rfl (fun Kq aA=>?_);refine SAL _ (by rfl) _ _ _ (by rfl) (A4+1) Tryz.underlying23 HJ.out rfl (by omega) (.slice (some ⟨g,0,none⟩) ss.length sc) ss.length _ (by rfl) E4.so ⟨y2.heap.size,0,none⟩ 1 1 [.string zeros] (by rfl) rfl (World.news_of_block (heap_alloc_new y2 _)) (xeS _) (by simp;omega) (y2.heap.size+1) (by simp) ?_;intro kk cap yA aE aB aS aY;have aC:yA.ownsRow (A4+1) 9 1 (.slice (some ⟨kk,0,none⟩) (ss++[zeros]).length cap) (ss++[zeros]).length ((ss++[zeros]).map Value.string):=by rw [List.map_append,List.length_append];exact aE
    obtain ⟨rA,GA⟩:=E4.pushS aC aB aS (by simp);clear aE aB aS aC;refine aA.out _ _ (rA.cell 0 _ rfl) (fun bV=>?_)
    try simp only [PS]
    refine TYT 5 (.pointer (some ⟨B,0,none⟩)) rfl bV ?_;simp only [PS];refine kPc (rs:=[6]) (by kernel_rfl) (by simp) ?_;refine AllReadyT.last rfl (fun Kq aA=>?_);have l0:=rA.cell 0 _ rfl;have l1:=rA.froz 0 (by simp);have l2:=rA.lt;go_simp;clear l0 l1 l2;refine aA.out _ _ trivial (fun _=>?_)
    try simp only [PS]
    refine kgn (by kernel_rfl) ?_ _;rw [List.length_append] at GA;have aO:=hid (bZ.out.pushS zeros (by omega) Qt0);obtain ⟨l2,e2⟩:∃ l:List ByteArray,l=ss++[zeros]:=⟨_,rfl⟩;have eF:l2.length=ss.length+1:=by rw [e2,List.length_append];rfl
    rw [<-e2] at aO GA;generalize aN:World.setCell _ _ _=yC at GA ⊢;clear aN e2 rA;have cY:=XX0 (S3.r5.cell 0 _ rfl);have cZ:=XX0 (GA.r5.cell 0 _ rfl);go_wp2_with fail;go_roundw
    case rel=>exact ⟨kk,cap,l2,aO.out,by omega,GA⟩
    case measure=>(try rw [cY,cZ]);omega
   ·have bW:¬ (ss.length:Int)<(N:Int):=by omega
    have q0:=S3.r5.cell 0 _ rfl;have q1:=S3.r5.cell 1 _ rfl;have ql:=S3.r5.lt;have f0:=S3.r4.cell 0 _ rfl;have f1:=S3.r4.cell 1 _ rfl;obtain ⟨f2,f3⟩:=S3.r4.z2;have fl:=S3.r4.lt;have aV:A4≠B:=by omega
    have aW:B≠A4:=by omega
    go_wp2;clear q0 q1 ql f0 f1 f2 f3 fl aV aW;obtain ⟨r8,aM,aK,aL,aG⟩:=S3.fin ss.length (Nat.le_refl _) (.slice (some ⟨g,0,none⟩) ss.length sc) (.slice (some ⟨g',0,none⟩) ws.length aI);rw [List.take_length] at aG;generalize aF:World.setCell _ _ _=y8 at r8 aM aK aL aG ⊢;clear aF;have z0:=r8.cell 0 _ rfl;have z1:=r8.cell 1 _ rfl;have z2:=r8.lt;exact bodyPost_ret (v:=.agg #[.slice (some ⟨g,0,none⟩) ss.length sc,.slice (some ⟨g',0,none⟩) ws.length aI]) (by simp [results,Tryz.results47,go_sem,z0,z1]) rfl ⟨⟨ss,ws,g,sc,g',aI,rfl,bZ.out,aL,aG⟩,⟨p+1+1,by omega,by omega,aM⟩,aK⟩
 ·have q0:=S1.r5.cell 0 _ rfl
  have q1:=S1.r5.cell 1 _ rfl;have ql:=S1.r5.lt;go_upto_region 4 with fail;clear q0 q1 ql;refine yO4 (15) (S:=fun w'=>w'.cell? ⟨B,0,none⟩=some (.slice (some ⟨g,0,none⟩) ss.length sc)) (by kernel_rfl) (S1.drew.r5.cell 0 _ rfl) (fun aH=>?_);refine TYT 0 (.pointer (some ⟨B,0,none⟩)) rfl aH (TYT 1 (.slice (some ⟨g,0,none⟩) ss.length sc) rfl aH (TYT 2 (.pointer (some ⟨R,0,none⟩)) rfl aH (TYT 5 (.pointer (some ⟨B,0,none⟩)) rfl aH (TYT 6 (.slice (some ⟨g,0,none⟩) ss.length sc) rfl aH (TYT 7 (.pointer (some ⟨R,0,none⟩)) rfl aH (TYT 8 (.pointer (some ⟨B,0,none⟩)) rfl aH (TYT 9 (.slice (some ⟨g,0,none⟩) ss.length sc) rfl aH (TYT 10 (.int .i64 (ss.length:Int)) rfl aH ?_))))))));simp only [PS];refine RDT 3 rfl (fun Kq aA=>?_);obtain ⟨yb,aD⟩:∃ y,y=v5.drew:=⟨_,rfl⟩;rw [<-aD];have EB:SpS w yb R a n c (p+1) A4 B g sc ss g' aI ws:=by rw [aD];exact S1.drew
  clear aD;refine XRf (by rfl) _ _ (by go_simp) (ZfV R a n c (p+1) 2 _ EB.rd (by omega)) ?_;rintro e y3 ⟨⟨t',rfl,t0,t1⟩,hr,hg⟩;refine ⟨_,rfl,?_⟩;have E3:=EB.pick hr hg;clear hr hg;obtain ⟨r,eI⟩:∃ k:Nat,(2:Int)+t'=(k:Int):=⟨(2+t').toNat,by omega⟩;have eY:IntKind.i64.wrap ((2:Int)+t')=(r:Int):=by rw [eI];exact vRg _ (by omega) (by omega)
  have eL:IntKind.i64.wrap (r:Int)=(r:Int):=vRg _ (by omega) (by omega);have dV:r<ss.length:=by omega
  have eV:(r:Int)<(ss.length:Int):=by omega
  refine aA.out _ _ (E3.r5.cell 0 _ rfl) (fun aU=>?_)
  try simp only [PS]
  refine TYT 4 (.int .i64 (r:Int)) rfl aU ?_;simp only [PS];refine RDT 11 rfl (fun Kq aA=>?_);refine XRf (by rfl) _ _ (by go_simp) (ZfV R a n c (p+1+1) (ss.length:Int) _ E3.rd (by omega)) ?_;rintro e eO ⟨⟨u',rfl,u0,u1⟩,hr,hg⟩;refine ⟨_,rfl,?_⟩;have bQ:=E3.pick hr hg;clear hr hg;obtain ⟨u,rfl⟩:∃ k:Nat,u'=(k:Int):=⟨u'.toNat,by omega⟩;have ul:u<ss.length:=by omega
  have ui:(u:Int)<((ss.length:Nat):Int):=by omega
  refine aA.out _ _ (bQ.r5.cell 0 _ rfl) (fun aX=>?_)
  try simp only [PS]
  refine TYT 12 (.pointer (some ⟨g,u,none⟩)) rfl aX ?_;simp only [PS];refine RDT 13 rfl (fun Kq aA=>?_);obtain ⟨su,dY⟩:∃ s:ByteArray,eO.cell? ⟨g,u,none⟩=some (.string s)/\s∈ss:=⟨ss[u],by have:=bQ.so.cellAt u (by simpa using ul);rw [this];simp,List.getElem_mem _⟩;have lg:=bQ.lg.1.2;have cg:=dY.1;go_simp;clear cg lg;refine aA.out _ _ aX (fun _=>?_)
  try simp only [PS]
  refine TYT 14 (.pointer (some ⟨g,r,none⟩)) rfl aX ?_;simp only [PS];refine kPc (rs:=[15]) (by kernel_rfl) (by simp) ?_;refine AllReadyT.last rfl (fun Kq aA=>?_);have cg:=bQ.so.cellAt r (by simpa using dV);have fg:=bQ.so.frozenAt r;have lg:=bQ.lg.1.2;go_simp;clear cg fg lg;refine aA.out _ _ trivial (fun _=>?_)
  try simp only [PS]
  refine kgn (by kernel_rfl) ?_ _;have E8:=bQ.sect r dV su;have aO:=hid (aZ.out.set r su (aZ.out.1.2 su dY.2));obtain ⟨s8,e8⟩:∃ l,l=ss.set r su:=⟨_,rfl⟩;rw [<-e8] at E8 aO;generalize bU:World.setCell _ _ _=y7 at E8 ⊢;clear bU e8;have q0:=E8.r5.cell 0 _ rfl;have q1:=E8.r5.cell 1 _ rfl;have ql:=E8.r5.lt;have f0:=E8.r4.cell 0 _ rfl;have f1:=E8.r4.cell 1 _ rfl;obtain ⟨f2,f3⟩:=E8.r4.z2;have fl:=E8.r4.lt;have aV:A4≠B:=by omega
  have aW:B≠A4:=by omega
  go_wp2;clear q0 q1 ql f0 f1 f2 f3 fl aV aW;obtain ⟨r8,aM,aK,aL,aG⟩:=E8.fin s8.length (Nat.le_refl _) (.slice (some ⟨g,0,none⟩) s8.length sc) (.slice (some ⟨g',0,none⟩) ws.length aI);rw [List.take_length] at aG;generalize aF:World.setCell _ _ _=y8 at r8 aM aK aL aG ⊢;clear aF;have z0:=r8.cell 0 _ rfl;have z1:=r8.cell 1 _ rfl;have z2:=r8.lt;exact bodyPost_ret (v:=.agg #[.slice (some ⟨g,0,none⟩) s8.length sc,.slice (some ⟨g',0,none⟩) ws.length aI]) (by simp [results,Tryz.results47,go_sem,z0,z1]) rfl ⟨⟨s8,ws,g,sc,g',aI,rfl,aO.out,aL,aG⟩,⟨p+1+1+1,by omega,by omega,aM⟩,aK⟩
end Go.Proofs.YtehbpeinnepdcaaGreatDoor
