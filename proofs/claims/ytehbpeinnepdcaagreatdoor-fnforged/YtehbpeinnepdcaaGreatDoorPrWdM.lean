import Derived.Test.YtehbpeinnepdcaaGreatDoorPrG48
set_option maxHeartbeats 16000000
namespace Go.Proofs.YtehbpeinnepdcaaGreatDoor
open Go.RowKit Go.Proofs.YtehbpeinnepdcaaGreatDoor.nw
set_option maxRecDepth 8000
set_option linter.unusedVariables false
set_option linter.unusedSimpArgs false
theorem BdX.fin {w0 w:World} {e:TypeId} {k:Nat} {R:Nat} {a:Option Addr} {n c:Nat} {q:Int} {xs:List Value} (h:BdX w0 w e k R a n c q (.slice none 0 0) 0 [] w0.heap.size xs) (vs:List Value) (hl:vs.length=xs.length) :
  Row (w.setCells w0.heap.size 0 vs) w0.heap.size vs/\Rdr (w.setCells w0.heap.size 0 vs) R a n c q/\w0.grownBy (w.setCells w0.heap.size 0 vs) (some R)/\w.grownBy (w.setCells w0.heap.size 0 vs) (some w0.heap.size):=by
 have G:=Qvn w w0.heap.size 0 vs;have hb:Below w0.heap.size w (w.setCells w0.heap.size 0 vs):=jJX G h.s.lt (fun g e=>by cases e;exact Nat.le_refl _);have g0:=h.s.gr;exact ⟨h.row.sets vs hl,h.s.rd.keep (N:=w0.heap.size) h.s.lR h.s.ga hb,⟨hb.os.trans g0.os,hb.tape.trans g0.tape,hb.output.trans g0.output,Nat.le_trans g0.size hb.size,fun i hi hr=>(hb.block i hi).trans (g0.block i hi hr)⟩,G⟩
def Ztf (w wx:World) (R:Nat) (a:Option Addr) (n c:Nat) (p:Int):Prop:=∃ m wd q,(8<=m/\m<=40)/\(1<=wd/\wd<=8)/\Row wx w.heap.size [.int .i64 (yNz m wd).w,.slice q.a (yNz m wd).ss.length q.c,.slice q.a' (yNz m wd).ws.length q.c',.bool (yNz m wd).up,.int .i64 (yNz m wd).W,.int .i64 (yNz m wd).S,.int .i64 (yNz m wd).L,.int .i64 (yNz m wd).T,.int .i64 (yNz m wd).H,.int .i64 (yNz m wd).F,.int .i64 (yNz m wd).R,.int .i64 (yNz m wd).U,.int .i64 (yNz m wd).O,.slice q.s (yNz m wd).rs.length q.cs,.slice q.p (yNz m wd).P.length q.cp,.slice q.t (yNz m wd).ts.length q.ct]/\WoF (yNz m wd) wx (fun b=>w.heap.size<=b) q/\Rdr wx R a n c p/\w.grownBy wx (some R)
def xBt (w w':World) (r:Ending):Prop:=∃ m wd q,(8<=m/\m<=40)/\(1<=wd/\wd<=8)/\r=.returned (Zov (yNz m wd) q)/\WoF (yNz m wd) w' (fun b=>w.heap.size<=b) q
theorem Z09 (R:Nat) (a:Option Addr) (n c:Nat) (p:Int) (w:World) (h:Rdr w R a n c p) (hp:p<99980000):Calls Tryz.prog 44 #[.pointer (some ⟨R,0,none⟩)] w fun r w'=>xBt w w' r/\Zlg w R a n c p 2 w':=by
 have p0:=h.p0;have D0:BdX w (w.alloc (.cells #[.int .i64 0,.slice none 0 0,.slice none 0 0,.bool false,.int .i64 0,.int .i64 0,.int .i64 0,.int .i64 0,.int .i64 0,.int .i64 0,.int .i64 0,.int .i64 0,.int .i64 0,.slice none 0 0,.slice none 0 0,.slice none 0 0] 36)) 3 1 R a n c p (.slice none 0 0) 0 [] w.heap.size [.int .i64 0,.slice none 0 0,.slice none 0 0,.bool false,.int .i64 0,.int .i64 0,.int .i64 0,.int .i64 0,.int .i64 0,.int .i64 0,.int .i64 0,.int .i64 0,.int .i64 0,.slice none 0 0,.slice none 0 0,.slice none 0 0]:=⟨⟨h.below (quc _ _),World.ownsRow_nil _ _ _ _,Qbp _ (quc _ _),h.lts.1,h.lts.2⟩,xER _ _ _,fun e=>(by cases e),Nat.le_refl _⟩;go_enter Tryz.func44,Tryz.ntmps44;go_upto_region 1 with fail;go_cut [] from 3 to 10 (fun wx=>Ztf w wx R a n c (p+1+1))
 case rest =>
  obtain ⟨z,wd,q7,aK,aQ,r8,F8,aE,aD⟩:=hcut;go_wp2;obtain ⟨z0,z1,z2,z3,z4,z5,z6,z7,z8,z9,aS,aT,aU,aV,aW,aX,aY⟩:=c16 r8;exact bodyPost_ret (v:=.agg (wA (yNz z wd) q7)) (by simp [results,Tryz.results44,go_sem,z0,z1,z2,z3,z4,z5,z6,z7,z8,z9,aS,aT,aU,aV,aW,aX]) rfl ⟨⟨z,wd,q7,aK,aQ,rfl,F8⟩,⟨p+1+1,by omega,by omega,aE⟩,aD⟩
 case first =>
 obtain ⟨v0,aN⟩:∃ y,y=w.alloc (.cells #[.int .i64 0,.slice none 0 0,.slice none 0 0,.bool false,.int .i64 0,.int .i64 0,.int .i64 0,.int .i64 0,.int .i64 0,.int .i64 0,.int .i64 0,.int .i64 0,.int .i64 0,.slice none 0 0,.slice none 0 0,.slice none 0 0] 36):=⟨_,rfl⟩;rw [<-aN] at D0 ⊢;clear aN;refine wp_region_held_drew (S:=fun w'=>True) (by kernel_rfl) (trivial) (fun aB=>?_);refine TY 1 (.pointer (some ⟨R,0,none⟩)) rfl aB (TY 5 (.pointer (some ⟨R,0,none⟩)) rfl aB ?_);simp only [PS];refine wpAnyH_ready (rs:=[0,2]) (by kernel_rfl) (by simp) ?_;refine AllReadyH.cons rfl (fun Kq aA=>?_) (AllReadyH.cons rfl (fun Kq aA=>?_) AllReadyH.nil)
 ·obtain ⟨yb,aF⟩:∃ y,y=v0.drew:=⟨_,rfl⟩
  rw [<-aF];have DB:BdX w yb 3 1 R a n c p (.slice none 0 0) 0 [] w.heap.size [.int .i64 0,.slice none 0 0,.slice none 0 0,.bool false,.int .i64 0,.int .i64 0,.int .i64 0,.int .i64 0,.int .i64 0,.int .i64 0,.int .i64 0,.int .i64 0,.int .i64 0,.slice none 0 0,.slice none 0 0,.slice none 0 0]:=by rw [aF];exact D0.drew
  clear aF;go_simp;have E0:=DB.below (quc yb (.cells #[.int .i64 8,.int .i64 9,.int .i64 10,.int .i64 12,.int .i64 16,.int .i64 24,.int .i64 40] 3));have rX:=xER yb #[.int .i64 8,.int .i64 9,.int .i64 10,.int .i64 12,.int .i64 16,.int .i64 24,.int .i64 40] 3;have xl:=DB.s.lR;have x0:=DB.s.lt;obtain ⟨X,aG⟩:∃ z,z=yb.heap.size:=⟨_,rfl⟩;obtain ⟨y0,aH⟩:∃ z,z=yb.alloc (.cells #[.int .i64 8,.int .i64 9,.int .i64 10,.int .i64 12,.int .i64 16,.int .i64 24,.int .i64 40] 3):=⟨_,rfl⟩;have aP:R<X:=by rw [aG];omega
  rw [<-aG,<-aH] at rX;rw [<-aH] at E0;rw [<-aH,<-aG];clear aH aG;refine aA.out _ _ aB (fun _=>?_)
  try simp only [PS]
  refine RD 2 rfl (fun Kq aA=>?_);refine XRf (by rfl) _ _ (by go_simp) (ZfV R a n c (p) 7 _ E0.s.rd (by omega)) ?_;rintro e y2 ⟨⟨t',rfl,t0,t1⟩,hr,hg⟩;refine ⟨_,rfl,?_⟩;have E2:=E0.pick hr hg;have rX:=rX.grown hg (fun e=>by injection e with e;omega);obtain ⟨t,rfl⟩:∃ k:Nat,t'=(k:Int):=⟨t'.toNat,by omega⟩;have t6:t<7:=by omega
  have aR:(t:Int)<7:=by omega
  clear hr hg
  obtain ⟨z,hz,aK⟩:∃ z:Int,([.int .i64 8,.int .i64 9,.int .i64 10,.int .i64 12,.int .i64 16,.int .i64 24,.int .i64 40]:List Value)[t]?=some (.int .i64 z)/\(8<=z/\z<=40):=by rcases t with _ | _ | _ | _ | _ | _ | _ | t<;>first | exact ⟨_,rfl,by omega⟩ | omega
  have cX:=rX.cell t _ hz;refine aA.out _ _ aB (fun _=>?_)
  try simp only [PS]
  refine TY 3 (.pointer (some ⟨X,t,none⟩)) rfl aB ?_;simp only [PS];refine wpAnyH_ready (rs:=[4,6]) (by kernel_rfl) (by simp) ?_;refine AllReadyH.cons rfl (fun Kq aA=>?_) (AllReadyH.cons rfl (fun Kq aA=>?_) AllReadyH.nil)
  ·go_simp
   refine aA.out _ _ aB (fun _=>?_)
   try simp only [PS]
   refine RD 6 rfl (fun Kq aA=>?_);refine XRf (by rfl) _ _ (by go_simp) (jmi R a n c (p+1) _ E2.s.rd (by omega)) ?_;rintro e y6 ⟨⟨wd,rfl,aL,aM⟩,hr,hg⟩;refine ⟨_,rfl,?_⟩;have E6:=E2.pick hr hg;have rX:=rX.grown hg (fun e=>by injection e with e;omega);clear hr hg;have cX:=rX.cell t _ hz;refine aA.out _ _ aB (fun _=>?_)
   try simp only [PS]
   refine RD 7 rfl (fun Kq aA=>?_);refine XRf (by rfl) _ _ (by go_simp) (ZY5 z wd _ (by omega) (by omega)) ?_;have aO:=E6.row.lt;rintro e y7 ⟨q7,rfl,F7,aJ⟩;refine ⟨_,rfl,?_⟩;have E7:=E6.below aJ;unfold Zov;refine aA.out _ _ aB (fun _=>?_)
   try simp only [PS]
   refine RD 8 rfl (fun Kq aA=>?_);refine jau (by rfl) 36 _ _ (by rfl) w.heap.size 0 (wA (yNz z wd) q7) (by rfl) (by rfl) (E7.row.there rfl) ZAx (by kernel_rfl) ?_;refine aA.out _ _ aB (fun _=>?_)
   try simp only [PS]
   refine DN ?_;obtain ⟨r8,aE,aD,aI⟩:=E7.fin (wL (yNz z wd) q7) rfl;have F8:=F7.grown aI (fun g e k=>by cases e;rcases k with k | k;exact k;omega);generalize aC:y7.setCells _ _ _=y8 at r8 aE aD aI F8 ⊢;clear aC;go_wp2_with fail;go_meet;exact ⟨z,wd,q7,aK,⟨aL,aM⟩,r8,F8.mono (fun b _ k=>by rcases k with k | k;exact k.elim;omega),aE,aD⟩
  ·refine XRf (by rfl) _ _ (by go_simp) (jmi R a n c (p+1) _ E2.s.rd (by omega)) ?_
   rintro e y6 ⟨⟨wd,rfl,aL,aM⟩,hr,hg⟩;refine ⟨_,rfl,?_⟩;have E6:=E2.pick hr hg;have rX:=rX.grown hg (fun e=>by injection e with e;omega);clear hr hg;have cX:=rX.cell t _ hz;refine aA.out _ _ aB (fun _=>?_)
   try simp only [PS]
   refine RD 4 rfl (fun Kq aA=>?_);go_simp;refine aA.out _ _ aB (fun _=>?_)
   try simp only [PS]
   refine RD 7 rfl (fun Kq aA=>?_);refine XRf (by rfl) _ _ (by go_simp) (ZY5 z wd _ (by omega) (by omega)) ?_;have aO:=E6.row.lt;rintro e y7 ⟨q7,rfl,F7,aJ⟩;refine ⟨_,rfl,?_⟩;have E7:=E6.below aJ;unfold Zov;refine aA.out _ _ aB (fun _=>?_)
   try simp only [PS]
   refine RD 8 rfl (fun Kq aA=>?_);refine jau (by rfl) 36 _ _ (by rfl) w.heap.size 0 (wA (yNz z wd) q7) (by rfl) (by rfl) (E7.row.there rfl) ZAx (by kernel_rfl) ?_;refine aA.out _ _ aB (fun _=>?_)
   try simp only [PS]
   refine DN ?_;obtain ⟨r8,aE,aD,aI⟩:=E7.fin (wL (yNz z wd) q7) rfl;have F8:=F7.grown aI (fun g e k=>by cases e;rcases k with k | k;exact k;omega);generalize aC:y7.setCells _ _ _=y8 at r8 aE aD aI F8 ⊢;clear aC;go_wp2_with fail;go_meet;exact ⟨z,wd,q7,aK,⟨aL,aM⟩,r8,F8.mono (fun b _ k=>by rcases k with k | k;exact k.elim;omega),aE,aD⟩
 ·obtain ⟨yb,aF⟩:∃ y,y=v0.drew:=⟨_,rfl⟩
  rw [<-aF];have DB:BdX w yb 3 1 R a n c p (.slice none 0 0) 0 [] w.heap.size [.int .i64 0,.slice none 0 0,.slice none 0 0,.bool false,.int .i64 0,.int .i64 0,.int .i64 0,.int .i64 0,.int .i64 0,.int .i64 0,.int .i64 0,.int .i64 0,.int .i64 0,.slice none 0 0,.slice none 0 0,.slice none 0 0]:=by rw [aF];exact D0.drew
  clear aF;refine XRf (by rfl) _ _ (by go_simp) (ZfV R a n c (p) 7 _ DB.s.rd (by omega)) ?_;rintro e y2 ⟨⟨t',rfl,t0,t1⟩,hr,hg⟩;refine ⟨_,rfl,?_⟩;have E2:=DB.pick hr hg;obtain ⟨t,rfl⟩:∃ k:Nat,t'=(k:Int):=⟨t'.toNat,by omega⟩;have t6:t<7:=by omega
  have aR:(t:Int)<7:=by omega
  clear hr hg;refine aA.out _ _ aB (fun _=>?_)
  try simp only [PS]
  refine wpAnyH_ready (rs:=[0,6]) (by kernel_rfl) (by simp) ?_;refine AllReadyH.cons rfl (fun Kq aA=>?_) (AllReadyH.cons rfl (fun Kq aA=>?_) AllReadyH.nil)
  ·go_simp
   have E0:=E2.below (quc y2 (.cells #[.int .i64 8,.int .i64 9,.int .i64 10,.int .i64 12,.int .i64 16,.int .i64 24,.int .i64 40] 3));have rX:=xER y2 #[.int .i64 8,.int .i64 9,.int .i64 10,.int .i64 12,.int .i64 16,.int .i64 24,.int .i64 40] 3;have xl:=E2.s.lR;have x0:=E2.s.lt;obtain ⟨X,aG⟩:∃ z,z=y2.heap.size:=⟨_,rfl⟩;obtain ⟨y0,aH⟩:∃ z,z=y2.alloc (.cells #[.int .i64 8,.int .i64 9,.int .i64 10,.int .i64 12,.int .i64 16,.int .i64 24,.int .i64 40] 3):=⟨_,rfl⟩;have aP:R<X:=by rw [aG];omega
   rw [<-aG,<-aH] at rX;rw [<-aH] at E0;rw [<-aH,<-aG];clear aH aG
   obtain ⟨z,hz,aK⟩:∃ z:Int,([.int .i64 8,.int .i64 9,.int .i64 10,.int .i64 12,.int .i64 16,.int .i64 24,.int .i64 40]:List Value)[t]?=some (.int .i64 z)/\(8<=z/\z<=40):=by rcases t with _ | _ | _ | _ | _ | _ | _ | t<;>first | exact ⟨_,rfl,by omega⟩ | omega
   have cX:=rX.cell t _ hz;refine aA.out _ _ aB (fun _=>?_)
   try simp only [PS]
   refine TY 3 (.pointer (some ⟨X,t,none⟩)) rfl aB ?_;simp only [PS];refine wpAnyH_ready (rs:=[4,6]) (by kernel_rfl) (by simp) ?_;refine AllReadyH.cons rfl (fun Kq aA=>?_) (AllReadyH.cons rfl (fun Kq aA=>?_) AllReadyH.nil)
   ·go_simp
    refine aA.out _ _ aB (fun _=>?_)
    try simp only [PS]
    refine RD 6 rfl (fun Kq aA=>?_);refine XRf (by rfl) _ _ (by go_simp) (jmi R a n c (p+1) _ E0.s.rd (by omega)) ?_;rintro e y6 ⟨⟨wd,rfl,aL,aM⟩,hr,hg⟩;refine ⟨_,rfl,?_⟩;have E6:=E0.pick hr hg;have rX:=rX.grown hg (fun e=>by injection e with e;omega);clear hr hg;have cX:=rX.cell t _ hz;refine aA.out _ _ aB (fun _=>?_)
    try simp only [PS]
    refine RD 7 rfl (fun Kq aA=>?_);refine XRf (by rfl) _ _ (by go_simp) (ZY5 z wd _ (by omega) (by omega)) ?_;have aO:=E6.row.lt;rintro e y7 ⟨q7,rfl,F7,aJ⟩;refine ⟨_,rfl,?_⟩;have E7:=E6.below aJ;unfold Zov;refine aA.out _ _ aB (fun _=>?_)
    try simp only [PS]
    refine RD 8 rfl (fun Kq aA=>?_);refine jau (by rfl) 36 _ _ (by rfl) w.heap.size 0 (wA (yNz z wd) q7) (by rfl) (by rfl) (E7.row.there rfl) ZAx (by kernel_rfl) ?_;refine aA.out _ _ aB (fun _=>?_)
    try simp only [PS]
    refine DN ?_;obtain ⟨r8,aE,aD,aI⟩:=E7.fin (wL (yNz z wd) q7) rfl;have F8:=F7.grown aI (fun g e k=>by cases e;rcases k with k | k;exact k;omega);generalize aC:y7.setCells _ _ _=y8 at r8 aE aD aI F8 ⊢;clear aC;go_wp2_with fail;go_meet;exact ⟨z,wd,q7,aK,⟨aL,aM⟩,r8,F8.mono (fun b _ k=>by rcases k with k | k;exact k.elim;omega),aE,aD⟩
   ·refine XRf (by rfl) _ _ (by go_simp) (jmi R a n c (p+1) _ E0.s.rd (by omega)) ?_
    rintro e y6 ⟨⟨wd,rfl,aL,aM⟩,hr,hg⟩;refine ⟨_,rfl,?_⟩;have E6:=E0.pick hr hg;have rX:=rX.grown hg (fun e=>by injection e with e;omega);clear hr hg;have cX:=rX.cell t _ hz;refine aA.out _ _ aB (fun _=>?_)
    try simp only [PS]
    refine RD 4 rfl (fun Kq aA=>?_);go_simp;refine aA.out _ _ aB (fun _=>?_)
    try simp only [PS]
    refine RD 7 rfl (fun Kq aA=>?_);refine XRf (by rfl) _ _ (by go_simp) (ZY5 z wd _ (by omega) (by omega)) ?_;have aO:=E6.row.lt;rintro e y7 ⟨q7,rfl,F7,aJ⟩;refine ⟨_,rfl,?_⟩;have E7:=E6.below aJ;unfold Zov;refine aA.out _ _ aB (fun _=>?_)
    try simp only [PS]
    refine RD 8 rfl (fun Kq aA=>?_);refine jau (by rfl) 36 _ _ (by rfl) w.heap.size 0 (wA (yNz z wd) q7) (by rfl) (by rfl) (E7.row.there rfl) ZAx (by kernel_rfl) ?_;refine aA.out _ _ aB (fun _=>?_)
    try simp only [PS]
    refine DN ?_;obtain ⟨r8,aE,aD,aI⟩:=E7.fin (wL (yNz z wd) q7) rfl;have F8:=F7.grown aI (fun g e k=>by cases e;rcases k with k | k;exact k;omega);generalize aC:y7.setCells _ _ _=y8 at r8 aE aD aI F8 ⊢;clear aC;go_wp2_with fail;go_meet;exact ⟨z,wd,q7,aK,⟨aL,aM⟩,r8,F8.mono (fun b _ k=>by rcases k with k | k;exact k.elim;omega),aE,aD⟩
  ·refine XRf (by rfl) _ _ (by go_simp) (jmi R a n c (p+1) _ E2.s.rd (by omega)) ?_
   rintro e y6 ⟨⟨wd,rfl,aL,aM⟩,hr,hg⟩;refine ⟨_,rfl,?_⟩;have E6:=E2.pick hr hg;clear hr hg;refine aA.out _ _ aB (fun _=>?_)
   try simp only [PS]
   refine RD 0 rfl (fun Kq aA=>?_);go_simp;have E0:=E6.below (quc y6 (.cells #[.int .i64 8,.int .i64 9,.int .i64 10,.int .i64 12,.int .i64 16,.int .i64 24,.int .i64 40] 3));have rX:=xER y6 #[.int .i64 8,.int .i64 9,.int .i64 10,.int .i64 12,.int .i64 16,.int .i64 24,.int .i64 40] 3;have xl:=E6.s.lR;have x0:=E6.s.lt;obtain ⟨X,aG⟩:∃ z,z=y6.heap.size:=⟨_,rfl⟩;obtain ⟨y0,aH⟩:∃ z,z=y6.alloc (.cells #[.int .i64 8,.int .i64 9,.int .i64 10,.int .i64 12,.int .i64 16,.int .i64 24,.int .i64 40] 3):=⟨_,rfl⟩;have aP:R<X:=by rw [aG];omega
   rw [<-aG,<-aH] at rX;rw [<-aH] at E0;rw [<-aH,<-aG];clear aH aG
   obtain ⟨z,hz,aK⟩:∃ z:Int,([.int .i64 8,.int .i64 9,.int .i64 10,.int .i64 12,.int .i64 16,.int .i64 24,.int .i64 40]:List Value)[t]?=some (.int .i64 z)/\(8<=z/\z<=40):=by rcases t with _ | _ | _ | _ | _ | _ | _ | t<;>first | exact ⟨_,rfl,by omega⟩ | omega
   have cX:=rX.cell t _ hz;refine aA.out _ _ aB (fun _=>?_)
   try simp only [PS]
   refine TY 3 (.pointer (some ⟨X,t,none⟩)) rfl aB ?_;simp only [PS];refine RD 4 rfl (fun Kq aA=>?_);go_simp;refine aA.out _ _ aB (fun _=>?_)
   try simp only [PS]
   refine RD 7 rfl (fun Kq aA=>?_);refine XRf (by rfl) _ _ (by go_simp) (ZY5 z wd _ (by omega) (by omega)) ?_;have aO:=E0.row.lt;rintro e y7 ⟨q7,rfl,F7,aJ⟩;refine ⟨_,rfl,?_⟩;have E7:=E0.below aJ;unfold Zov;refine aA.out _ _ aB (fun _=>?_)
   try simp only [PS]
   refine RD 8 rfl (fun Kq aA=>?_);refine jau (by rfl) 36 _ _ (by rfl) w.heap.size 0 (wA (yNz z wd) q7) (by rfl) (by rfl) (E7.row.there rfl) ZAx (by kernel_rfl) ?_;refine aA.out _ _ aB (fun _=>?_)
   try simp only [PS]
   refine DN ?_;obtain ⟨r8,aE,aD,aI⟩:=E7.fin (wL (yNz z wd) q7) rfl;have F8:=F7.grown aI (fun g e k=>by cases e;rcases k with k | k;exact k;omega);generalize aC:y7.setCells _ _ _=y8 at r8 aE aD aI F8 ⊢;clear aC;go_wp2_with fail;go_meet;exact ⟨z,wd,q7,aK,⟨aL,aM⟩,r8,F8.mono (fun b _ k=>by rcases k with k | k;exact k.elim;omega),aE,aD⟩
end Go.Proofs.YtehbpeinnepdcaaGreatDoor
