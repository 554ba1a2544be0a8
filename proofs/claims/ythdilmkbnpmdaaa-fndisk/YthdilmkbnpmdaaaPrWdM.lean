import Derived.Test.YthdilmkbnpmdaaaPrG40
import Derived.Test.YthdilmkbnpmdaaaPrG46
set_option maxHeartbeats 16000000
namespace Go.Proofs.Ythdilmkbnpmdaaa
open Go.RowKit Go.Proofs.Ythdilmkbnpmdaaa.nw
set_option maxRecDepth 8000
set_option linter.unusedVariables false
set_option linter.unusedSimpArgs false
theorem BdX.fin {w0 w:World} {e:TypeId} {k:Nat} {R:Nat} {a:Option Addr} {n c:Nat} {q:Int} {xs:List Value} (h:BdX w0 w e k R a n c q (.slice none 0 0) 0 [] w0.heap.size xs) (vs:List Value) (hl:vs.length=xs.length) :
  Row (w.setCells w0.heap.size 0 vs) w0.heap.size vs/\Rdr (w.setCells w0.heap.size 0 vs) R a n c q/\w0.grownBy (w.setCells w0.heap.size 0 vs) (some R)/\w.grownBy (w.setCells w0.heap.size 0 vs) (some w0.heap.size):=by
 have G:=grown_sets w w0.heap.size 0 vs
 have hb:Below w0.heap.size w (w.setCells w0.heap.size 0 vs):=grown_below G h.s.lt (fun g e=>by cases e;exact Nat.le_refl _)
 have g0:=h.s.gr
 exact ⟨h.row.sets vs hl,h.s.rd.keep (N:=w0.heap.size) h.s.lR h.s.ga hb,⟨hb.os.trans g0.os,hb.tape.trans g0.tape,hb.output.trans g0.output,Nat.le_trans g0.size hb.size,fun i hi hr=>(hb.block i hi).trans (g0.block i hi hr)⟩,G⟩
def SmEnd (w wx:World) (R:Nat) (a:Option Addr) (n c:Nat) (p:Int):Prop:=∃ m wd q,(8<=m/\m<=40)/\(1<=wd/\wd<=8)/\Row wx w.heap.size [.int .i64 (newWo m wd).w,.slice q.a (newWo m wd).ss.length q.c,.slice q.a' (newWo m wd).ws.length q.c',.bool (newWo m wd).up,.int .i64 (newWo m wd).W,.int .i64 (newWo m wd).S,.int .i64 (newWo m wd).L,.int .i64 (newWo m wd).T,.int .i64 (newWo m wd).H,.int .i64 (newWo m wd).F,.int .i64 (newWo m wd).R,.int .i64 (newWo m wd).U,.int .i64 (newWo m wd).O,.slice q.s (newWo m wd).rs.length q.cs,.slice q.p (newWo m wd).P.length q.cp,.slice q.t (newWo m wd).ts.length q.ct]/\WoF (newWo m wd) wx (fun b=>w.heap.size<=b) q/\Rdr wx R a n c p/\w.grownBy wx (some R)
def SmPost (w w':World) (r:Ending):Prop:=∃ m wd q,(8<=m/\m<=40)/\(1<=wd/\wd<=8)/\r=.returned (worldW (newWo m wd) q)/\WoF (newWo m wd) w' (fun b=>w.heap.size<=b) q
theorem small_r (R:Nat) (a:Option Addr) (n c:Nat) (p:Int) (w:World) (h:Rdr w R a n c p) (hp:p<99980000):Calls Try.prog 37 #[.pointer (some ⟨R,0,none⟩)] w fun r w'=>SmPost w w' r/\RdTo w R a n c p 2 w':=by
 have p0:=h.p0
 have D0:BdX w (w.alloc (.cells #[.int .i64 0,.slice none 0 0,.slice none 0 0,.bool false,.int .i64 0,.int .i64 0,.int .i64 0,.int .i64 0,.int .i64 0,.int .i64 0,.int .i64 0,.int .i64 0,.int .i64 0,.slice none 0 0,.slice none 0 0,.slice none 0 0] 82)) 3 1 R a n c p (.slice none 0 0) 0 [] w.heap.size [.int .i64 0,.slice none 0 0,.slice none 0 0,.bool false,.int .i64 0,.int .i64 0,.int .i64 0,.int .i64 0,.int .i64 0,.int .i64 0,.int .i64 0,.int .i64 0,.int .i64 0,.slice none 0 0,.slice none 0 0,.slice none 0 0]:=⟨⟨h.below (below_nw _ _),World.ownsRow_nil _ _ _ _,grown_of_below _ (below_nw _ _),h.lts.1,h.lts.2⟩,row_new _ _ _,fun e=>(by cases e),Nat.le_refl _⟩
 go_enter Try.func37,Try.ntmps37
 go_upto_region 1 with fail
 go_cut [] from 3 to 10 (fun wx=>SmEnd w wx R a n c (p+1+1))
 case rest =>
  obtain ⟨z,wd,q7,hz0,hwd,r8,F8,hr8,hg8⟩:=hcut
  go_wp2
  obtain ⟨z0,z1,z2,z3,z4,z5,z6,z7,z8,z9,z10,z11,z12,z13,z14,z15,z16⟩:=c16 r8
  exact bodyPost_ret (v:=.agg (wA (newWo z wd) q7)) (by simp [results,Try.results37,go_sem,z0,z1,z2,z3,z4,z5,z6,z7,z8,z9,z10,z11,z12,z13,z14,z15]) rfl ⟨⟨z,wd,q7,hz0,hwd,rfl,F8⟩,⟨p+1+1,by omega,by omega,hr8⟩,hg8⟩
 case first =>
 obtain ⟨v0,e_v0⟩:∃ y,y=w.alloc (.cells #[.int .i64 0,.slice none 0 0,.slice none 0 0,.bool false,.int .i64 0,.int .i64 0,.int .i64 0,.int .i64 0,.int .i64 0,.int .i64 0,.int .i64 0,.int .i64 0,.int .i64 0,.slice none 0 0,.slice none 0 0,.slice none 0 0] 82):=⟨_,rfl⟩
 rw [<-e_v0] at D0 ⊢
 clear e_v0
 refine wp_region_held_drew (S:=fun w'=>True) (by kernel_rfl) (trivial) (fun hHe=>?_)
 refine TY 1 (.pointer (some ⟨R,0,none⟩)) rfl hHe ?_
 simp only [PS]
 refine TY 5 (.pointer (some ⟨R,0,none⟩)) rfl hHe ?_
 simp only [PS]
 refine wpAnyH_ready (rs:=[0,2]) (by kernel_rfl) (by simp) ?_
 refine AllReadyH.cons rfl (fun Kq hKq=>?_) (AllReadyH.cons rfl (fun Kq hKq=>?_) AllReadyH.nil)
 ·obtain ⟨yb,e_yb⟩:∃ y,y=v0.drew:=⟨_,rfl⟩
  rw [<-e_yb]
  have DB:BdX w yb 3 1 R a n c p (.slice none 0 0) 0 [] w.heap.size [.int .i64 0,.slice none 0 0,.slice none 0 0,.bool false,.int .i64 0,.int .i64 0,.int .i64 0,.int .i64 0,.int .i64 0,.int .i64 0,.int .i64 0,.int .i64 0,.int .i64 0,.slice none 0 0,.slice none 0 0,.slice none 0 0]:=by rw [e_yb];exact D0.drew
  clear e_yb
  go_simp
  have E0:=DB.below (below_nw yb (.cells #[.int .i64 8,.int .i64 9,.int .i64 10,.int .i64 12,.int .i64 16,.int .i64 24,.int .i64 40] 3))
  have rX:=row_new yb #[.int .i64 8,.int .i64 9,.int .i64 10,.int .i64 12,.int .i64 16,.int .i64 24,.int .i64 40] 3
  have xl:=DB.s.lR
  have x0:=DB.s.lt
  obtain ⟨X,e_X⟩:∃ z,z=yb.heap.size:=⟨_,rfl⟩
  obtain ⟨y0,e_y⟩:∃ z,z=yb.alloc (.cells #[.int .i64 8,.int .i64 9,.int .i64 10,.int .i64 12,.int .i64 16,.int .i64 24,.int .i64 40] 3):=⟨_,rfl⟩
  have hXR:R<X:=by rw [e_X];omega
  rw [<-e_X,<-e_y] at rX
  rw [<-e_y] at E0
  rw [<-e_y,<-e_X]
  clear e_y e_X
  refine hKq.out _ _ hHe (fun _=>?_)
  try simp only [PS]
  refine RD 2 rfl (fun Kq hKq=>?_)
  refine step_call (by rfl) 15 #[.pointer (some ⟨R,0,none⟩),.int .i64 7] (by go_simp) (pick_r R a n c (p) 7 _ E0.s.rd (by omega)) ?_
  rintro e y2 ⟨⟨t',rfl,t0,t1⟩,hr,hg⟩
  refine ⟨_,rfl,?_⟩
  have E2:=E0.pick hr hg
  have rX:=rX.grown hg (fun e=>by injection e with e;omega)
  obtain ⟨t,rfl⟩:∃ k:Nat,t'=(k:Int):=⟨t'.toNat,by omega⟩
  have t6:t<7:=by omega
  have t6i:(t:Int)<7:=by omega
  clear hr hg
  obtain ⟨z,hz,hz0⟩:∃ z:Int,([.int .i64 8,.int .i64 9,.int .i64 10,.int .i64 12,.int .i64 16,.int .i64 24,.int .i64 40]:List Value)[t]?=some (.int .i64 z)/\(8<=z/\z<=40):=by rcases t with _ | _ | _ | _ | _ | _ | _ | t<;>first | exact ⟨_,rfl,by omega⟩ | omega
  have cX:=rX.cell t _ hz
  refine hKq.out _ _ hHe (fun _=>?_)
  try simp only [PS]
  refine TY 3 (.pointer (some ⟨X,t,none⟩)) rfl hHe ?_
  simp only [PS]
  refine wpAnyH_ready (rs:=[4,6]) (by kernel_rfl) (by simp) ?_
  refine AllReadyH.cons rfl (fun Kq hKq=>?_) (AllReadyH.cons rfl (fun Kq hKq=>?_) AllReadyH.nil)
  ·go_simp
   refine hKq.out _ _ hHe (fun _=>?_)
   try simp only [PS]
   refine RD 6 rfl (fun Kq hKq=>?_)
   refine step_call (by rfl) 45 #[.pointer (some ⟨R,0,none⟩)] (by go_simp) (width_r R a n c (p+1) _ E2.s.rd (by omega)) ?_
   rintro e y6 ⟨⟨wd,rfl,wd0,wd1⟩,hr,hg⟩
   refine ⟨_,rfl,?_⟩
   have E6:=E2.pick hr hg
   have rX:=rX.grown hg (fun e=>by injection e with e;omega)
   clear hr hg
   have cX:=rX.cell t _ hz
   refine hKq.out _ _ hHe (fun _=>?_)
   try simp only [PS]
   refine RD 7 rfl (fun Kq hKq=>?_)
   refine step_call (by rfl) 41 #[.int .i64 z,.int .i64 wd] (by go_simp) (nw_w z wd _ (by omega) (by omega)) ?_
   have hs7:=E6.row.lt
   rintro e y7 ⟨q7,rfl,F7,hb7⟩
   refine ⟨_,rfl,?_⟩
   have E7:=E6.below hb7
   unfold worldW
   refine hKq.out _ _ hHe (fun _=>?_)
   try simp only [PS]
   refine RD 8 rfl (fun Kq hKq=>?_)
   refine step_store_mid (by rfl) 82 _ _ (by rfl) w.heap.size 0 (wA (newWo z wd) q7) (by rfl) (by rfl) (E7.row.there rfl) info_wo (by kernel_rfl) ?_
   refine hKq.out _ _ hHe (fun _=>?_)
   try simp only [PS]
   refine DN ?_
   obtain ⟨r8,hr8,hg8,hG8⟩:=E7.fin (wL (newWo z wd) q7) rfl
   have F8:=F7.grown hG8 (fun g e k=>by cases e;rcases k with k | k;exact k;omega)
   generalize e_y8:y7.setCells _ _ _=y8 at r8 hr8 hg8 hG8 F8 ⊢
   clear e_y8
   go_wp2_with fail
   go_meet
   exact ⟨z,wd,q7,hz0,⟨wd0,wd1⟩,r8,F8.mono (fun b _ k=>by rcases k with k | k;exact k.elim;omega),hr8,hg8⟩
  ·refine step_call (by rfl) 45 #[.pointer (some ⟨R,0,none⟩)] (by go_simp) (width_r R a n c (p+1) _ E2.s.rd (by omega)) ?_
   rintro e y6 ⟨⟨wd,rfl,wd0,wd1⟩,hr,hg⟩
   refine ⟨_,rfl,?_⟩
   have E6:=E2.pick hr hg
   have rX:=rX.grown hg (fun e=>by injection e with e;omega)
   clear hr hg
   have cX:=rX.cell t _ hz
   refine hKq.out _ _ hHe (fun _=>?_)
   try simp only [PS]
   refine RD 4 rfl (fun Kq hKq=>?_)
   go_simp
   refine hKq.out _ _ hHe (fun _=>?_)
   try simp only [PS]
   refine RD 7 rfl (fun Kq hKq=>?_)
   refine step_call (by rfl) 41 #[.int .i64 z,.int .i64 wd] (by go_simp) (nw_w z wd _ (by omega) (by omega)) ?_
   have hs7:=E6.row.lt
   rintro e y7 ⟨q7,rfl,F7,hb7⟩
   refine ⟨_,rfl,?_⟩
   have E7:=E6.below hb7
   unfold worldW
   refine hKq.out _ _ hHe (fun _=>?_)
   try simp only [PS]
   refine RD 8 rfl (fun Kq hKq=>?_)
   refine step_store_mid (by rfl) 82 _ _ (by rfl) w.heap.size 0 (wA (newWo z wd) q7) (by rfl) (by rfl) (E7.row.there rfl) info_wo (by kernel_rfl) ?_
   refine hKq.out _ _ hHe (fun _=>?_)
   try simp only [PS]
   refine DN ?_
   obtain ⟨r8,hr8,hg8,hG8⟩:=E7.fin (wL (newWo z wd) q7) rfl
   have F8:=F7.grown hG8 (fun g e k=>by cases e;rcases k with k | k;exact k;omega)
   generalize e_y8:y7.setCells _ _ _=y8 at r8 hr8 hg8 hG8 F8 ⊢
   clear e_y8
   go_wp2_with fail
   go_meet
   exact ⟨z,wd,q7,hz0,⟨wd0,wd1⟩,r8,F8.mono (fun b _ k=>by rcases k with k | k;exact k.elim;omega),hr8,hg8⟩
 ·obtain ⟨yb,e_yb⟩:∃ y,y=v0.drew:=⟨_,rfl⟩
  rw [<-e_yb]
  have DB:BdX w yb 3 1 R a n c p (.slice none 0 0) 0 [] w.heap.size [.int .i64 0,.slice none 0 0,.slice none 0 0,.bool false,.int .i64 0,.int .i64 0,.int .i64 0,.int .i64 0,.int .i64 0,.int .i64 0,.int .i64 0,.int .i64 0,.int .i64 0,.slice none 0 0,.slice none 0 0,.slice none 0 0]:=by rw [e_yb];exact D0.drew
  clear e_yb
  refine step_call (by rfl) 15 #[.pointer (some ⟨R,0,none⟩),.int .i64 7] (by go_simp) (pick_r R a n c (p) 7 _ DB.s.rd (by omega)) ?_
  rintro e y2 ⟨⟨t',rfl,t0,t1⟩,hr,hg⟩
  refine ⟨_,rfl,?_⟩
  have E2:=DB.pick hr hg
  obtain ⟨t,rfl⟩:∃ k:Nat,t'=(k:Int):=⟨t'.toNat,by omega⟩
  have t6:t<7:=by omega
  have t6i:(t:Int)<7:=by omega
  clear hr hg
  refine hKq.out _ _ hHe (fun _=>?_)
  try simp only [PS]
  refine wpAnyH_ready (rs:=[0,6]) (by kernel_rfl) (by simp) ?_
  refine AllReadyH.cons rfl (fun Kq hKq=>?_) (AllReadyH.cons rfl (fun Kq hKq=>?_) AllReadyH.nil)
  ·go_simp
   have E0:=E2.below (below_nw y2 (.cells #[.int .i64 8,.int .i64 9,.int .i64 10,.int .i64 12,.int .i64 16,.int .i64 24,.int .i64 40] 3))
   have rX:=row_new y2 #[.int .i64 8,.int .i64 9,.int .i64 10,.int .i64 12,.int .i64 16,.int .i64 24,.int .i64 40] 3
   have xl:=E2.s.lR
   have x0:=E2.s.lt
   obtain ⟨X,e_X⟩:∃ z,z=y2.heap.size:=⟨_,rfl⟩
   obtain ⟨y0,e_y⟩:∃ z,z=y2.alloc (.cells #[.int .i64 8,.int .i64 9,.int .i64 10,.int .i64 12,.int .i64 16,.int .i64 24,.int .i64 40] 3):=⟨_,rfl⟩
   have hXR:R<X:=by rw [e_X];omega
   rw [<-e_X,<-e_y] at rX
   rw [<-e_y] at E0
   rw [<-e_y,<-e_X]
   clear e_y e_X
   obtain ⟨z,hz,hz0⟩:∃ z:Int,([.int .i64 8,.int .i64 9,.int .i64 10,.int .i64 12,.int .i64 16,.int .i64 24,.int .i64 40]:List Value)[t]?=some (.int .i64 z)/\(8<=z/\z<=40):=by rcases t with _ | _ | _ | _ | _ | _ | _ | t<;>first | exact ⟨_,rfl,by omega⟩ | omega
   have cX:=rX.cell t _ hz
   refine hKq.out _ _ hHe (fun _=>?_)
   try simp only [PS]
   refine TY 3 (.pointer (some ⟨X,t,none⟩)) rfl hHe ?_
   simp only [PS]
   refine wpAnyH_ready (rs:=[4,6]) (by kernel_rfl) (by simp) ?_
   refine AllReadyH.cons rfl (fun Kq hKq=>?_) (AllReadyH.cons rfl (fun Kq hKq=>?_) AllReadyH.nil)
   ·go_simp
    refine hKq.out _ _ hHe (fun _=>?_)
    try simp only [PS]
    refine RD 6 rfl (fun Kq hKq=>?_)
    refine step_call (by rfl) 45 #[.pointer (some ⟨R,0,none⟩)] (by go_simp) (width_r R a n c (p+1) _ E0.s.rd (by omega)) ?_
    rintro e y6 ⟨⟨wd,rfl,wd0,wd1⟩,hr,hg⟩
    refine ⟨_,rfl,?_⟩
    have E6:=E0.pick hr hg
    have rX:=rX.grown hg (fun e=>by injection e with e;omega)
    clear hr hg
    have cX:=rX.cell t _ hz
    refine hKq.out _ _ hHe (fun _=>?_)
    try simp only [PS]
    refine RD 7 rfl (fun Kq hKq=>?_)
    refine step_call (by rfl) 41 #[.int .i64 z,.int .i64 wd] (by go_simp) (nw_w z wd _ (by omega) (by omega)) ?_
    have hs7:=E6.row.lt
    rintro e y7 ⟨q7,rfl,F7,hb7⟩
    refine ⟨_,rfl,?_⟩
    have E7:=E6.below hb7
    unfold worldW
    refine hKq.out _ _ hHe (fun _=>?_)
    try simp only [PS]
    refine RD 8 rfl (fun Kq hKq=>?_)
    refine step_store_mid (by rfl) 82 _ _ (by rfl) w.heap.size 0 (wA (newWo z wd) q7) (by rfl) (by rfl) (E7.row.there rfl) info_wo (by kernel_rfl) ?_
    refine hKq.out _ _ hHe (fun _=>?_)
    try simp only [PS]
    refine DN ?_
    obtain ⟨r8,hr8,hg8,hG8⟩:=E7.fin (wL (newWo z wd) q7) rfl
    have F8:=F7.grown hG8 (fun g e k=>by cases e;rcases k with k | k;exact k;omega)
    generalize e_y8:y7.setCells _ _ _=y8 at r8 hr8 hg8 hG8 F8 ⊢
    clear e_y8
    go_wp2_with fail
    go_meet
    exact ⟨z,wd,q7,hz0,⟨wd0,wd1⟩,r8,F8.mono (fun b _ k=>by rcases k with k | k;exact k.elim;omega),hr8,hg8⟩
   ·refine step_call (by rfl) 45 #[.pointer (some ⟨R,0,none⟩)] (by go_simp) (width_r R a n c (p+1) _ E0.s.rd (by omega)) ?_
    rintro e y6 ⟨⟨wd,rfl,wd0,wd1⟩,hr,hg⟩
    refine ⟨_,rfl,?_⟩
    have E6:=E0.pick hr hg
    have rX:=rX.grown hg (fun e=>by injection e with e;omega)
    clear hr hg
    have cX:=rX.cell t _ hz
    refine hKq.out _ _ hHe (fun _=>?_)
    try simp only [PS]
    refine RD 4 rfl (fun Kq hKq=>?_)
    go_simp
    refine hKq.out _ _ hHe (fun _=>?_)
    try simp only [PS]
    refine RD 7 rfl (fun Kq hKq=>?_)
    refine step_call (by rfl) 41 #[.int .i64 z,.int .i64 wd] (by go_simp) (nw_w z wd _ (by omega) (by omega)) ?_
    have hs7:=E6.row.lt
    rintro e y7 ⟨q7,rfl,F7,hb7⟩
    refine ⟨_,rfl,?_⟩
    have E7:=E6.below hb7
    unfold worldW
    refine hKq.out _ _ hHe (fun _=>?_)
    try simp only [PS]
    refine RD 8 rfl (fun Kq hKq=>?_)
    refine step_store_mid (by rfl) 82 _ _ (by rfl) w.heap.size 0 (wA (newWo z wd) q7) (by rfl) (by rfl) (E7.row.there rfl) info_wo (by kernel_rfl) ?_
    refine hKq.out _ _ hHe (fun _=>?_)
    try simp only [PS]
    refine DN ?_
    obtain ⟨r8,hr8,hg8,hG8⟩:=E7.fin (wL (newWo z wd) q7) rfl
    have F8:=F7.grown hG8 (fun g e k=>by cases e;rcases k with k | k;exact k;omega)
    generalize e_y8:y7.setCells _ _ _=y8 at r8 hr8 hg8 hG8 F8 ⊢
    clear e_y8
    go_wp2_with fail
    go_meet
    exact ⟨z,wd,q7,hz0,⟨wd0,wd1⟩,r8,F8.mono (fun b _ k=>by rcases k with k | k;exact k.elim;omega),hr8,hg8⟩
  ·refine step_call (by rfl) 45 #[.pointer (some ⟨R,0,none⟩)] (by go_simp) (width_r R a n c (p+1) _ E2.s.rd (by omega)) ?_
   rintro e y6 ⟨⟨wd,rfl,wd0,wd1⟩,hr,hg⟩
   refine ⟨_,rfl,?_⟩
   have E6:=E2.pick hr hg
   clear hr hg
   refine hKq.out _ _ hHe (fun _=>?_)
   try simp only [PS]
   refine RD 0 rfl (fun Kq hKq=>?_)
   go_simp
   have E0:=E6.below (below_nw y6 (.cells #[.int .i64 8,.int .i64 9,.int .i64 10,.int .i64 12,.int .i64 16,.int .i64 24,.int .i64 40] 3))
   have rX:=row_new y6 #[.int .i64 8,.int .i64 9,.int .i64 10,.int .i64 12,.int .i64 16,.int .i64 24,.int .i64 40] 3
   have xl:=E6.s.lR
   have x0:=E6.s.lt
   obtain ⟨X,e_X⟩:∃ z,z=y6.heap.size:=⟨_,rfl⟩
   obtain ⟨y0,e_y⟩:∃ z,z=y6.alloc (.cells #[.int .i64 8,.int .i64 9,.int .i64 10,.int .i64 12,.int .i64 16,.int .i64 24,.int .i64 40] 3):=⟨_,rfl⟩
   have hXR:R<X:=by rw [e_X];omega
   rw [<-e_X,<-e_y] at rX
   rw [<-e_y] at E0
   rw [<-e_y,<-e_X]
   clear e_y e_X
   obtain ⟨z,hz,hz0⟩:∃ z:Int,([.int .i64 8,.int .i64 9,.int .i64 10,.int .i64 12,.int .i64 16,.int .i64 24,.int .i64 40]:List Value)[t]?=some (.int .i64 z)/\(8<=z/\z<=40):=by rcases t with _ | _ | _ | _ | _ | _ | _ | t<;>first | exact ⟨_,rfl,by omega⟩ | omega
   have cX:=rX.cell t _ hz
   refine hKq.out _ _ hHe (fun _=>?_)
   try simp only [PS]
   refine TY 3 (.pointer (some ⟨X,t,none⟩)) rfl hHe ?_
   simp only [PS]
   refine RD 4 rfl (fun Kq hKq=>?_)
   go_simp
   refine hKq.out _ _ hHe (fun _=>?_)
   try simp only [PS]
   refine RD 7 rfl (fun Kq hKq=>?_)
   refine step_call (by rfl) 41 #[.int .i64 z,.int .i64 wd] (by go_simp) (nw_w z wd _ (by omega) (by omega)) ?_
   have hs7:=E0.row.lt
   rintro e y7 ⟨q7,rfl,F7,hb7⟩
   refine ⟨_,rfl,?_⟩
   have E7:=E0.below hb7
   unfold worldW
   refine hKq.out _ _ hHe (fun _=>?_)
   try simp only [PS]
   refine RD 8 rfl (fun Kq hKq=>?_)
   refine step_store_mid (by rfl) 82 _ _ (by rfl) w.heap.size 0 (wA (newWo z wd) q7) (by rfl) (by rfl) (E7.row.there rfl) info_wo (by kernel_rfl) ?_
   refine hKq.out _ _ hHe (fun _=>?_)
   try simp only [PS]
   refine DN ?_
   obtain ⟨r8,hr8,hg8,hG8⟩:=E7.fin (wL (newWo z wd) q7) rfl
   have F8:=F7.grown hG8 (fun g e k=>by cases e;rcases k with k | k;exact k;omega)
   generalize e_y8:y7.setCells _ _ _=y8 at r8 hr8 hg8 hG8 F8 ⊢
   clear e_y8
   go_wp2_with fail
   go_meet
   exact ⟨z,wd,q7,hz0,⟨wd0,wd1⟩,r8,F8.mono (fun b _ k=>by rcases k with k | k;exact k.elim;omega),hr8,hg8⟩
end Go.Proofs.Ythdilmkbnpmdaaa
