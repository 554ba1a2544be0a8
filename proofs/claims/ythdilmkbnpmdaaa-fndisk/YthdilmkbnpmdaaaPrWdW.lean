import Derived.Test.YthdilmkbnpmdaaaPrWdV
import Derived.Test.YthdilmkbnpmdaaaPrWdC
import Derived.Test.YthdilmkbnpmdaaaPrWdE
set_option maxHeartbeats 32000000
namespace Go.Proofs.Ythdilmkbnpmdaaa
open Go.RowKit Go.Proofs.Ythdilmkbnpmdaaa.nw
set_option maxRecDepth 8000
set_option linter.unusedVariables false
set_option linter.unusedSimpArgs false
def RePost (w w':World) (r:Ending):Prop:=∃ (x:Wo) (q:Wp) (N g g':Nat),r=.returned (worldW x q)/\x.good N/\(8<=N/\N<=40)/\(1<=x.w/\x.w<=8)/\WoF x w' (fun b=>w.heap.size<=b) q/\q.a=some ⟨g,0,none⟩/\q.a'=some ⟨g',0,none⟩/\w'.ownsRow w.heap.size 9 1 (.slice q.a x.ss.length q.c) x.ss.length (x.ss.map Value.string)/\w'.ownsRow w.heap.size 46 2 (.slice q.a' x.ws.length q.c') x.ws.length (wcells x.ws)/\g≠g'
structure RcS (w wx:World) (R:Nat) (a:Option Addr) (n c:Nat) (p:Int):Prop where
 rd:Rdr wx R a n c p
 gr:w.grownBy wx (some R)
 lR:R<w.heap.size
 ga:∀ g o,a=some ⟨g,o,none⟩->0<n->g<w.heap.size
 r2:Row wx w.heap.size [.int .i64 0,.slice none 0 0,.slice none 0 0,.bool false,.int .i64 0,.int .i64 0,.int .i64 0,.int .i64 0,.int .i64 0,.int .i64 0,.int .i64 0,.int .i64 0,.int .i64 0,.slice none 0 0,.slice none 0 0,.slice none 0 0]
section
variable {w wx wy:World} {R:Nat} {a:Option Addr} {n c:Nat} {p p':Int}
theorem RcS.below (h:RcS w wx R a n c p) (hb:Below wx.heap.size wx wy):RcS w wy R a n c p :=
 ⟨h.rd.below hb,grown_trans h.gr (grown_of_below _ hb),h.lR,h.ga,h.r2.below hb⟩
theorem RcS.pick (h:RcS w wx R a n c p) (hr:Rdr wy R a n c p') (hg:wx.grownBy wy (some R)):RcS w wy R a n c p':=by
 have h1:=h.lR
 exact ⟨hr,grown_trans h.gr hg,h.lR,h.ga,h.r2.grown hg (fun e=>by injection e with e;omega)⟩
theorem FgS.rc {B:Nat} {x:Wo} {q:Wp} (h:FgS w wx R a n c p B x q):RcS w wx R a n c p:=⟨h.rd,h.gr,h.lR,h.ga,h.r2⟩
theorem RcS.fin2 (h:RcS w wx R a n c p) (vs:List Value) (hl:vs.length=16) {y:Wo} {q':Wp} (hy:WoF y wx (fun b=>w.heap.size+1<=b) q') {k1 k2 m1 m2:Nat} {t1 t2:TypeId} {u1 u2:Value} {c1 c2:List Value} (h1:wx.ownsRow (w.heap.size+1) t1 k1 u1 m1 c1) (h2:wx.ownsRow (w.heap.size+1) t2 k2 u2 m2 c2) :
  Row (wx.setCells w.heap.size 0 vs) w.heap.size vs/\Rdr (wx.setCells w.heap.size 0 vs) R a n c p/\w.grownBy (wx.setCells w.heap.size 0 vs) (some R)/\WoF y (wx.setCells w.heap.size 0 vs) (fun b=>w.heap.size<=b) q'/\(wx.setCells w.heap.size 0 vs).ownsRow w.heap.size t1 k1 u1 m1 c1/\(wx.setCells w.heap.size 0 vs).ownsRow w.heap.size t2 k2 u2 m2 c2:=by
 have G:=grown_sets wx w.heap.size 0 vs
 have hb:Below w.heap.size wx (wx.setCells w.heap.size 0 vs):=grown_below G h.gr.size (fun g e=>by cases e;exact Nat.le_refl _)
 have g0:=h.gr
 exact ⟨h.r2.sets vs hl,h.rd.keep (N:=w.heap.size) h.lR h.ga hb,⟨hb.os.trans g0.os,hb.tape.trans g0.tape,hb.output.trans g0.output,Nat.le_trans g0.size hb.size,fun i hi hr=>(hb.block i hi).trans (g0.block i hi hr)⟩,(hy.grown G (fun g e k=>by cases e;omega)).mono (fun b _ k=>by omega),
  (h1.kept G (.inr (fun e=>by have:=(h1.lt _ e).1;omega))).mono (by omega),(h2.kept G (.inr (fun e=>by have:=(h2.lt _ e).1;omega))).mono (by omega)⟩
end
def RcL (w:World) (R:Nat) (a:Option Addr) (n c:Nat) (p:Int) (B N:Nat) (nv:Value) (wr:World):Prop:=∃ (m:Nat) (pp:Int) (x:Wo) (q:Wp),nv=.int .i64 (m:Int)/\m<=30/\p<=pp/\pp<=p+4+700*(30-m)/\x.good N/\(1<=x.w/\x.w<=8)/\FgS w wr R a n c pp B x q
theorem reached_r (R:Nat) (a:Option Addr) (n c:Nat) (p:Int) (w:World) (h:Rdr w R a n c p) (hp:p<99950000):Calls Try.prog 29 #[.pointer (some ⟨R,0,none⟩)] w fun r w'=>RePost w w' r/\RdTo w R a n c p 21010 w':=by
 have p0:=h.p0
 go_enter Try.func29,Try.ntmps29
 go_wp2_with fail
 generalize e_v1:w.alloc _=v1
 obtain ⟨hb,z_v1,b2⟩:=bx1 e_v1
 clear e_v1
 have S0:RcS w v1 R a n c p:=⟨h.below hb,grown_of_below _ hb,h.lts.1,h.lts.2,b2.now⟩
 have lv1:w.heap.size+1<=v1.heap.size:=by omega
 clear hb b2 z_v1 h
 refine (pick_r R a n c p 16 _ S0.rd (by omega)).mono ?_
 rintro e v2 ⟨⟨t,rfl,t0,t1⟩,hr,hg⟩
 have lv2:w.heap.size+1<=v2.heap.size:=Nat.le_trans lv1 hg.size
 have S1:=S0.pick hr hg
 clear S0 hr hg lv1
 by_cases e0:t=0
 ·subst e0
  go_wp2_with fail
  refine (forge_r R a n c (p+1) _ S1.rd (by omega)).mono ?_
  rintro e v3 ⟨⟨x,q,N,rfl,hG,hN,hW,F3⟩,⟨pp,q0,q1,hr⟩,hg⟩
  have S2:=S1.pick hr hg
  have s3:=hg.size
  have HG:=hid hG
  have HW:=hid hW
  clear hr hg S1 hG hW
  have CC:=hid (wcopy_s x q v3 F3.at HG.out.ok.le)
  clear F3
  unfold worldW at CC ⊢
  go_wp2_with fail
  refine CC.out.mono ?_
  rintro e v4 ⟨q4,g,g',rfl,FC,hqa,hqa',ho1,ho2,hgg,hb⟩
  have S3:=S2.below hb
  have lv3:w.heap.size+1<=v3.heap.size:=by omega
  replace FC:=FC.mono (G:=fun b=>w.heap.size+1<=b) (fun b _ k=>by omega)
  replace ho1:=ho1.mono lv3
  replace ho2:=ho2.mono lv3
  clear hb S2 CC
  unfold worldW
  try simp only [PS]
  refine ‹∀ (a:Act) (w:World),wpList _ _ _ _ a w->_› _ _ ?_
  refine wpList_store_mid rfl 82 _ _ rfl (w.heap.size) 0 (wA x q4) rfl rfl (S3.r2.there rfl) info_wo (by kernel_rfl) ?_
  try simp only [PS]
  obtain ⟨r8,hr8,hg8,F8,ho1,ho2⟩:=S3.fin2 (wL x q4) rfl FC ho1 ho2
  generalize e_y8:v4.setCells _ _ _=y8 at r8 hr8 hg8 F8 ho1 ho2 ⊢
  clear e_y8
  go_wp2
  obtain ⟨z0,z1,z2,z3,z4,z5,z6,z7,z8,z9,z10,z11,z12,z13,z14,z15,z16⟩:=c16 r8
  exact bodyPost_ret (v:=.agg (wA x q4)) (by simp [results,Try.results29,go_sem,z0,z1,z2,z3,z4,z5,z6,z7,z8,z9,z10,z11,z12,z13,z14,z15]) rfl ⟨⟨x,q4,N,g,g',rfl,HG.out,hN,HW.out,F8,hqa,hqa',ho1,ho2,hgg⟩,⟨pp,by omega,by omega,hr8⟩,hg8⟩
 ·go_wp2_with fail
  refine (small_r R a n c (p+1) _ S1.rd (by omega)).mono ?_
  rintro e v3 ⟨⟨m,wd,q,hm,hwd,rfl,F3⟩,⟨pp,q0,q1,hr⟩,hg⟩
  have S2:=S1.pick hr hg
  have s3:=hg.size
  clear S1 hr hg
  unfold worldW
  go_upto_region 4 with fail
  generalize e_v4:v3.alloc _=v4
  obtain ⟨hb,z_v4,b3⟩:=bx1 e_v4
  clear e_v4
  replace F3:=(F3.mono (G:=fun b=>w.heap.size+1<=b/\b≠v3.heap.size) (fun b hl k=>by omega)).below hb
  obtain ⟨B,e_B⟩:∃ B,B=v3.heap.size:=⟨_,rfl⟩
  rw [<-e_B] at b3 F3 ⊢
  obtain ⟨N,e_N⟩:∃ N:Nat,N=m.toNat:=⟨_,rfl⟩
  have hN:8<=N/\N<=40:=by omega
  obtain ⟨x0,HX⟩:∃ x,Hid (x=newWo m wd):=⟨_,hid rfl⟩
  rw [<-HX.out] at b3 F3 ⊢
  have S4:=S2.below hb
  have T0:FgS w v4 R a n c pp B x0 q:=⟨S4.rd,S4.gr,S4.lR,S4.ga,S4.r2,b3.now,by omega,F3⟩
  have HG0:Hid (x0.good N):=by show Wo.good _ _;rw [HX.out,e_N];exact newWo_good (by omega)
  have HW0:Hid (1<=x0.w/\x0.w<=8):=by show _/\_;rw [HX.out];exact hwd
  clear hb b3 F3 S4 S2 z_v4 e_B s3 lv2 e_N HX hm hwd e0 t0 t1
  generalize Value.agg _=A0
  go_wp2_with fail
  refine (pick_r R a n c pp 30 _ T0.rd (by omega)).mono ?_
  rintro e v5 ⟨⟨k',rfl,k0,k1⟩,hr,hg⟩
  obtain ⟨k,rfl⟩:∃ k:Nat,k'=(k:Int):=⟨k'.toNat,by omega⟩
  have T1:=T0.pick hr hg
  clear T0 hr hg
  go_wp2_with fail
  go_loopw [4] (fun nv wr=>RcL w R a n c p B N nv wr) (fun nv _=>(intOf nv).toNat)
  case atStart=>exact ⟨k,pp+1,x0,q,rfl,by omega,by omega,by omega,HG0.out,HW0.out,T1⟩
  case round =>
   obtain ⟨m,p2,x,q,rfl,hm,hp2,hp3,hG,hW,T2⟩:=hrel
   have HG:=hid hG
   have HW:=hid hW
   clear T1 HG0 HW0 hG hW
   by_cases hm0:0<m
   ·have hm0':(0:Int)<(m:Int):=by omega
    go_upto_region 7 with fail
    refine wp_region_held_drew (S:=fun w'=>True) (by kernel_rfl) (trivial) (fun hHe=>?_)
    refine TY 1 (.pointer (some ⟨R,0,none⟩)) rfl hHe ?_
    simp only [PS]
    refine TY 2 (.pointer (some ⟨B,3,none⟩)) rfl hHe ?_
    simp only [PS]
    refine wpAnyH_ready (rs:=[0,3]) (by kernel_rfl) (by simp) ?_
    refine AllReadyH.cons rfl (fun Kq hKq=>?_) (AllReadyH.cons rfl (fun Kq hKq=>?_) AllReadyH.nil)
    ·obtain ⟨yb,e_yb⟩:∃ y,y=wr.drew:=⟨_,rfl⟩
     rw [<-e_yb]
     have EB:FgS w yb R a n c p2 B x q:=by rw [e_yb];exact T2.below (Below.refl _ _).drew
     clear e_yb
     refine step_load_mid (by rfl) 82 _ (by rfl) B 0 (by rfl) (wL x q) _ EB.r3.range Try.underlying82 rfl info_wo ?_
     refine hKq.out _ _ hHe (fun _=>?_)
     try simp only [PS]
     refine RD 3 rfl (fun Kq hKq=>?_)
     have m3:=EB.r3.cell 3 _ rfl
     have ml:=EB.r3.lt
     go_simp
     clear m3 ml
     refine hKq.out _ _ hHe (fun _=>?_)
     try simp only [PS]
     refine RD 4 rfl (fun Kq hKq=>?_)
     refine step_call (by rfl) 39 #[.pointer (some ⟨R,0,none⟩),.bool x.up] (by go_simp) (event_r R a n c p2 x.up _ EB.rd (by omega)) ?_
     rintro e y4 ⟨⟨ev,ba,bc,fa,fc,rfl,hle,hB,hF⟩,⟨p4,p40,p41,hr⟩,hg⟩
     refine ⟨_,rfl,?_⟩
     have E4:=EB.pick hr hg
     have hB:=hB.now
     have hF:=hF.now
     clear hr hg
     unfold eventV
     refine hKq.out _ _ hHe (fun _=>?_)
     try simp only [PS]
     refine RD 5 rfl (fun Kq hKq=>?_)
     obtain ⟨y,HY⟩:∃ y,Hid (y=x.doE ev):=⟨_,hid rfl⟩
     have CDo:=do_s x q ev ba bc fa fc _ y4 E4.wo HG.out.ok hB hF hle
     rw [<-HY.out] at CDo
     refine step_call (by rfl) 38 #[.agg (wA x q),.agg #[.int .i64 ev.K,.slice ba ev.b.length bc,.int .i64 ev.cut,.slice fa ev.fs.length fc]] (by go_simp) CDo ?_
     rintro e y5 ⟨q5,rfl,F5,hb5⟩
     refine ⟨_,rfl,?_⟩
     have hB1:=E4.r3.lt
     have hB2:=E4.lB
     have F6:=F5.mono (G:=fun b=>w.heap.size+1<=b/\b≠B) (fun b _ k=>by rcases k with k | k;exact k;omega)
     have E5:=E4.below hb5
     clear CDo F5 hb5
     unfold worldW
     refine hKq.out _ _ hHe (fun _=>?_)
     try simp only [PS]
     refine RD 6 rfl (fun Kq hKq=>?_)
     refine step_store_mid (by rfl) 82 _ _ (by rfl) B 0 (wA y q5) (by rfl) (by rfl) (E5.r3.there rfl) info_wo (by kernel_rfl) ?_
     refine hKq.out _ _ hHe (fun _=>?_)
     try simp only [PS]
     refine DN ?_
     have E6:=E5.put F6
     generalize e_y6:y5.setCells _ _ _=y6 at E6 ⊢
     clear e_y6
     go_wp2_with fail
     go_roundw
     case rel=>exact ⟨m-1,p4,y,q5,by first | go_num | (congr 1;omega),by omega,by omega,by omega,by rw [HY.out];exact HG.out.doE _,by rw [HY.out,doE_w];exact HW.out,E6⟩
     case measure=>simp [intOf];omega
    ·obtain ⟨yb,e_yb⟩:∃ y,y=wr.drew:=⟨_,rfl⟩
     rw [<-e_yb]
     have EB:FgS w yb R a n c p2 B x q:=by rw [e_yb];exact T2.below (Below.refl _ _).drew
     clear e_yb
     have m3:=EB.r3.cell 3 _ rfl
     have ml:=EB.r3.lt
     go_simp
     clear m3 ml
     refine hKq.out _ _ hHe (fun _=>?_)
     try simp only [PS]
     refine wpAnyH_ready (rs:=[0,4]) (by kernel_rfl) (by simp) ?_
     refine AllReadyH.cons rfl (fun Kq hKq=>?_) (AllReadyH.cons rfl (fun Kq hKq=>?_) AllReadyH.nil)
     ·refine step_load_mid (by rfl) 82 _ (by rfl) B 0 (by rfl) (wL x q) _ EB.r3.range Try.underlying82 rfl info_wo ?_
      refine hKq.out _ _ hHe (fun _=>?_)
      try simp only [PS]
      refine RD 4 rfl (fun Kq hKq=>?_)
      refine step_call (by rfl) 39 #[.pointer (some ⟨R,0,none⟩),.bool x.up] (by go_simp) (event_r R a n c p2 x.up _ EB.rd (by omega)) ?_
      rintro e y4 ⟨⟨ev,ba,bc,fa,fc,rfl,hle,hB,hF⟩,⟨p4,p40,p41,hr⟩,hg⟩
      refine ⟨_,rfl,?_⟩
      have E4:=EB.pick hr hg
      have hB:=hB.now
      have hF:=hF.now
      clear hr hg
      unfold eventV
      refine hKq.out _ _ hHe (fun _=>?_)
      try simp only [PS]
      refine RD 5 rfl (fun Kq hKq=>?_)
      obtain ⟨y,HY⟩:∃ y,Hid (y=x.doE ev):=⟨_,hid rfl⟩
      have CDo:=do_s x q ev ba bc fa fc _ y4 E4.wo HG.out.ok hB hF hle
      rw [<-HY.out] at CDo
      refine step_call (by rfl) 38 #[.agg (wA x q),.agg #[.int .i64 ev.K,.slice ba ev.b.length bc,.int .i64 ev.cut,.slice fa ev.fs.length fc]] (by go_simp) CDo ?_
      rintro e y5 ⟨q5,rfl,F5,hb5⟩
      refine ⟨_,rfl,?_⟩
      have hB1:=E4.r3.lt
      have hB2:=E4.lB
      have F6:=F5.mono (G:=fun b=>w.heap.size+1<=b/\b≠B) (fun b _ k=>by rcases k with k | k;exact k;omega)
      have E5:=E4.below hb5
      clear CDo F5 hb5
      unfold worldW
      refine hKq.out _ _ hHe (fun _=>?_)
      try simp only [PS]
      refine RD 6 rfl (fun Kq hKq=>?_)
      refine step_store_mid (by rfl) 82 _ _ (by rfl) B 0 (wA y q5) (by rfl) (by rfl) (E5.r3.there rfl) info_wo (by kernel_rfl) ?_
      refine hKq.out _ _ hHe (fun _=>?_)
      try simp only [PS]
      refine DN ?_
      have E6:=E5.put F6
      generalize e_y6:y5.setCells _ _ _=y6 at E6 ⊢
      clear e_y6
      go_wp2_with fail
      go_roundw
      case rel=>exact ⟨m-1,p4,y,q5,by first | go_num | (congr 1;omega),by omega,by omega,by omega,by rw [HY.out];exact HG.out.doE _,by rw [HY.out,doE_w];exact HW.out,E6⟩
      case measure=>simp [intOf];omega
     ·refine step_call (by rfl) 39 #[.pointer (some ⟨R,0,none⟩),.bool x.up] (by go_simp) (event_r R a n c p2 x.up _ EB.rd (by omega)) ?_
      rintro e y4 ⟨⟨ev,ba,bc,fa,fc,rfl,hle,hB,hF⟩,⟨p4,p40,p41,hr⟩,hg⟩
      refine ⟨_,rfl,?_⟩
      have E4:=EB.pick hr hg
      have hB:=hB.now
      have hF:=hF.now
      clear hr hg
      unfold eventV
      refine hKq.out _ _ hHe (fun _=>?_)
      try simp only [PS]
      refine RD 0 rfl (fun Kq hKq=>?_)
      refine step_load_mid (by rfl) 82 _ (by rfl) B 0 (by rfl) (wL x q) _ E4.r3.range Try.underlying82 rfl info_wo ?_
      refine hKq.out _ _ hHe (fun _=>?_)
      try simp only [PS]
      refine RD 5 rfl (fun Kq hKq=>?_)
      obtain ⟨y,HY⟩:∃ y,Hid (y=x.doE ev):=⟨_,hid rfl⟩
      have CDo:=do_s x q ev ba bc fa fc _ y4 E4.wo HG.out.ok hB hF hle
      rw [<-HY.out] at CDo
      refine step_call (by rfl) 38 #[.agg (wA x q),.agg #[.int .i64 ev.K,.slice ba ev.b.length bc,.int .i64 ev.cut,.slice fa ev.fs.length fc]] (by go_simp) CDo ?_
      rintro e y5 ⟨q5,rfl,F5,hb5⟩
      refine ⟨_,rfl,?_⟩
      have hB1:=E4.r3.lt
      have hB2:=E4.lB
      have F6:=F5.mono (G:=fun b=>w.heap.size+1<=b/\b≠B) (fun b _ k=>by rcases k with k | k;exact k;omega)
      have E5:=E4.below hb5
      clear CDo F5 hb5
      unfold worldW
      refine hKq.out _ _ hHe (fun _=>?_)
      try simp only [PS]
      refine RD 6 rfl (fun Kq hKq=>?_)
      refine step_store_mid (by rfl) 82 _ _ (by rfl) B 0 (wA y q5) (by rfl) (by rfl) (E5.r3.there rfl) info_wo (by kernel_rfl) ?_
      refine hKq.out _ _ hHe (fun _=>?_)
      try simp only [PS]
      refine DN ?_
      have E6:=E5.put F6
      generalize e_y6:y5.setCells _ _ _=y6 at E6 ⊢
      clear e_y6
      go_wp2_with fail
      go_roundw
      case rel=>exact ⟨m-1,p4,y,q5,by first | go_num | (congr 1;omega),by omega,by omega,by omega,by rw [HY.out];exact HG.out.doE _,by rw [HY.out,doE_w];exact HW.out,E6⟩
      case measure=>simp [intOf];omega
   ·have hm0':¬ (0:Int)<(m:Int):=by omega
    go_wp2_with fail
    refine (pick_r R a n c p2 4 _ T2.rd (by omega)).mono ?_
    rintro e v6 ⟨⟨t,rfl,t0,t1⟩,hr,hg⟩
    have T3:=T2.pick hr hg
    clear T2 hr hg
    by_cases ht:0<t
    ·go_upto_region 9 with fail
     refine wp_region_lit ?_
     refine wpList_load_mid rfl 82 _ rfl (B) 0 rfl (wL x q) _ T3.r3.range Try.underlying82 rfl info_wo ?_
     simp only [PS]
     obtain ⟨y,HY⟩:∃ y,Hid (y=x.doE openE):=⟨_,hid rfl⟩
     have CDo:=open_do x q _ v6 T3.wo HG.out.ok
     rw [<-HY.out] at CDo
     have CDH:=hid CDo
     clear CDo
     unfold worldW at CDH
     go_wp2_with fail
     refine CDH.out.mono ?_
     rintro e v7 ⟨q5,rfl,F5,hb⟩
     have T4:=T3.below hb
     have hB1:=T3.r3.lt
     have hB2:=T3.lB
     have F6:=F5.mono (G:=fun b=>w.heap.size+1<=b/\b≠B) (fun b _ k=>by rcases k with k | k;exact k;omega)
     have HGy:Hid (y.good N):=by show Wo.good _ _;rw [HY.out];exact HG.out.doE _
     have HWy:Hid (1<=y.w/\y.w<=8):=by show _/\_;rw [HY.out,doE_w];exact HW.out
     clear T3 hb F5 CDH
     unfold worldW
     try simp only [PS]
     refine ‹∀ (a:Act) (w:World),wpList _ _ _ _ a w->_› _ _ ?_
     refine wpList_store_mid rfl 82 _ _ rfl (B) 0 (wA y q5) rfl rfl (T4.r3.there rfl) info_wo (by kernel_rfl) ?_
     try simp only [PS]
     have T5:=T4.put F6
     generalize e_v8:v7.setCells _ _ _=v8 at T5 ⊢
     clear e_v8 T4 F6
     go_upto_region 10 with fail
     refine wp_region_lit ?_
     refine wpList_load_mid rfl 82 _ rfl (B) 0 rfl (wL y q5) _ T5.r3.range Try.underlying82 rfl info_wo ?_
     simp only [PS]
     have CC:=hid (wcopy_s y q5 v8 T5.wo.at HGy.out.ok.le)
     unfold worldW at CC
     go_wp2_with fail
     refine CC.out.mono ?_
     rintro e v9 ⟨q9,g,g',rfl,FC,hqa,hqa',ho1,ho2,hgg,hb⟩
     have S9:=T5.rc.below hb
     have lv8:w.heap.size+1<=v8.heap.size:=by have:=T5.lB;have:=T5.r3.lt;omega
     replace FC:=FC.mono (G:=fun b=>w.heap.size+1<=b) (fun b _ k=>by omega)
     replace ho1:=ho1.mono lv8
     replace ho2:=ho2.mono lv8
     clear hb CC T5
     unfold worldW
     try simp only [PS]
     refine ‹∀ (a:Act) (w:World),wpList _ _ _ _ a w->_› _ _ ?_
     refine wpList_store_mid rfl 82 _ _ rfl (w.heap.size) 0 (wA y q9) rfl rfl (S9.r2.there rfl) info_wo (by kernel_rfl) ?_
     try simp only [PS]
     obtain ⟨r8,hr8,hg8,F8,ho1,ho2⟩:=S9.fin2 (wL y q9) rfl FC ho1 ho2
     generalize e_y8:v9.setCells _ _ _=y8 at r8 hr8 hg8 F8 ho1 ho2 ⊢
     clear e_y8
     go_wp2
     obtain ⟨z0,z1,z2,z3,z4,z5,z6,z7,z8,z9,z10,z11,z12,z13,z14,z15,z16⟩:=c16 r8
     exact bodyPost_ret (v:=.agg (wA y q9)) (by simp [results,Try.results29,go_sem,z0,z1,z2,z3,z4,z5,z6,z7,z8,z9,z10,z11,z12,z13,z14,z15]) rfl ⟨⟨y,q9,N,g,g',rfl,HGy.out,hN,HWy.out,F8,hqa,hqa',ho1,ho2,hgg⟩,⟨p2+1,by omega,by omega,hr8⟩,hg8⟩
    ·go_upto_region 10 with fail
     refine wp_region_lit ?_
     refine wpList_load_mid rfl 82 _ rfl (B) 0 rfl (wL x q) _ T3.r3.range Try.underlying82 rfl info_wo ?_
     simp only [PS]
     have CC:=hid (wcopy_s x q v6 T3.wo.at HG.out.ok.le)
     unfold worldW at CC
     go_wp2_with fail
     refine CC.out.mono ?_
     rintro e v9 ⟨q9,g,g',rfl,FC,hqa,hqa',ho1,ho2,hgg,hb⟩
     have S9:=T3.rc.below hb
     have lv8:w.heap.size+1<=v6.heap.size:=by have:=T3.lB;have:=T3.r3.lt;omega
     replace FC:=FC.mono (G:=fun b=>w.heap.size+1<=b) (fun b _ k=>by omega)
     replace ho1:=ho1.mono lv8
     replace ho2:=ho2.mono lv8
     clear hb CC T3
     unfold worldW
     try simp only [PS]
     refine ‹∀ (a:Act) (w:World),wpList _ _ _ _ a w->_› _ _ ?_
     refine wpList_store_mid rfl 82 _ _ rfl (w.heap.size) 0 (wA x q9) rfl rfl (S9.r2.there rfl) info_wo (by kernel_rfl) ?_
     try simp only [PS]
     obtain ⟨r8,hr8,hg8,F8,ho1,ho2⟩:=S9.fin2 (wL x q9) rfl FC ho1 ho2
     generalize e_y8:v9.setCells _ _ _=y8 at r8 hr8 hg8 F8 ho1 ho2 ⊢
     clear e_y8
     go_wp2
     obtain ⟨z0,z1,z2,z3,z4,z5,z6,z7,z8,z9,z10,z11,z12,z13,z14,z15,z16⟩:=c16 r8
     exact bodyPost_ret (v:=.agg (wA x q9)) (by simp [results,Try.results29,go_sem,z0,z1,z2,z3,z4,z5,z6,z7,z8,z9,z10,z11,z12,z13,z14,z15]) rfl ⟨⟨x,q9,N,g,g',rfl,HG.out,hN,HW.out,F8,hqa,hqa',ho1,ho2,hgg⟩,⟨p2+1,by omega,by omega,hr8⟩,hg8⟩
end Go.Proofs.Ythdilmkbnpmdaaa
