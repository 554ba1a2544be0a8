import Derived.Test.YthdilmkbnpmdaaaPrG46
set_option maxHeartbeats 32000000
namespace Go.Proofs.Ythdilmkbnpmdaaa
open Go.RowKit
set_option maxRecDepth 8000
set_option linter.unusedVariables false
set_option linter.unusedSimpArgs false
theorem info_wrS:(Try.prog.info? 46).map (fun i=>(i.zero,i.size,i.bytes))=some (some (.agg #[.int .i64 0,.string ByteArray.empty]),2,24):=by kernel_rfl
theorem info_strS:(Try.prog.info? 9).map (fun i=>(i.zero,i.size,i.bytes))=some (some (.string ByteArray.empty),1,16):=by kernel_rfl
theorem oneWrS (k:Int) (s:ByteArray):∀ u∈[Value.int .i64 k,Value.string s],u.oneCell'=true:=by intro u hu;simp at hu;rcases hu with rfl | rfl<;>rfl
theorem oneStS (s:ByteArray):∀ u∈[Value.string s],u.oneCell'=true:=by intro u hu;simp at hu;subst hu;rfl
theorem owns_cap {w:World} {B:Nat} {e:TypeId} {k:Nat} {g m c:Nat} {cs:List Value} (h:w.ownsRow B e k (.slice (some ⟨g,0,none⟩) m c) m cs):m<=c:=by
 rcases h.2 with ⟨h1,h2⟩ | ⟨g2,cap,cur,h1,h2,h3,h4⟩
 ·cases h1
 ·cases h1;exact h4.1
theorem zeros_64:zeros.size<=64:=by decide
def cLen (o:Option Value):Nat:=match o with | some (.slice _ n _)=>n | _=>0
theorem cLen_at {w:World} {p:Addr} {a:Option Addr} {n c:Nat} (h:w.cell? p=some (.slice a n c)):cLen (w.cell? p)=n:=by rw [h];rfl
def SpW (w wr:World) (R:Nat) (a:Option Addr) (n c:Nat) (p:Int) (A4 B g sc:Nat) (ss:List ByteArray) (N:Nat):Prop:=∃ (g' sc':Nat) (ws:List WrT),DkLe ss ws/\ws.length<=N/\SpS w wr R a n c p A4 B g sc ss g' sc' ws
def SpN (w wr:World) (R:Nat) (a:Option Addr) (n c:Nat) (p:Int) (A4 B g' sc':Nat) (ws:List WrT) (N:Nat):Prop:=∃ (g sc:Nat) (ss:List ByteArray),DkLe ss ws/\ss.length<=N/\SpS w wr R a n c p A4 B g sc ss g' sc' ws
theorem dspoil_r (R:Nat) (a:Option Addr) (n c:Nat) (p:Int) (a0:Option Addr) (ss:List ByteArray) (c0:Nat) (a1:Option Addr) (ws:List WrT) (c1:Nat) (w:World) (h:Rdr w R a n c p) (hp:p<99980000) (h1:Strs w a0 ss) (h2:Wrs w a1 ws) (hd:DkLe ss ws) (hs:8<=ss.length/\ss.length<=40) (hws:ws.length<=300):Calls Try.prog 30 #[.pointer (some ⟨R,0,none⟩),diskV a0 ss.length c0 a1 ws.length c1] w fun r w'=>SpPost w w' r/\RdTo w R a n c p 4 w':=by
 have p0:=h.p0
 obtain ⟨i0,hi0,hz0,hz1,hz2⟩:=info_partsB info_wrS
 have HI:=hid (And.intro hi0 (And.intro hz0 (And.intro hz1 hz2)))
 clear hi0 hz0 hz1 hz2
 obtain ⟨i1,hi0,hz0,hz1,hz2⟩:=info_partsB info_strS
 have HJ:=hid (And.intro hi0 (And.intro hz0 (And.intro hz1 hz2)))
 clear hi0 hz0 hz1 hz2
 have HDK:=hid hd
 clear hd
 unfold diskV
 go_enter Try.func30,Try.ntmps30
 go_wp2_with fail
 generalize e_v1:w.alloc _=v1
 obtain ⟨hb,z_v1,b3⟩:=bx1 e_v1
 clear e_v1
 have hE:Below w.heap.size w v1:=hb
 clear hb b3
 generalize e_v2:v1.alloc _=v2
 obtain ⟨hb,z_v2,b4⟩:=bx1 e_v2
 clear e_v2
 replace hE:=hE.trans (hb.mono hE.size)
 clear hb
 have CC:=copy_o a0 ss c0 a1 ws c1 v2 (h1.below hE) (h2.below hE) (by omega) (by omega)
 unfold diskV at CC
 refine CC.mono ?_
 rintro e v3 ⟨g,sc,g',sc',rfl,so,wo,ne,hb⟩
 replace hE:=hE.trans (hb.mono hE.size)
 replace b4:=b4.below hb
 have s3:=hb.size
 clear hb CC h1 h2
 unfold diskV
 go_upto_region 2 with fail
 generalize e_v4:v3.alloc _=v4
 obtain ⟨hb,z_v4,b5⟩:=bx1 e_v4
 clear e_v4
 obtain ⟨B,e_B⟩:∃ B,B=v3.heap.size:=⟨_,rfl⟩
 obtain ⟨A4,e_A⟩:∃ B,B=w.heap.size+1:=⟨_,rfl⟩
 rw [<-e_B] at b5 ⊢
 rw [z_v1,<-e_A] at b4
 rw [z_v2,z_v1,<-e_A] at so wo
 rw [<-e_A]
 have lg:=(so.lt g rfl).2
 have lg':=(wo.lt g' rfl).2
 replace hE:=hE.trans (hb.mono hE.size)
 have S0:SpS w v4 R a n c (p) A4 B g sc ss g' sc' ws:=⟨h.keep (N:=w.heap.size) h.lts.1 h.lts.2 hE,grown_of_below _ hE,h.lts.1,h.lts.2,(b4.below hb).now,b5.now,by omega,by omega,owns_below so hb,owns_below wo hb,by omega,by omega,ne⟩
 have hAB:A4<B:=by omega
 have hA0:w.heap.size<=A4:=by omega
 clear hb b4 b5 so wo lg lg' z_v4 z_v2 z_v1 e_B e_A hE s3 h ne
 generalize Value.agg _=AG0
 go_wp2_with fail
 refine (pick_r R a n c p 7 _ S0.rd (by omega)).mono ?_
 rintro e v5 ⟨⟨v,rfl,v0,v1'⟩,hr,hg⟩
 have S1:=S0.pick hr hg
 clear S0 hr hg
 have hss:(0:Int)<(ss.length:Int):=by omega
 have hss4:(4:Int)<(ss.length:Int):=by omega
 have hv:v=0\/v=1\/v=2\/v=3\/v=4\/v=5\/v=6:=by omega
 clear v0 v1'
 rcases hv with rfl | rfl | rfl | rfl | rfl | rfl | rfl
 ·have q0:=S1.r5.cell 0 _ rfl
  have q1:=S1.r5.cell 1 _ rfl
  have ql:=S1.r5.lt
  go_upto_region 7 with fail
  clear q0 q1 ql
  refine wp_region_T (8) (S:=fun w'=>w'.cell? ⟨B,0,none⟩=some (.slice (some ⟨g,0,none⟩) ss.length sc)) (by kernel_rfl) (S1.drew.r5.cell 0 _ rfl) (fun hHe=>?_)
  refine TYT 0 (.pointer (some ⟨B,0,none⟩)) rfl hHe ?_
  simp only [PS]
  refine TYT 1 (.slice (some ⟨g,0,none⟩) ss.length sc) rfl hHe ?_
  simp only [PS]
  refine TYT 2 (.pointer (some ⟨R,0,none⟩)) rfl hHe ?_
  simp only [PS]
  refine TYT 3 (.pointer (some ⟨B,0,none⟩)) rfl hHe ?_
  simp only [PS]
  refine TYT 4 (.slice (some ⟨g,0,none⟩) ss.length sc) rfl hHe ?_
  simp only [PS]
  refine TYT 5 (.int .i64 (ss.length:Int)) rfl hHe ?_
  simp only [PS]
  refine RDT 6 rfl (fun Kq hKq=>?_)
  obtain ⟨yb,e_yb⟩:∃ y,y=v5.drew:=⟨_,rfl⟩
  rw [<-e_yb]
  have EB:SpS w yb R a n c (p+1) A4 B g sc ss g' sc' ws:=by rw [e_yb];exact S1.drew
  clear e_yb
  refine step_call (by rfl) 15 #[.pointer (some ⟨R,0,none⟩),.int .i64 (ss.length:Int)] (by go_simp) (pick_r R a n c (p+1) (ss.length:Int) _ EB.rd (by omega)) ?_
  rintro e y6 ⟨⟨t',rfl,t0,t1⟩,hr,hg⟩
  refine ⟨_,rfl,?_⟩
  have E6:=EB.pick hr hg
  clear hr hg
  obtain ⟨t,rfl⟩:∃ k:Nat,t'=(k:Int):=⟨t'.toNat,by omega⟩
  have tl:t<ss.length:=by omega
  have ti:(t:Int)<((ss.length:Nat):Int):=by omega
  refine hKq.out _ _ (E6.r5.cell 0 _ rfl) (fun hHd1=>?_)
  try simp only [PS]
  refine TYT 7 (.pointer (some ⟨g,t,none⟩)) rfl hHd1 ?_
  simp only [PS]
  refine wpAnyT_ready (rs:=[8]) (by kernel_rfl) (by simp) ?_
  refine AllReadyT.last rfl (fun Kq hKq=>?_)
  have cg:=E6.so.cellAt t (by simpa using tl)
  have fg:=E6.so.frozenAt t
  have lg:=E6.lg.1.2
  go_simp
  clear cg fg lg
  refine hKq.out _ _ trivial (fun _=>?_)
  try simp only [PS]
  refine wpAnyT_done (by kernel_rfl) ?_ _
  have E8:=E6.sect t tl ⟨#[115,104,111,114,116]⟩
  have HD8:=hid (HDK.out.set t ⟨#[115,104,111,114,116]⟩ (by decide))
  obtain ⟨s8,e8⟩:∃ l,l=ss.set t ⟨#[115,104,111,114,116]⟩:=⟨_,rfl⟩
  rw [<-e8] at E8 HD8
  generalize e_y7:World.setCell _ _ _=y7 at E8 ⊢
  clear e_y7 e8
  have q0:=E8.r5.cell 0 _ rfl
  have q1:=E8.r5.cell 1 _ rfl
  have ql:=E8.r5.lt
  have f0:=E8.r4.cell 0 _ rfl
  have f1:=E8.r4.cell 1 _ rfl
  obtain ⟨f2,f3⟩:=E8.r4.z2
  have fl:=E8.r4.lt
  have nAB:A4≠B:=by omega
  have nBA:B≠A4:=by omega
  go_wp2
  clear q0 q1 ql f0 f1 f2 f3 fl nAB nBA
  obtain ⟨r8,hr8,hg8,ho8,hd8⟩:=E8.fin s8.length (Nat.le_refl _) (.slice (some ⟨g,0,none⟩) s8.length sc) (.slice (some ⟨g',0,none⟩) ws.length sc')
  rw [List.take_length] at hd8
  generalize e_y8:World.setCell _ _ _=y8 at r8 hr8 hg8 ho8 hd8 ⊢
  clear e_y8
  have z0:=r8.cell 0 _ rfl
  have z1:=r8.cell 1 _ rfl
  have z2:=r8.lt
  exact bodyPost_ret (v:=.agg #[.slice (some ⟨g,0,none⟩) s8.length sc,.slice (some ⟨g',0,none⟩) ws.length sc']) (by simp [results,Try.results30,go_sem,z0,z1]) rfl ⟨⟨s8,ws,g,sc,g',sc',rfl,HD8.out,ho8,hd8⟩,⟨p+1+1,by omega,by omega,hr8⟩,hg8⟩
 ·have q0:=S1.r5.cell 0 _ rfl
  have q1:=S1.r5.cell 1 _ rfl
  have ql:=S1.r5.lt
  have hw1:IntKind.i64.wrap ((ss.length:Int)+1)=(ss.length:Int)+1:=wrap_i64_id _ (by omega) (by omega)
  go_upto_region 9 with fail
  clear q0 q1 ql
  refine wp_region_T (10) (S:=fun w'=>w'.cell? ⟨B,0,none⟩=some (.slice (some ⟨g,0,none⟩) ss.length sc)) (by kernel_rfl) (S1.drew.r5.cell 0 _ rfl) (fun hHe=>?_)
  refine TYT 0 (.pointer (some ⟨B,0,none⟩)) rfl hHe ?_
  simp only [PS]
  refine TYT 1 (.slice (some ⟨g,0,none⟩) ss.length sc) rfl hHe ?_
  simp only [PS]
  refine TYT 2 (.pointer (some ⟨R,0,none⟩)) rfl hHe ?_
  simp only [PS]
  refine TYT 3 (.pointer (some ⟨B,0,none⟩)) rfl hHe ?_
  simp only [PS]
  refine TYT 4 (.slice (some ⟨g,0,none⟩) ss.length sc) rfl hHe ?_
  simp only [PS]
  refine TYT 5 (.int .i64 (ss.length:Int)) rfl hHe ?_
  simp only [PS]
  refine TYT 6 (.int .i64 ((ss.length:Int)+1)) rfl hHe ?_
  simp only [PS]
  refine RDT 7 rfl (fun Kq hKq=>?_)
  obtain ⟨yb,e_yb⟩:∃ y,y=v5.drew:=⟨_,rfl⟩
  rw [<-e_yb]
  have EB:SpS w yb R a n c (p+1) A4 B g sc ss g' sc' ws:=by rw [e_yb];exact S1.drew
  clear e_yb
  refine step_call (by rfl) 15 #[.pointer (some ⟨R,0,none⟩),.int .i64 ((ss.length:Int)+1)] (by go_simp) (pick_r R a n c (p+1) ((ss.length:Int)+1) _ EB.rd (by omega)) ?_
  rintro e y7 ⟨⟨t',rfl,t0,t1⟩,hr,hg⟩
  refine ⟨_,rfl,?_⟩
  have E7:=EB.pick hr hg
  clear hr hg
  obtain ⟨t,rfl⟩:∃ k:Nat,t'=(k:Int):=⟨t'.toNat,by omega⟩
  have hk:t<=ss.length:=by omega
  have hk0:(0:Int)<=(t:Int):=by omega
  have hk1:(t:Int)<=(ss.length:Int):=by omega
  have hcap:=owns_cap E7.so
  have hk2:(t:Int)<=(sc:Int):=by omega
  refine hKq.out _ _ (E7.r5.cell 0 _ rfl) (fun hHd1=>?_)
  try simp only [PS]
  refine TYT 8 (.slice (some ⟨g,0,none⟩) t sc) rfl hHd1 ?_
  simp only [PS]
  refine TYT 9 (.pointer (some ⟨B,0,none⟩)) rfl hHd1 ?_
  simp only [PS]
  refine wpAnyT_ready (rs:=[10]) (by kernel_rfl) (by simp) ?_
  refine AllReadyT.last rfl (fun Kq hKq=>?_)
  have l0:=E7.r5.cell 0 _ rfl
  have l1:=E7.r5.froz 0 (by simp)
  have l2:=E7.r5.lt
  go_simp
  clear l0 l1 l2
  refine hKq.out _ _ trivial (fun _=>?_)
  try simp only [PS]
  refine wpAnyT_done (by kernel_rfl) ?_ _
  have r5:=E7.r5.set 0 (by simp) (.slice (some ⟨g,0,none⟩) t sc)
  have G0:y7.grownBy (y7.setCell ⟨B,0,none⟩ (.slice (some ⟨g,0,none⟩) t sc)) (some B):=grown_setC y7 B 0 _
  have r4:=E7.r4.grown G0 (fun e=>by injection e with e;omega)
  have HFIN:=hid (E7.fin1 t hk (.slice (some ⟨g,0,none⟩) t sc) (.slice (some ⟨g,0,none⟩) t sc) (.slice (some ⟨g',0,none⟩) ws.length sc'))
  generalize e_y9:y7.setCell _ _=y9 at r5 r4 HFIN ⊢
  clear e_y9 G0
  have q0:=r5.cell 0 _ rfl
  have q1:=r5.cell 1 _ rfl
  have ql:=r5.lt
  have f0:=r4.cell 0 _ rfl
  have f1:=r4.cell 1 _ rfl
  obtain ⟨f2,f3⟩:=r4.z2
  have fl:=r4.lt
  have nAB:A4≠B:=by omega
  have nBA:B≠A4:=by omega
  go_wp2
  clear q0 q1 ql f0 f1 f2 f3 fl nAB nBA
  obtain ⟨r8,hr8,hg8,ho8,hd8⟩:=HFIN.out
  generalize e_y8:World.setCell _ _ _=y8 at r8 hr8 hg8 ho8 hd8 ⊢
  clear e_y8
  have z0:=r8.cell 0 _ rfl
  have z1:=r8.cell 1 _ rfl
  have z2:=r8.lt
  exact bodyPost_ret (v:=.agg #[.slice (some ⟨g,0,none⟩) t sc,.slice (some ⟨g',0,none⟩) ws.length sc']) (by simp [results,Try.results30,go_sem,z0,z1]) rfl ⟨⟨ss.take t,ws,g,sc,g',sc',(by unfold diskV;rw [List.length_take,Nat.min_eq_left hk]),(HDK.out).take _,ho8,hd8⟩,⟨p+1+1,by omega,by omega,hr8⟩,hg8⟩
 ·have q0:=S1.r5.cell 0 _ rfl
  have q1:=S1.r5.cell 1 _ rfl
  have ql:=S1.r5.lt
  go_upto_region 11 with fail
  clear q0 q1 ql
  refine wp_region_T (15) (S:=fun w'=>w'.cell? ⟨B,0,none⟩=some (.slice (some ⟨g,0,none⟩) ss.length sc)/\w'.cell? ⟨B,1,none⟩=some (.slice (some ⟨g',0,none⟩) ws.length sc')) (by kernel_rfl) (⟨S1.drew.r5.cell 0 _ rfl,S1.drew.r5.cell 1 _ rfl⟩) (fun hHe=>?_)
  refine TYT 0 (.pointer (some ⟨B,1,none⟩)) rfl hHe ?_
  simp only [PS]
  refine TYT 1 (.slice (some ⟨g',0,none⟩) ws.length sc') rfl hHe ?_
  simp only [PS]
  refine TYT 2 (.pointer (some ⟨B,0,none⟩)) rfl hHe ?_
  simp only [PS]
  refine TYT 3 (.slice (some ⟨g,0,none⟩) ss.length sc) rfl hHe ?_
  simp only [PS]
  refine TYT 4 (.int .i64 (ss.length:Int)) rfl hHe ?_
  simp only [PS]
  refine TYT 6 (.pointer (some ⟨R,0,none⟩)) rfl hHe ?_
  simp only [PS]
  refine wpAnyT_ready (rs:=[5,7]) (by kernel_rfl) (by simp) ?_
  refine AllReadyT.cons rfl (fun Kq hKq=>?_) (AllReadyT.cons rfl (fun Kq hKq=>?_) AllReadyT.nil)
  ·obtain ⟨yb,e_yb⟩:∃ y,y=v5.drew:=⟨_,rfl⟩
   rw [<-e_yb]
   have EB:SpS w yb R a n c (p+1) A4 B g sc ss g' sc' ws:=by rw [e_yb];exact S1.drew
   clear e_yb
   go_simp
   have hbX:=below_nw yb (.cells #[.int .i64 (-1),.int .i64 (ss.length:Int),.int .i64 0] 3)
   have E5:=EB.below hbX
   have rX:=row_new yb #[.int .i64 (-1),.int .i64 (ss.length:Int),.int .i64 0] 3
   obtain ⟨X,e_X⟩:∃ z,z=yb.heap.size:=⟨_,rfl⟩
   have hXR:R<X:=by rw [e_X];have:=EB.lR;have:=EB.lt;omega
   obtain ⟨y5,e_y⟩:∃ z,z=yb.alloc (.cells #[.int .i64 (-1),.int .i64 (ss.length:Int),.int .i64 0] 3):=⟨_,rfl⟩
   rw [<-e_X,<-e_y] at rX
   rw [<-e_y] at E5
   rw [<-e_y,<-e_X]
   clear e_y e_X hbX
   refine hKq.out _ _ (⟨E5.r5.cell 0 _ rfl,E5.r5.cell 1 _ rfl⟩) (fun hHd1=>?_)
   try simp only [PS]
   refine RDT 7 rfl (fun Kq hKq=>?_)
   refine step_call (by rfl) 15 #[.pointer (some ⟨R,0,none⟩),.int .i64 3] (by go_simp) (pick_r R a n c (p+1) 3 _ E5.rd (by omega)) ?_
   rintro e y7 ⟨⟨t',rfl,t0,t1⟩,hr,hg⟩
   refine ⟨_,rfl,?_⟩
   have E7:=E5.pick hr hg
   have rX:=rX.grown hg (fun e=>by injection e with e;omega)
   clear hr hg
   obtain ⟨t,rfl⟩:∃ k:Nat,t'=(k:Int):=⟨t'.toNat,by omega⟩
   have tl:t<3:=by omega
   have ti:(t:Int)<3:=by omega
   refine hKq.out _ _ (⟨E7.r5.cell 0 _ rfl,E7.r5.cell 1 _ rfl⟩) (fun hHd2=>?_)
   try simp only [PS]
   refine TYT 8 (.pointer (some ⟨X,t,none⟩)) rfl hHd2 ?_
   simp only [PS]
   refine wpAnyT_ready (rs:=[9,10]) (by kernel_rfl) (by simp) ?_
   refine AllReadyT.cons rfl (fun Kq hKq=>?_) (AllReadyT.cons rfl (fun Kq hKq=>?_) AllReadyT.nil)
   ·obtain ⟨zz,hz⟩:∃ zz:Int,([.int .i64 (-1),.int .i64 (ss.length:Int),.int .i64 0]:List Value)[t]?=some (.int .i64 zz):=by rcases t with _ | _ | _ | t<;>first | exact ⟨_,rfl⟩ | omega
    have cX:=rX.cell t _ hz
    have lX:=rX.lt
    go_simp
    clear cX lX
    refine hKq.out _ _ hHd2 (fun _=>?_)
    try simp only [PS]
    refine RDT 10 rfl (fun Kq hKq=>?_)
    refine step_call (by rfl) 16 #[] (by go_simp) (zeros_s _) ?_
    rintro e y10 ⟨rfl,hbX⟩
    refine ⟨_,rfl,?_⟩
    have E10:=E7.below hbX
    have rX:=rX.below hbX
    clear hbX
    refine hKq.out _ _ (⟨E10.r5.cell 0 _ rfl,E10.r5.cell 1 _ rfl⟩) (fun hHd4=>?_)
    try simp only [PS]
    refine TYT 11 (.agg #[.int .i64 zz,.string zeros]) rfl hHd4 ?_
    simp only [PS]
    refine RDT 12 rfl (fun Kq hKq=>?_)
    go_simp
    have E12:=E10.below (below_nw y10 (.cells #[.int .i64 zz,.string zeros] 46))
    have lB:=E10.r5.lt
    refine hKq.out _ _ (⟨E12.r5.cell 0 _ rfl,E12.r5.cell 1 _ rfl⟩) (fun hHd5=>?_)
    try simp only [PS]
    refine RDT 13 rfl (fun Kq hKq=>?_)
    refine SAL _ (by rfl) _ _ _ (by rfl) (A4+1) Try.underlying24 HI.out rfl (by omega) (.slice (some ⟨g',0,none⟩) ws.length sc') ws.length _ (by rfl) E12.wo ⟨y10.heap.size,0,none⟩ 1 1 [.int .i64 zz,.string zeros] (by rfl) rfl (World.news_of_block (heap_alloc_new y10 _)) (oneWrS _ _) (by simp;omega) (y10.heap.size+1) (by simp) ?_
    intro kk cap yA hown hgrow hat hlt9
    have hown':yA.ownsRow (A4+1) 46 2 (.slice (some ⟨kk,0,none⟩) (ws++[(zz,zeros)]).length cap) (ws++[(zz,zeros)]).length (wcells (ws++[(zz,zeros)])):=by rw [wcells_append,List.length_append];exact hown
    obtain ⟨rA,GA⟩:=E12.pushW hown' hgrow hat (by simp)
    clear hown hgrow hat hown'
    refine hKq.out _ _ (⟨rA.cell 0 _ rfl,rA.cell 1 _ rfl⟩) (fun hHd6=>?_)
    try simp only [PS]
    refine TYT 14 (.pointer (some ⟨B,1,none⟩)) rfl hHd6 ?_
    simp only [PS]
    refine wpAnyT_ready (rs:=[15]) (by kernel_rfl) (by simp) ?_
    refine AllReadyT.last rfl (fun Kq hKq=>?_)
    have l0:=rA.cell 1 _ rfl
    have l1:=rA.froz 1 (by simp)
    have l2:=rA.lt
    go_simp
    clear l0 l1 l2
    refine hKq.out _ _ trivial (fun _=>?_)
    try simp only [PS]
    refine wpAnyT_done (by kernel_rfl) ?_ _
    rw [List.length_append] at GA
    have HD8:=hid (HDK.out.pushW (zz,zeros) (by omega) zeros_64)
    obtain ⟨ws2,e2⟩:∃ l:List WrT,l=ws++[(zz,zeros)]:=⟨_,rfl⟩
    rw [<-e2] at HD8 GA
    generalize e_yC:World.setCell _ _ _=yC at GA ⊢
    clear e_yC e2
    have q0:=GA.r5.cell 0 _ rfl
    have q1:=GA.r5.cell 1 _ rfl
    have ql:=GA.r5.lt
    have f0:=GA.r4.cell 0 _ rfl
    have f1:=GA.r4.cell 1 _ rfl
    obtain ⟨f2,f3⟩:=GA.r4.z2
    have fl:=GA.r4.lt
    have nAB:A4≠B:=by omega
    have nBA:B≠A4:=by omega
    go_wp2
    clear q0 q1 ql f0 f1 f2 f3 fl nAB nBA
    obtain ⟨r8,hr8,hg8,ho8,hd8⟩:=GA.fin ss.length (Nat.le_refl _) (.slice (some ⟨g,0,none⟩) ss.length sc) (.slice (some ⟨kk,0,none⟩) ws2.length cap)
    rw [List.take_length] at hd8
    generalize e_y8:World.setCell _ _ _=y8 at r8 hr8 hg8 ho8 hd8 ⊢
    clear e_y8
    have z0:=r8.cell 0 _ rfl
    have z1:=r8.cell 1 _ rfl
    have z2:=r8.lt
    exact bodyPost_ret (v:=.agg #[.slice (some ⟨g,0,none⟩) ss.length sc,.slice (some ⟨kk,0,none⟩) ws2.length cap]) (by simp [results,Try.results30,go_sem,z0,z1]) rfl ⟨⟨ss,ws2,g,sc,kk,cap,rfl,HD8.out,ho8,hd8⟩,⟨p+1+1,by omega,by omega,hr8⟩,hg8⟩
   ·refine step_call (by rfl) 16 #[] (by go_simp) (zeros_s _) ?_
    rintro e y10 ⟨rfl,hbX⟩
    refine ⟨_,rfl,?_⟩
    have E10:=E7.below hbX
    have rX:=rX.below hbX
    clear hbX
    refine hKq.out _ _ (⟨E10.r5.cell 0 _ rfl,E10.r5.cell 1 _ rfl⟩) (fun hHd8=>?_)
    try simp only [PS]
    refine RDT 9 rfl (fun Kq hKq=>?_)
    obtain ⟨zz,hz⟩:∃ zz:Int,([.int .i64 (-1),.int .i64 (ss.length:Int),.int .i64 0]:List Value)[t]?=some (.int .i64 zz):=by rcases t with _ | _ | _ | t<;>first | exact ⟨_,rfl⟩ | omega
    have cX:=rX.cell t _ hz
    have lX:=rX.lt
    go_simp
    clear cX lX
    refine hKq.out _ _ hHd8 (fun _=>?_)
    try simp only [PS]
    refine TYT 11 (.agg #[.int .i64 zz,.string zeros]) rfl hHd8 ?_
    simp only [PS]
    refine RDT 12 rfl (fun Kq hKq=>?_)
    go_simp
    have E12:=E10.below (below_nw y10 (.cells #[.int .i64 zz,.string zeros] 46))
    have lB:=E10.r5.lt
    refine hKq.out _ _ (⟨E12.r5.cell 0 _ rfl,E12.r5.cell 1 _ rfl⟩) (fun hHd10=>?_)
    try simp only [PS]
    refine RDT 13 rfl (fun Kq hKq=>?_)
    refine SAL _ (by rfl) _ _ _ (by rfl) (A4+1) Try.underlying24 HI.out rfl (by omega) (.slice (some ⟨g',0,none⟩) ws.length sc') ws.length _ (by rfl) E12.wo ⟨y10.heap.size,0,none⟩ 1 1 [.int .i64 zz,.string zeros] (by rfl) rfl (World.news_of_block (heap_alloc_new y10 _)) (oneWrS _ _) (by simp;omega) (y10.heap.size+1) (by simp) ?_
    intro kk cap yA hown hgrow hat hlt9
    have hown':yA.ownsRow (A4+1) 46 2 (.slice (some ⟨kk,0,none⟩) (ws++[(zz,zeros)]).length cap) (ws++[(zz,zeros)]).length (wcells (ws++[(zz,zeros)])):=by rw [wcells_append,List.length_append];exact hown
    obtain ⟨rA,GA⟩:=E12.pushW hown' hgrow hat (by simp)
    clear hown hgrow hat hown'
    refine hKq.out _ _ (⟨rA.cell 0 _ rfl,rA.cell 1 _ rfl⟩) (fun hHd11=>?_)
    try simp only [PS]
    refine TYT 14 (.pointer (some ⟨B,1,none⟩)) rfl hHd11 ?_
    simp only [PS]
    refine wpAnyT_ready (rs:=[15]) (by kernel_rfl) (by simp) ?_
    refine AllReadyT.last rfl (fun Kq hKq=>?_)
    have l0:=rA.cell 1 _ rfl
    have l1:=rA.froz 1 (by simp)
    have l2:=rA.lt
    go_simp
    clear l0 l1 l2
    refine hKq.out _ _ trivial (fun _=>?_)
    try simp only [PS]
    refine wpAnyT_done (by kernel_rfl) ?_ _
    rw [List.length_append] at GA
    have HD8:=hid (HDK.out.pushW (zz,zeros) (by omega) zeros_64)
    obtain ⟨ws2,e2⟩:∃ l:List WrT,l=ws++[(zz,zeros)]:=⟨_,rfl⟩
    rw [<-e2] at HD8 GA
    generalize e_yC:World.setCell _ _ _=yC at GA ⊢
    clear e_yC e2
    have q0:=GA.r5.cell 0 _ rfl
    have q1:=GA.r5.cell 1 _ rfl
    have ql:=GA.r5.lt
    have f0:=GA.r4.cell 0 _ rfl
    have f1:=GA.r4.cell 1 _ rfl
    obtain ⟨f2,f3⟩:=GA.r4.z2
    have fl:=GA.r4.lt
    have nAB:A4≠B:=by omega
    have nBA:B≠A4:=by omega
    go_wp2
    clear q0 q1 ql f0 f1 f2 f3 fl nAB nBA
    obtain ⟨r8,hr8,hg8,ho8,hd8⟩:=GA.fin ss.length (Nat.le_refl _) (.slice (some ⟨g,0,none⟩) ss.length sc) (.slice (some ⟨kk,0,none⟩) ws2.length cap)
    rw [List.take_length] at hd8
    generalize e_y8:World.setCell _ _ _=y8 at r8 hr8 hg8 ho8 hd8 ⊢
    clear e_y8
    have z0:=r8.cell 0 _ rfl
    have z1:=r8.cell 1 _ rfl
    have z2:=r8.lt
    exact bodyPost_ret (v:=.agg #[.slice (some ⟨g,0,none⟩) ss.length sc,.slice (some ⟨kk,0,none⟩) ws2.length cap]) (by simp [results,Try.results30,go_sem,z0,z1]) rfl ⟨⟨ss,ws2,g,sc,kk,cap,rfl,HD8.out,ho8,hd8⟩,⟨p+1+1,by omega,by omega,hr8⟩,hg8⟩
  ·obtain ⟨yb,e_yb⟩:∃ y,y=v5.drew:=⟨_,rfl⟩
   rw [<-e_yb]
   have EB:SpS w yb R a n c (p+1) A4 B g sc ss g' sc' ws:=by rw [e_yb];exact S1.drew
   clear e_yb
   refine step_call (by rfl) 15 #[.pointer (some ⟨R,0,none⟩),.int .i64 3] (by go_simp) (pick_r R a n c (p+1) 3 _ EB.rd (by omega)) ?_
   rintro e y7 ⟨⟨t',rfl,t0,t1⟩,hr,hg⟩
   refine ⟨_,rfl,?_⟩
   have E7:=EB.pick hr hg
   clear hr hg
   obtain ⟨t,rfl⟩:∃ k:Nat,t'=(k:Int):=⟨t'.toNat,by omega⟩
   have tl:t<3:=by omega
   have ti:(t:Int)<3:=by omega
   refine hKq.out _ _ (⟨E7.r5.cell 0 _ rfl,E7.r5.cell 1 _ rfl⟩) (fun hHd13=>?_)
   try simp only [PS]
   refine wpAnyT_ready (rs:=[5,10]) (by kernel_rfl) (by simp) ?_
   refine AllReadyT.cons rfl (fun Kq hKq=>?_) (AllReadyT.cons rfl (fun Kq hKq=>?_) AllReadyT.nil)
   ·go_simp
    have hbX:=below_nw y7 (.cells #[.int .i64 (-1),.int .i64 (ss.length:Int),.int .i64 0] 3)
    have E5:=E7.below hbX
    have rX:=row_new y7 #[.int .i64 (-1),.int .i64 (ss.length:Int),.int .i64 0] 3
    obtain ⟨X,e_X⟩:∃ z,z=y7.heap.size:=⟨_,rfl⟩
    have hXR:R<X:=by rw [e_X];have:=E7.lR;have:=E7.lt;omega
    obtain ⟨y5,e_y⟩:∃ z,z=y7.alloc (.cells #[.int .i64 (-1),.int .i64 (ss.length:Int),.int .i64 0] 3):=⟨_,rfl⟩
    rw [<-e_X,<-e_y] at rX
    rw [<-e_y] at E5
    rw [<-e_y,<-e_X]
    clear e_y e_X hbX
    refine hKq.out _ _ (⟨E5.r5.cell 0 _ rfl,E5.r5.cell 1 _ rfl⟩) (fun hHd14=>?_)
    try simp only [PS]
    refine TYT 8 (.pointer (some ⟨X,t,none⟩)) rfl hHd14 ?_
    simp only [PS]
    refine wpAnyT_ready (rs:=[9,10]) (by kernel_rfl) (by simp) ?_
    refine AllReadyT.cons rfl (fun Kq hKq=>?_) (AllReadyT.cons rfl (fun Kq hKq=>?_) AllReadyT.nil)
    ·obtain ⟨zz,hz⟩:∃ zz:Int,([.int .i64 (-1),.int .i64 (ss.length:Int),.int .i64 0]:List Value)[t]?=some (.int .i64 zz):=by rcases t with _ | _ | _ | t<;>first | exact ⟨_,rfl⟩ | omega
     have cX:=rX.cell t _ hz
     have lX:=rX.lt
     go_simp
     clear cX lX
     refine hKq.out _ _ hHd14 (fun _=>?_)
     try simp only [PS]
     refine RDT 10 rfl (fun Kq hKq=>?_)
     refine step_call (by rfl) 16 #[] (by go_simp) (zeros_s _) ?_
     rintro e y10 ⟨rfl,hbX⟩
     refine ⟨_,rfl,?_⟩
     have E10:=E5.below hbX
     have rX:=rX.below hbX
     clear hbX
     refine hKq.out _ _ (⟨E10.r5.cell 0 _ rfl,E10.r5.cell 1 _ rfl⟩) (fun hHd16=>?_)
     try simp only [PS]
     refine TYT 11 (.agg #[.int .i64 zz,.string zeros]) rfl hHd16 ?_
     simp only [PS]
     refine RDT 12 rfl (fun Kq hKq=>?_)
     go_simp
     have E12:=E10.below (below_nw y10 (.cells #[.int .i64 zz,.string zeros] 46))
     have lB:=E10.r5.lt
     refine hKq.out _ _ (⟨E12.r5.cell 0 _ rfl,E12.r5.cell 1 _ rfl⟩) (fun hHd17=>?_)
     try simp only [PS]
     refine RDT 13 rfl (fun Kq hKq=>?_)
     refine SAL _ (by rfl) _ _ _ (by rfl) (A4+1) Try.underlying24 HI.out rfl (by omega) (.slice (some ⟨g',0,none⟩) ws.length sc') ws.length _ (by rfl) E12.wo ⟨y10.heap.size,0,none⟩ 1 1 [.int .i64 zz,.string zeros] (by rfl) rfl (World.news_of_block (heap_alloc_new y10 _)) (oneWrS _ _) (by simp;omega) (y10.heap.size+1) (by simp) ?_
     intro kk cap yA hown hgrow hat hlt9
     have hown':yA.ownsRow (A4+1) 46 2 (.slice (some ⟨kk,0,none⟩) (ws++[(zz,zeros)]).length cap) (ws++[(zz,zeros)]).length (wcells (ws++[(zz,zeros)])):=by rw [wcells_append,List.length_append];exact hown
     obtain ⟨rA,GA⟩:=E12.pushW hown' hgrow hat (by simp)
     clear hown hgrow hat hown'
     refine hKq.out _ _ (⟨rA.cell 0 _ rfl,rA.cell 1 _ rfl⟩) (fun hHd18=>?_)
     try simp only [PS]
     refine TYT 14 (.pointer (some ⟨B,1,none⟩)) rfl hHd18 ?_
     simp only [PS]
     refine wpAnyT_ready (rs:=[15]) (by kernel_rfl) (by simp) ?_
     refine AllReadyT.last rfl (fun Kq hKq=>?_)
     have l0:=rA.cell 1 _ rfl
     have l1:=rA.froz 1 (by simp)
     have l2:=rA.lt
     go_simp
     clear l0 l1 l2
     refine hKq.out _ _ trivial (fun _=>?_)
     try simp only [PS]
     refine wpAnyT_done (by kernel_rfl) ?_ _
     rw [List.length_append] at GA
     have HD8:=hid (HDK.out.pushW (zz,zeros) (by omega) zeros_64)
     obtain ⟨ws2,e2⟩:∃ l:List WrT,l=ws++[(zz,zeros)]:=⟨_,rfl⟩
     rw [<-e2] at HD8 GA
     generalize e_yC:World.setCell _ _ _=yC at GA ⊢
     clear e_yC e2
     have q0:=GA.r5.cell 0 _ rfl
     have q1:=GA.r5.cell 1 _ rfl
     have ql:=GA.r5.lt
     have f0:=GA.r4.cell 0 _ rfl
     have f1:=GA.r4.cell 1 _ rfl
     obtain ⟨f2,f3⟩:=GA.r4.z2
     have fl:=GA.r4.lt
     have nAB:A4≠B:=by omega
     have nBA:B≠A4:=by omega
     go_wp2
     clear q0 q1 ql f0 f1 f2 f3 fl nAB nBA
     obtain ⟨r8,hr8,hg8,ho8,hd8⟩:=GA.fin ss.length (Nat.le_refl _) (.slice (some ⟨g,0,none⟩) ss.length sc) (.slice (some ⟨kk,0,none⟩) ws2.length cap)
     rw [List.take_length] at hd8
     generalize e_y8:World.setCell _ _ _=y8 at r8 hr8 hg8 ho8 hd8 ⊢
     clear e_y8
     have z0:=r8.cell 0 _ rfl
     have z1:=r8.cell 1 _ rfl
     have z2:=r8.lt
     exact bodyPost_ret (v:=.agg #[.slice (some ⟨g,0,none⟩) ss.length sc,.slice (some ⟨kk,0,none⟩) ws2.length cap]) (by simp [results,Try.results30,go_sem,z0,z1]) rfl ⟨⟨ss,ws2,g,sc,kk,cap,rfl,HD8.out,ho8,hd8⟩,⟨p+1+1,by omega,by omega,hr8⟩,hg8⟩
    ·refine step_call (by rfl) 16 #[] (by go_simp) (zeros_s _) ?_
     rintro e y10 ⟨rfl,hbX⟩
     refine ⟨_,rfl,?_⟩
     have E10:=E5.below hbX
     have rX:=rX.below hbX
     clear hbX
     refine hKq.out _ _ (⟨E10.r5.cell 0 _ rfl,E10.r5.cell 1 _ rfl⟩) (fun hHd20=>?_)
     try simp only [PS]
     refine RDT 9 rfl (fun Kq hKq=>?_)
     obtain ⟨zz,hz⟩:∃ zz:Int,([.int .i64 (-1),.int .i64 (ss.length:Int),.int .i64 0]:List Value)[t]?=some (.int .i64 zz):=by rcases t with _ | _ | _ | t<;>first | exact ⟨_,rfl⟩ | omega
     have cX:=rX.cell t _ hz
     have lX:=rX.lt
     go_simp
     clear cX lX
     refine hKq.out _ _ hHd20 (fun _=>?_)
     try simp only [PS]
     refine TYT 11 (.agg #[.int .i64 zz,.string zeros]) rfl hHd20 ?_
     simp only [PS]
     refine RDT 12 rfl (fun Kq hKq=>?_)
     go_simp
     have E12:=E10.below (below_nw y10 (.cells #[.int .i64 zz,.string zeros] 46))
     have lB:=E10.r5.lt
     refine hKq.out _ _ (⟨E12.r5.cell 0 _ rfl,E12.r5.cell 1 _ rfl⟩) (fun hHd22=>?_)
     try simp only [PS]
     refine RDT 13 rfl (fun Kq hKq=>?_)
     refine SAL _ (by rfl) _ _ _ (by rfl) (A4+1) Try.underlying24 HI.out rfl (by omega) (.slice (some ⟨g',0,none⟩) ws.length sc') ws.length _ (by rfl) E12.wo ⟨y10.heap.size,0,none⟩ 1 1 [.int .i64 zz,.string zeros] (by rfl) rfl (World.news_of_block (heap_alloc_new y10 _)) (oneWrS _ _) (by simp;omega) (y10.heap.size+1) (by simp) ?_
     intro kk cap yA hown hgrow hat hlt9
     have hown':yA.ownsRow (A4+1) 46 2 (.slice (some ⟨kk,0,none⟩) (ws++[(zz,zeros)]).length cap) (ws++[(zz,zeros)]).length (wcells (ws++[(zz,zeros)])):=by rw [wcells_append,List.length_append];exact hown
     obtain ⟨rA,GA⟩:=E12.pushW hown' hgrow hat (by simp)
     clear hown hgrow hat hown'
     refine hKq.out _ _ (⟨rA.cell 0 _ rfl,rA.cell 1 _ rfl⟩) (fun hHd23=>?_)
     try simp only [PS]
     refine TYT 14 (.pointer (some ⟨B,1,none⟩)) rfl hHd23 ?_
     simp only [PS]
     refine wpAnyT_ready (rs:=[15]) (by kernel_rfl) (by simp) ?_
     refine AllReadyT.last rfl (fun Kq hKq=>?_)
     have l0:=rA.cell 1 _ rfl
     have l1:=rA.froz 1 (by simp)
     have l2:=rA.lt
     go_simp
     clear l0 l1 l2
     refine hKq.out _ _ trivial (fun _=>?_)
     try simp only [PS]
     refine wpAnyT_done (by kernel_rfl) ?_ _
     rw [List.length_append] at GA
     have HD8:=hid (HDK.out.pushW (zz,zeros) (by omega) zeros_64)
     obtain ⟨ws2,e2⟩:∃ l:List WrT,l=ws++[(zz,zeros)]:=⟨_,rfl⟩
     rw [<-e2] at HD8 GA
     generalize e_yC:World.setCell _ _ _=yC at GA ⊢
     clear e_yC e2
     have q0:=GA.r5.cell 0 _ rfl
     have q1:=GA.r5.cell 1 _ rfl
     have ql:=GA.r5.lt
     have f0:=GA.r4.cell 0 _ rfl
     have f1:=GA.r4.cell 1 _ rfl
     obtain ⟨f2,f3⟩:=GA.r4.z2
     have fl:=GA.r4.lt
     have nAB:A4≠B:=by omega
     have nBA:B≠A4:=by omega
     go_wp2
     clear q0 q1 ql f0 f1 f2 f3 fl nAB nBA
     obtain ⟨r8,hr8,hg8,ho8,hd8⟩:=GA.fin ss.length (Nat.le_refl _) (.slice (some ⟨g,0,none⟩) ss.length sc) (.slice (some ⟨kk,0,none⟩) ws2.length cap)
     rw [List.take_length] at hd8
     generalize e_y8:World.setCell _ _ _=y8 at r8 hr8 hg8 ho8 hd8 ⊢
     clear e_y8
     have z0:=r8.cell 0 _ rfl
     have z1:=r8.cell 1 _ rfl
     have z2:=r8.lt
     exact bodyPost_ret (v:=.agg #[.slice (some ⟨g,0,none⟩) ss.length sc,.slice (some ⟨kk,0,none⟩) ws2.length cap]) (by simp [results,Try.results30,go_sem,z0,z1]) rfl ⟨⟨ss,ws2,g,sc,kk,cap,rfl,HD8.out,ho8,hd8⟩,⟨p+1+1,by omega,by omega,hr8⟩,hg8⟩
   ·refine step_call (by rfl) 16 #[] (by go_simp) (zeros_s _) ?_
    rintro e y10 ⟨rfl,hbX⟩
    refine ⟨_,rfl,?_⟩
    have E10:=E7.below hbX
    clear hbX
    refine hKq.out _ _ (⟨E10.r5.cell 0 _ rfl,E10.r5.cell 1 _ rfl⟩) (fun hHd25=>?_)
    try simp only [PS]
    refine RDT 5 rfl (fun Kq hKq=>?_)
    go_simp
    have hbX:=below_nw y10 (.cells #[.int .i64 (-1),.int .i64 (ss.length:Int),.int .i64 0] 3)
    have E5:=E10.below hbX
    have rX:=row_new y10 #[.int .i64 (-1),.int .i64 (ss.length:Int),.int .i64 0] 3
    obtain ⟨X,e_X⟩:∃ z,z=y10.heap.size:=⟨_,rfl⟩
    have hXR:R<X:=by rw [e_X];have:=E10.lR;have:=E10.lt;omega
    obtain ⟨y5,e_y⟩:∃ z,z=y10.alloc (.cells #[.int .i64 (-1),.int .i64 (ss.length:Int),.int .i64 0] 3):=⟨_,rfl⟩
    rw [<-e_X,<-e_y] at rX
    rw [<-e_y] at E5
    rw [<-e_y,<-e_X]
    clear e_y e_X hbX
    refine hKq.out _ _ (⟨E5.r5.cell 0 _ rfl,E5.r5.cell 1 _ rfl⟩) (fun hHd26=>?_)
    try simp only [PS]
    refine TYT 8 (.pointer (some ⟨X,t,none⟩)) rfl hHd26 ?_
    simp only [PS]
    refine RDT 9 rfl (fun Kq hKq=>?_)
    obtain ⟨zz,hz⟩:∃ zz:Int,([.int .i64 (-1),.int .i64 (ss.length:Int),.int .i64 0]:List Value)[t]?=some (.int .i64 zz):=by rcases t with _ | _ | _ | t<;>first | exact ⟨_,rfl⟩ | omega
    have cX:=rX.cell t _ hz
    have lX:=rX.lt
    go_simp
    clear cX lX
    refine hKq.out _ _ hHd26 (fun _=>?_)
    try simp only [PS]
    refine TYT 11 (.agg #[.int .i64 zz,.string zeros]) rfl hHd26 ?_
    simp only [PS]
    refine RDT 12 rfl (fun Kq hKq=>?_)
    go_simp
    have E12:=E5.below (below_nw y5 (.cells #[.int .i64 zz,.string zeros] 46))
    have lB:=E5.r5.lt
    refine hKq.out _ _ (⟨E12.r5.cell 0 _ rfl,E12.r5.cell 1 _ rfl⟩) (fun hHd28=>?_)
    try simp only [PS]
    refine RDT 13 rfl (fun Kq hKq=>?_)
    refine SAL _ (by rfl) _ _ _ (by rfl) (A4+1) Try.underlying24 HI.out rfl (by omega) (.slice (some ⟨g',0,none⟩) ws.length sc') ws.length _ (by rfl) E12.wo ⟨y5.heap.size,0,none⟩ 1 1 [.int .i64 zz,.string zeros] (by rfl) rfl (World.news_of_block (heap_alloc_new y5 _)) (oneWrS _ _) (by simp;omega) (y5.heap.size+1) (by simp) ?_
    intro kk cap yA hown hgrow hat hlt9
    have hown':yA.ownsRow (A4+1) 46 2 (.slice (some ⟨kk,0,none⟩) (ws++[(zz,zeros)]).length cap) (ws++[(zz,zeros)]).length (wcells (ws++[(zz,zeros)])):=by rw [wcells_append,List.length_append];exact hown
    obtain ⟨rA,GA⟩:=E12.pushW hown' hgrow hat (by simp)
    clear hown hgrow hat hown'
    refine hKq.out _ _ (⟨rA.cell 0 _ rfl,rA.cell 1 _ rfl⟩) (fun hHd29=>?_)
    try simp only [PS]
    refine TYT 14 (.pointer (some ⟨B,1,none⟩)) rfl hHd29 ?_
    simp only [PS]
    refine wpAnyT_ready (rs:=[15]) (by kernel_rfl) (by simp) ?_
    refine AllReadyT.last rfl (fun Kq hKq=>?_)
    have l0:=rA.cell 1 _ rfl
    have l1:=rA.froz 1 (by simp)
    have l2:=rA.lt
    go_simp
    clear l0 l1 l2
    refine hKq.out _ _ trivial (fun _=>?_)
    try simp only [PS]
    refine wpAnyT_done (by kernel_rfl) ?_ _
    rw [List.length_append] at GA
    have HD8:=hid (HDK.out.pushW (zz,zeros) (by omega) zeros_64)
    obtain ⟨ws2,e2⟩:∃ l:List WrT,l=ws++[(zz,zeros)]:=⟨_,rfl⟩
    rw [<-e2] at HD8 GA
    generalize e_yC:World.setCell _ _ _=yC at GA ⊢
    clear e_yC e2
    have q0:=GA.r5.cell 0 _ rfl
    have q1:=GA.r5.cell 1 _ rfl
    have ql:=GA.r5.lt
    have f0:=GA.r4.cell 0 _ rfl
    have f1:=GA.r4.cell 1 _ rfl
    obtain ⟨f2,f3⟩:=GA.r4.z2
    have fl:=GA.r4.lt
    have nAB:A4≠B:=by omega
    have nBA:B≠A4:=by omega
    go_wp2
    clear q0 q1 ql f0 f1 f2 f3 fl nAB nBA
    obtain ⟨r8,hr8,hg8,ho8,hd8⟩:=GA.fin ss.length (Nat.le_refl _) (.slice (some ⟨g,0,none⟩) ss.length sc) (.slice (some ⟨kk,0,none⟩) ws2.length cap)
    rw [List.take_length] at hd8
    generalize e_y8:World.setCell _ _ _=y8 at r8 hr8 hg8 ho8 hd8 ⊢
    clear e_y8
    have z0:=r8.cell 0 _ rfl
    have z1:=r8.cell 1 _ rfl
    have z2:=r8.lt
    exact bodyPost_ret (v:=.agg #[.slice (some ⟨g,0,none⟩) ss.length sc,.slice (some ⟨kk,0,none⟩) ws2.length cap]) (by simp [results,Try.results30,go_sem,z0,z1]) rfl ⟨⟨ss,ws2,g,sc,kk,cap,rfl,HD8.out,ho8,hd8⟩,⟨p+1+1,by omega,by omega,hr8⟩,hg8⟩
 ·have q0:=S1.r5.cell 0 _ rfl
  have q1:=S1.r5.cell 1 _ rfl
  have ql:=S1.r5.lt
  have E4:=S1.below (below_nw v5 (.cells #[.int .i64 2,.string ⟨#[115,104,111,114,116]⟩] 46))
  have HE4:=hid E4
  have lB:=S1.r5.lt
  clear E4
  go_upto_region 22 with (first | (at_builtin;refine WAL _ rfl _ _ 24 rfl (A4+1) Try.underlying24 HI.out rfl (by omega) _ ws.length _ rfl HE4.out.wo ⟨v5.heap.size,0,none⟩ 1 1 [.int .i64 2,.string ⟨#[115,104,111,114,116]⟩] rfl rfl (World.news_of_block (heap_alloc_new v5 _)) (oneWrS _ _) (by simp;omega) (v5.heap.size+1) (by simp) ?_;intro kk cap yA hown hgrow hat hlt9;have hown':yA.ownsRow (A4+1) 46 2 (.slice (some ⟨kk,0,none⟩) (ws++[((2,⟨#[115,104,111,114,116]⟩):WrT)]).length cap) (ws++[((2,⟨#[115,104,111,114,116]⟩):WrT)]).length (wcells (ws++[(2,⟨#[115,104,111,114,116]⟩)])):=(by rw [wcells_append,List.length_append];exact hown);obtain ⟨rA,GA⟩:=HE4.out.pushW hown' hgrow hat (by simp);have l0:=rA.cell 1 _ rfl;have l1:=rA.froz 1 (by simp);have l2:=rA.lt;rw [List.length_append] at GA;have HG9:=hid GA;clear hown hgrow hat hown' GA rA))
  clear q0 q1 ql
  have GA:=HG9.out
  have HD8:=hid (HDK.out.pushW (2,⟨#[115,104,111,114,116]⟩) (by omega) (by decide))
  obtain ⟨ws2,e2⟩:∃ l:List WrT,l=ws++[(2,⟨#[115,104,111,114,116]⟩)]:=⟨_,rfl⟩
  rw [<-e2] at HD8 GA
  generalize e_yC:World.setCell _ _ _=yC at GA ⊢
  clear e_yC e2 HG9
  have q0:=GA.r5.cell 0 _ rfl
  have q1:=GA.r5.cell 1 _ rfl
  have ql:=GA.r5.lt
  have f0:=GA.r4.cell 0 _ rfl
  have f1:=GA.r4.cell 1 _ rfl
  obtain ⟨f2,f3⟩:=GA.r4.z2
  have fl:=GA.r4.lt
  have nAB:A4≠B:=by omega
  have nBA:B≠A4:=by omega
  go_wp2
  clear q0 q1 ql f0 f1 f2 f3 fl nAB nBA
  obtain ⟨r8,hr8,hg8,ho8,hd8⟩:=GA.fin ss.length (Nat.le_refl _) (.slice (some ⟨g,0,none⟩) ss.length sc) (.slice (some ⟨kk,0,none⟩) ws2.length cap)
  rw [List.take_length] at hd8
  generalize e_y8:World.setCell _ _ _=y8 at r8 hr8 hg8 ho8 hd8 ⊢
  clear e_y8
  have z0:=r8.cell 0 _ rfl
  have z1:=r8.cell 1 _ rfl
  have z2:=r8.lt
  exact bodyPost_ret (v:=.agg #[.slice (some ⟨g,0,none⟩) ss.length sc,.slice (some ⟨kk,0,none⟩) ws2.length cap]) (by simp [results,Try.results30,go_sem,z0,z1]) rfl ⟨⟨ss,ws2,g,sc,kk,cap,rfl,HD8.out,ho8,hd8⟩,⟨p+1,by omega,by omega,hr8⟩,hg8⟩
 ·go_wp2_with fail
  refine (pick_r R a n c (p+1) 2 _ S1.rd (by omega)).mono ?_
  rintro e v6 ⟨⟨z,rfl,z0,z1⟩,hr,hg⟩
  have S2:=S1.pick hr hg
  clear S1 hr hg
  obtain ⟨N,hN⟩:∃ N:Nat,(300:Int)+z=(N:Int):=⟨(300+z).toNat,by omega⟩
  have hwN:IntKind.i64.wrap ((300:Int)+z)=(N:Int):=by rw [hN];exact wrap_i64_id _ (by omega) (by omega)
  have hN1:N<=301:=by omega
  have hwN2:IntKind.i64.wrap (N:Int)=(N:Int):=wrap_i64_id _ (by omega) (by omega)
  have hN2:300<=N:=by omega
  have q0:=S2.r5.cell 0 _ rfl
  have q1:=S2.r5.cell 1 _ rfl
  have ql:=S2.r5.lt
  go_wp2_with fail
  clear q0 q1 ql
  go_loopw [88] (fun _ wr=>SpW w wr R a n c (p+1+1) A4 B g sc ss N) (fun _ wr=>400-cLen (wr.cell? ⟨B,1,none⟩))
  case atStart=>exact ⟨g',sc',ws,HDK.out,by omega,S2⟩
  case round =>
   obtain ⟨g',sc',ws,hdk,hln,S3⟩:=hrel
   have HD3:=hid hdk
   clear S2 HDK hdk
   by_cases hlt:ws.length<N
   ·have hlt':(ws.length:Int)<(N:Int):=by omega
    have q0:=S3.r5.cell 0 _ rfl
    have q1:=S3.r5.cell 1 _ rfl
    have ql:=S3.r5.lt
    go_upto_region 17 with fail
    clear q0 q1 ql
    refine wp_region_T (7) (S:=fun w'=>w'.cell? ⟨B,1,none⟩=some (.slice (some ⟨g',0,none⟩) ws.length sc')) (by kernel_rfl) (S3.drew.r5.cell 1 _ rfl) (fun hHe=>?_)
    refine TYT 0 (.pointer (some ⟨B,1,none⟩)) rfl hHe ?_
    simp only [PS]
    refine TYT 1 (.slice (some ⟨g',0,none⟩) ws.length sc') rfl hHe ?_
    simp only [PS]
    refine RDT 2 rfl (fun Kq hKq=>?_)
    obtain ⟨yb,e_yb⟩:∃ y,y=wr.drew:=⟨_,rfl⟩
    rw [<-e_yb]
    have EB:SpS w yb R a n c (p+1+1) A4 B g sc ss g' sc' ws:=by rw [e_yb];exact S3.drew
    clear e_yb
    refine step_call (by rfl) 16 #[] (by go_simp) (zeros_s _) ?_
    rintro e y2 ⟨rfl,hbX⟩
    refine ⟨_,rfl,?_⟩
    have E2:=EB.below hbX
    clear hbX
    refine hKq.out _ _ (E2.r5.cell 1 _ rfl) (fun hHd1=>?_)
    try simp only [PS]
    refine TYT 3 (.agg #[.int .i64 3,.string zeros]) rfl hHd1 ?_
    simp only [PS]
    refine RDT 4 rfl (fun Kq hKq=>?_)
    go_simp
    have E4:=E2.below (below_nw y2 (.cells #[.int .i64 3,.string zeros] 46))
    have lB:=E2.r5.lt
    refine hKq.out _ _ (E4.r5.cell 1 _ rfl) (fun hHd2=>?_)
    try simp only [PS]
    refine RDT 5 rfl (fun Kq hKq=>?_)
    refine SAL _ (by rfl) _ _ _ (by rfl) (A4+1) Try.underlying24 HI.out rfl (by omega) (.slice (some ⟨g',0,none⟩) ws.length sc') ws.length _ (by rfl) E4.wo ⟨y2.heap.size,0,none⟩ 1 1 [.int .i64 3,.string zeros] (by rfl) rfl (World.news_of_block (heap_alloc_new y2 _)) (oneWrS _ _) (by simp;omega) (y2.heap.size+1) (by simp) ?_
    intro kk cap yA hown hgrow hat hlt9
    have hown':yA.ownsRow (A4+1) 46 2 (.slice (some ⟨kk,0,none⟩) (ws++[(3,zeros)]).length cap) (ws++[(3,zeros)]).length (wcells (ws++[(3,zeros)])):=by rw [wcells_append,List.length_append];exact hown
    obtain ⟨rA,GA⟩:=E4.pushW hown' hgrow hat (by simp)
    clear hown hgrow hat hown'
    refine hKq.out _ _ (rA.cell 1 _ rfl) (fun hHd3=>?_)
    try simp only [PS]
    refine TYT 6 (.pointer (some ⟨B,1,none⟩)) rfl hHd3 ?_
    simp only [PS]
    refine wpAnyT_ready (rs:=[7]) (by kernel_rfl) (by simp) ?_
    refine AllReadyT.last rfl (fun Kq hKq=>?_)
    have l0:=rA.cell 1 _ rfl
    have l1:=rA.froz 1 (by simp)
    have l2:=rA.lt
    go_simp
    clear l0 l1 l2
    refine hKq.out _ _ trivial (fun _=>?_)
    try simp only [PS]
    refine wpAnyT_done (by kernel_rfl) ?_ _
    rw [List.length_append] at GA
    have HD8:=hid (HD3.out.pushW (3,zeros) (by omega) zeros_64)
    obtain ⟨l2,e2⟩:∃ l:List WrT,l=ws++[(3,zeros)]:=⟨_,rfl⟩
    have hl2:l2.length=ws.length+1:=by rw [e2,List.length_append];rfl
    rw [<-e2] at HD8 GA
    generalize e_yC:World.setCell _ _ _=yC at GA ⊢
    clear e_yC e2 rA
    have hm1:=cLen_at (S3.r5.cell 1 _ rfl)
    have hm2:=cLen_at (GA.r5.cell 1 _ rfl)
    go_wp2_with fail
    go_roundw
    case rel=>exact ⟨kk,cap,l2,HD8.out,by omega,GA⟩
    case measure=>(try rw [hm1,hm2]);omega
   ·have hlt':¬ (ws.length:Int)<(N:Int):=by omega
    have q0:=S3.r5.cell 0 _ rfl
    have q1:=S3.r5.cell 1 _ rfl
    have ql:=S3.r5.lt
    have f0:=S3.r4.cell 0 _ rfl
    have f1:=S3.r4.cell 1 _ rfl
    obtain ⟨f2,f3⟩:=S3.r4.z2
    have fl:=S3.r4.lt
    have nAB:A4≠B:=by omega
    have nBA:B≠A4:=by omega
    go_wp2
    clear q0 q1 ql f0 f1 f2 f3 fl nAB nBA
    obtain ⟨r8,hr8,hg8,ho8,hd8⟩:=S3.fin ss.length (Nat.le_refl _) (.slice (some ⟨g,0,none⟩) ss.length sc) (.slice (some ⟨g',0,none⟩) ws.length sc')
    rw [List.take_length] at hd8
    generalize e_y8:World.setCell _ _ _=y8 at r8 hr8 hg8 ho8 hd8 ⊢
    clear e_y8
    have z0:=r8.cell 0 _ rfl
    have z1:=r8.cell 1 _ rfl
    have z2:=r8.lt
    exact bodyPost_ret (v:=.agg #[.slice (some ⟨g,0,none⟩) ss.length sc,.slice (some ⟨g',0,none⟩) ws.length sc']) (by simp [results,Try.results30,go_sem,z0,z1]) rfl ⟨⟨ss,ws,g,sc,g',sc',rfl,HD3.out,ho8,hd8⟩,⟨p+1+1,by omega,by omega,hr8⟩,hg8⟩
 ·go_wp2_with fail
  refine (pick_r R a n c (p+1) 2 _ S1.rd (by omega)).mono ?_
  rintro e v6 ⟨⟨z,rfl,z0,z1⟩,hr,hg⟩
  have S2:=S1.pick hr hg
  clear S1 hr hg
  obtain ⟨N,hN⟩:∃ N:Nat,(200:Int)+z=(N:Int):=⟨(200+z).toNat,by omega⟩
  have hwN:IntKind.i64.wrap ((200:Int)+z)=(N:Int):=by rw [hN];exact wrap_i64_id _ (by omega) (by omega)
  have hN1:N<=201:=by omega
  have hwN2:IntKind.i64.wrap (N:Int)=(N:Int):=wrap_i64_id _ (by omega) (by omega)
  have hN2:200<=N:=by omega
  have q0:=S2.r5.cell 0 _ rfl
  have q1:=S2.r5.cell 1 _ rfl
  have ql:=S2.r5.lt
  go_wp2_with fail
  clear q0 q1 ql
  go_loopw [105] (fun _ wr=>SpN w wr R a n c (p+1+1) A4 B g' sc' ws N) (fun _ wr=>400-cLen (wr.cell? ⟨B,0,none⟩))
  case atStart=>exact ⟨g,sc,ss,HDK.out,by omega,S2⟩
  case round =>
   obtain ⟨g,sc,ss,hdk,hln,S3⟩:=hrel
   have HD3:=hid hdk
   clear S2 HDK hdk
   by_cases hlt:ss.length<N
   ·have hlt':(ss.length:Int)<(N:Int):=by omega
    have q0:=S3.r5.cell 0 _ rfl
    have q1:=S3.r5.cell 1 _ rfl
    have ql:=S3.r5.lt
    go_upto_region 21 with fail
    clear q0 q1 ql
    refine wp_region_T (6) (S:=fun w'=>w'.cell? ⟨B,0,none⟩=some (.slice (some ⟨g,0,none⟩) ss.length sc)) (by kernel_rfl) (S3.drew.r5.cell 0 _ rfl) (fun hHe=>?_)
    refine TYT 0 (.pointer (some ⟨B,0,none⟩)) rfl hHe ?_
    simp only [PS]
    refine TYT 1 (.slice (some ⟨g,0,none⟩) ss.length sc) rfl hHe ?_
    simp only [PS]
    refine RDT 2 rfl (fun Kq hKq=>?_)
    obtain ⟨yb,e_yb⟩:∃ y,y=wr.drew:=⟨_,rfl⟩
    rw [<-e_yb]
    have EB:SpS w yb R a n c (p+1+1) A4 B g sc ss g' sc' ws:=by rw [e_yb];exact S3.drew
    clear e_yb
    refine step_call (by rfl) 16 #[] (by go_simp) (zeros_s _) ?_
    rintro e y2 ⟨rfl,hbX⟩
    refine ⟨_,rfl,?_⟩
    have E2:=EB.below hbX
    clear hbX
    refine hKq.out _ _ (E2.r5.cell 0 _ rfl) (fun hHd1=>?_)
    try simp only [PS]
    refine RDT 3 rfl (fun Kq hKq=>?_)
    go_simp
    have E4:=E2.below (below_nw y2 (.cells #[.string zeros] 9))
    have lB:=E2.r5.lt
    refine hKq.out _ _ (E4.r5.cell 0 _ rfl) (fun hHd2=>?_)
    try simp only [PS]
    refine RDT 4 rfl (fun Kq hKq=>?_)
    refine SAL _ (by rfl) _ _ _ (by rfl) (A4+1) Try.underlying23 HJ.out rfl (by omega) (.slice (some ⟨g,0,none⟩) ss.length sc) ss.length _ (by rfl) E4.so ⟨y2.heap.size,0,none⟩ 1 1 [.string zeros] (by rfl) rfl (World.news_of_block (heap_alloc_new y2 _)) (oneStS _) (by simp;omega) (y2.heap.size+1) (by simp) ?_
    intro kk cap yA hown hgrow hat hlt9
    have hown':yA.ownsRow (A4+1) 9 1 (.slice (some ⟨kk,0,none⟩) (ss++[zeros]).length cap) (ss++[zeros]).length ((ss++[zeros]).map Value.string):=by rw [List.map_append,List.length_append];exact hown
    obtain ⟨rA,GA⟩:=E4.pushS hown' hgrow hat (by simp)
    clear hown hgrow hat hown'
    refine hKq.out _ _ (rA.cell 0 _ rfl) (fun hHd3=>?_)
    try simp only [PS]
    refine TYT 5 (.pointer (some ⟨B,0,none⟩)) rfl hHd3 ?_
    simp only [PS]
    refine wpAnyT_ready (rs:=[6]) (by kernel_rfl) (by simp) ?_
    refine AllReadyT.last rfl (fun Kq hKq=>?_)
    have l0:=rA.cell 0 _ rfl
    have l1:=rA.froz 0 (by simp)
    have l2:=rA.lt
    go_simp
    clear l0 l1 l2
    refine hKq.out _ _ trivial (fun _=>?_)
    try simp only [PS]
    refine wpAnyT_done (by kernel_rfl) ?_ _
    rw [List.length_append] at GA
    have HD8:=hid (HD3.out.pushS zeros (by omega) zeros_64)
    obtain ⟨l2,e2⟩:∃ l:List ByteArray,l=ss++[zeros]:=⟨_,rfl⟩
    have hl2:l2.length=ss.length+1:=by rw [e2,List.length_append];rfl
    rw [<-e2] at HD8 GA
    generalize e_yC:World.setCell _ _ _=yC at GA ⊢
    clear e_yC e2 rA
    have hm1:=cLen_at (S3.r5.cell 0 _ rfl)
    have hm2:=cLen_at (GA.r5.cell 0 _ rfl)
    go_wp2_with fail
    go_roundw
    case rel=>exact ⟨kk,cap,l2,HD8.out,by omega,GA⟩
    case measure=>(try rw [hm1,hm2]);omega
   ·have hlt':¬ (ss.length:Int)<(N:Int):=by omega
    have q0:=S3.r5.cell 0 _ rfl
    have q1:=S3.r5.cell 1 _ rfl
    have ql:=S3.r5.lt
    have f0:=S3.r4.cell 0 _ rfl
    have f1:=S3.r4.cell 1 _ rfl
    obtain ⟨f2,f3⟩:=S3.r4.z2
    have fl:=S3.r4.lt
    have nAB:A4≠B:=by omega
    have nBA:B≠A4:=by omega
    go_wp2
    clear q0 q1 ql f0 f1 f2 f3 fl nAB nBA
    obtain ⟨r8,hr8,hg8,ho8,hd8⟩:=S3.fin ss.length (Nat.le_refl _) (.slice (some ⟨g,0,none⟩) ss.length sc) (.slice (some ⟨g',0,none⟩) ws.length sc')
    rw [List.take_length] at hd8
    generalize e_y8:World.setCell _ _ _=y8 at r8 hr8 hg8 ho8 hd8 ⊢
    clear e_y8
    have z0:=r8.cell 0 _ rfl
    have z1:=r8.cell 1 _ rfl
    have z2:=r8.lt
    exact bodyPost_ret (v:=.agg #[.slice (some ⟨g,0,none⟩) ss.length sc,.slice (some ⟨g',0,none⟩) ws.length sc']) (by simp [results,Try.results30,go_sem,z0,z1]) rfl ⟨⟨ss,ws,g,sc,g',sc',rfl,HD3.out,ho8,hd8⟩,⟨p+1+1,by omega,by omega,hr8⟩,hg8⟩
 ·have q0:=S1.r5.cell 0 _ rfl
  have q1:=S1.r5.cell 1 _ rfl
  have ql:=S1.r5.lt
  go_upto_region 4 with fail
  clear q0 q1 ql
  refine wp_region_T (15) (S:=fun w'=>w'.cell? ⟨B,0,none⟩=some (.slice (some ⟨g,0,none⟩) ss.length sc)) (by kernel_rfl) (S1.drew.r5.cell 0 _ rfl) (fun hHe=>?_)
  refine TYT 0 (.pointer (some ⟨B,0,none⟩)) rfl hHe ?_
  simp only [PS]
  refine TYT 1 (.slice (some ⟨g,0,none⟩) ss.length sc) rfl hHe ?_
  simp only [PS]
  refine TYT 2 (.pointer (some ⟨R,0,none⟩)) rfl hHe ?_
  simp only [PS]
  refine TYT 5 (.pointer (some ⟨B,0,none⟩)) rfl hHe ?_
  simp only [PS]
  refine TYT 6 (.slice (some ⟨g,0,none⟩) ss.length sc) rfl hHe ?_
  simp only [PS]
  refine TYT 7 (.pointer (some ⟨R,0,none⟩)) rfl hHe ?_
  simp only [PS]
  refine TYT 8 (.pointer (some ⟨B,0,none⟩)) rfl hHe ?_
  simp only [PS]
  refine TYT 9 (.slice (some ⟨g,0,none⟩) ss.length sc) rfl hHe ?_
  simp only [PS]
  refine TYT 10 (.int .i64 (ss.length:Int)) rfl hHe ?_
  simp only [PS]
  refine RDT 3 rfl (fun Kq hKq=>?_)
  obtain ⟨yb,e_yb⟩:∃ y,y=v5.drew:=⟨_,rfl⟩
  rw [<-e_yb]
  have EB:SpS w yb R a n c (p+1) A4 B g sc ss g' sc' ws:=by rw [e_yb];exact S1.drew
  clear e_yb
  refine step_call (by rfl) 15 #[.pointer (some ⟨R,0,none⟩),.int .i64 2] (by go_simp) (pick_r R a n c (p+1) 2 _ EB.rd (by omega)) ?_
  rintro e y3 ⟨⟨t',rfl,t0,t1⟩,hr,hg⟩
  refine ⟨_,rfl,?_⟩
  have E3:=EB.pick hr hg
  clear hr hg
  obtain ⟨r,hr2⟩:∃ k:Nat,(2:Int)+t'=(k:Int):=⟨(2+t').toNat,by omega⟩
  have hwr:IntKind.i64.wrap ((2:Int)+t')=(r:Int):=by rw [hr2];exact wrap_i64_id _ (by omega) (by omega)
  have hwr2:IntKind.i64.wrap (r:Int)=(r:Int):=wrap_i64_id _ (by omega) (by omega)
  have hrl:r<ss.length:=by omega
  have hri:(r:Int)<(ss.length:Int):=by omega
  refine hKq.out _ _ (E3.r5.cell 0 _ rfl) (fun hHd1=>?_)
  try simp only [PS]
  refine TYT 4 (.int .i64 (r:Int)) rfl hHd1 ?_
  simp only [PS]
  refine RDT 11 rfl (fun Kq hKq=>?_)
  refine step_call (by rfl) 15 #[.pointer (some ⟨R,0,none⟩),.int .i64 (ss.length:Int)] (by go_simp) (pick_r R a n c (p+1+1) (ss.length:Int) _ E3.rd (by omega)) ?_
  rintro e y11 ⟨⟨u',rfl,u0,u1⟩,hr,hg⟩
  refine ⟨_,rfl,?_⟩
  have E11:=E3.pick hr hg
  clear hr hg
  obtain ⟨u,rfl⟩:∃ k:Nat,u'=(k:Int):=⟨u'.toNat,by omega⟩
  have ul:u<ss.length:=by omega
  have ui:(u:Int)<((ss.length:Nat):Int):=by omega
  refine hKq.out _ _ (E11.r5.cell 0 _ rfl) (fun hHd2=>?_)
  try simp only [PS]
  refine TYT 12 (.pointer (some ⟨g,u,none⟩)) rfl hHd2 ?_
  simp only [PS]
  refine RDT 13 rfl (fun Kq hKq=>?_)
  obtain ⟨su,hsu⟩:∃ s:ByteArray,y11.cell? ⟨g,u,none⟩=some (.string s)/\s∈ss:=⟨ss[u],by have:=E11.so.cellAt u (by simpa using ul);rw [this];simp,List.getElem_mem _⟩
  have lg:=E11.lg.1.2
  have cg:=hsu.1
  go_simp
  clear cg lg
  refine hKq.out _ _ hHd2 (fun _=>?_)
  try simp only [PS]
  refine TYT 14 (.pointer (some ⟨g,r,none⟩)) rfl hHd2 ?_
  simp only [PS]
  refine wpAnyT_ready (rs:=[15]) (by kernel_rfl) (by simp) ?_
  refine AllReadyT.last rfl (fun Kq hKq=>?_)
  have cg:=E11.so.cellAt r (by simpa using hrl)
  have fg:=E11.so.frozenAt r
  have lg:=E11.lg.1.2
  go_simp
  clear cg fg lg
  refine hKq.out _ _ trivial (fun _=>?_)
  try simp only [PS]
  refine wpAnyT_done (by kernel_rfl) ?_ _
  have E8:=E11.sect r hrl su
  have HD8:=hid (HDK.out.set r su (HDK.out.1.2 su hsu.2))
  obtain ⟨s8,e8⟩:∃ l,l=ss.set r su:=⟨_,rfl⟩
  rw [<-e8] at E8 HD8
  generalize e_y7:World.setCell _ _ _=y7 at E8 ⊢
  clear e_y7 e8
  have q0:=E8.r5.cell 0 _ rfl
  have q1:=E8.r5.cell 1 _ rfl
  have ql:=E8.r5.lt
  have f0:=E8.r4.cell 0 _ rfl
  have f1:=E8.r4.cell 1 _ rfl
  obtain ⟨f2,f3⟩:=E8.r4.z2
  have fl:=E8.r4.lt
  have nAB:A4≠B:=by omega
  have nBA:B≠A4:=by omega
  go_wp2
  clear q0 q1 ql f0 f1 f2 f3 fl nAB nBA
  obtain ⟨r8,hr8,hg8,ho8,hd8⟩:=E8.fin s8.length (Nat.le_refl _) (.slice (some ⟨g,0,none⟩) s8.length sc) (.slice (some ⟨g',0,none⟩) ws.length sc')
  rw [List.take_length] at hd8
  generalize e_y8:World.setCell _ _ _=y8 at r8 hr8 hg8 ho8 hd8 ⊢
  clear e_y8
  have z0:=r8.cell 0 _ rfl
  have z1:=r8.cell 1 _ rfl
  have z2:=r8.lt
  exact bodyPost_ret (v:=.agg #[.slice (some ⟨g,0,none⟩) s8.length sc,.slice (some ⟨g',0,none⟩) ws.length sc']) (by simp [results,Try.results30,go_sem,z0,z1]) rfl ⟨⟨s8,ws,g,sc,g',sc',rfl,HD8.out,ho8,hd8⟩,⟨p+1+1+1,by omega,by omega,hr8⟩,hg8⟩
end Go.Proofs.Ythdilmkbnpmdaaa
