import Derived.Test.YthdilmkbnpmdaaaPrSpB
import Derived.Test.YthdilmkbnpmdaaaPrWdW
set_option maxHeartbeats 32000000
set_option maxRecDepth 8000
set_option linter.unusedVariables false
set_option linter.unusedSimpArgs false
namespace Go.Proofs.Ythdilmkbnpmdaaa
open Go.RowKit
theorem sp_fin2 {w wx:World} {R:Nat} {a:Option Addr} {n c:Nat} {p:Int} {g g' sc':Nat} {ss:List ByteArray} {ws:List WrT} (rd:Rdr wx R a n c p) (gr:w.grownBy wx (some R)) (lR:R<w.heap.size) (ga:∀ g o,a=some ⟨g,o,none⟩->0<n->g<w.heap.size) (r2:Row wx w.heap.size [.slice none 0 0,.slice none 0 0])
  (ho:wx.ownsRow (w.heap.size+1) 46 2 (.slice (some ⟨g',0,none⟩) ws.length sc') ws.length (wcells ws)) (hd:DepF wx (fun b=>w.heap.size+1<=b/\b≠g') (fun W=>Strs W (some ⟨g,0,none⟩) ss)) (u v:Value) :
  Row ((wx.setCell ⟨w.heap.size,0,none⟩ u).setCell ⟨w.heap.size,1,none⟩ v) w.heap.size [u,v]/\Rdr ((wx.setCell ⟨w.heap.size,0,none⟩ u).setCell ⟨w.heap.size,1,none⟩ v) R a n c p/\w.grownBy ((wx.setCell ⟨w.heap.size,0,none⟩ u).setCell ⟨w.heap.size,1,none⟩ v) (some R)/\((wx.setCell ⟨w.heap.size,0,none⟩ u).setCell ⟨w.heap.size,1,none⟩ v).ownsRow w.heap.size 46 2 (.slice (some ⟨g',0,none⟩) ws.length sc') ws.length (wcells ws)/\DepF ((wx.setCell ⟨w.heap.size,0,none⟩ u).setCell ⟨w.heap.size,1,none⟩ v) (fun b=>w.heap.size<=b/\b≠g') (fun W=>Strs W (some ⟨g,0,none⟩) ss):=by
 have lg:=ho.lt g' rfl
 have G1:wx.grownBy (wx.setCell ⟨w.heap.size,0,none⟩ u) (some w.heap.size):=grown_setC wx w.heap.size 0 u
 have G2:(wx.setCell ⟨w.heap.size,0,none⟩ u).grownBy ((wx.setCell ⟨w.heap.size,0,none⟩ u).setCell ⟨w.heap.size,1,none⟩ v) (some w.heap.size):=grown_setC _ w.heap.size 1 v
 have G:=grown_trans G1 G2
 have hb:Below w.heap.size wx ((wx.setCell ⟨w.heap.size,0,none⟩ u).setCell ⟨w.heap.size,1,none⟩ v):=grown_below G gr.size (fun x e=>by have e:=Option.some.inj e;omega)
 obtain ⟨q1,q2⟩:=sp_rd rd gr lR ga hb
 exact ⟨(r2.set 0 (by simp) u).set 1 (by simp) v,q1,q2,(ho.kept G (.inr (fun e=>by have e:=Option.some.inj e;(try dsimp only at e);omega))).mono (by omega),(hd.grown G (fun x e q=>by have e:=Option.some.inj e;omega)).mono (fun b _ q=>by omega)⟩
theorem dany_r (R:Nat) (a:Option Addr) (n c:Nat) (p:Int) (w:World) (h:Rdr w R a n c p) (hp:p<99940000):Calls Try.prog 13 #[.pointer (some ⟨R,0,none⟩)] w fun r w'=>SpPost w w' r/\RdTo w R a n c p 21020 w':=by
 have p0:=h.p0
 have lR:=h.lts.1
 have ga:=h.lts.2
 go_enter Try.func13,Try.ntmps13
 go_wp2_with fail
 generalize e_v1:w.alloc _=v1
 obtain ⟨hb,z_v1,b2⟩:=bx1 e_v1
 clear e_v1
 refine (reached_r R a n c p _ (h.below hb) (by omega)).mono ?_
 rintro e v2 ⟨⟨x,q,N,g,g',rfl,hG,hN,hW,FX,hqa,hqa',ho1,ho2,hgg⟩,⟨pp,q0,q1,hr⟩,hg⟩
 have gr2:=grown_trans (grown_of_below (some R) hb) hg
 replace b2:=b2.now.grown hg (fun e=>by injection e with e;omega)
 rw [z_v1] at ho1 ho2
 have HG:=hid hG
 clear hG hW FX hb h hg z_v1
 obtain ⟨qa,qc,qa',qc',qs,qcs,qp,qcp,qt,qct⟩:=q
 simp only at hqa hqa' ho1 ho2
 subst hqa hqa'
 have lg:=ho1.lt g rfl
 have lg':=ho2.lt g' rfl
 unfold worldW
 go_upto_region 2 with fail
 generalize e_v3:v2.alloc _=v3
 obtain ⟨hb,z_v3,b3⟩:=bx1 e_v3
 clear e_v3
 obtain ⟨B,e_B⟩:∃ B,B=v2.heap.size:=⟨_,rfl⟩
 rw [<-e_B] at b3 ⊢
 have lB:w.heap.size<B:=by omega
 replace hr:=hr.below hb
 replace gr2:=grown_trans gr2 (grown_of_below (some R) hb)
 replace b2:=b2.below hb
 replace ho1:=owns_below ho1 hb
 replace ho2:=owns_below ho2 hb
 clear hb z_v3 e_B
 generalize Value.agg _=A0
 go_wp2_with fail
 refine (pick_r R a n c pp 8 _ hr (by omega)).mono ?_
 rintro e v4 ⟨⟨t,rfl,t0,t1⟩,hr4,hg4⟩
 replace gr2:=grown_trans gr2 hg4
 replace b2:=b2.grown hg4 (fun e=>by injection e with e;omega)
 have b3':=b3.now.grown hg4 (fun e=>by injection e with e;omega)
 replace ho1:=ho1.kept hg4 (.inr (fun e=>by have e:=Option.some.inj e;(try dsimp only at e);omega))
 replace ho2:=ho2.kept hg4 (.inr (fun e=>by have e:=Option.some.inj e;(try dsimp only at e);omega))
 have c1:=b3'.cell 1 _ rfl
 have c2:=b3'.cell 2 _ rfl
 have cl:=b3'.lt
 have f0:=b2.cell 0 _ rfl
 have f1:=b2.cell 1 _ rfl
 obtain ⟨f2,f3⟩:=b2.z2
 have fl:=b2.lt
 have nB:¬ w.heap.size=B:=by omega
 have nB':¬ B=w.heap.size:=by omega
 clear hr hg4 b3
 by_cases e0:t=0
 ·subst e0
  have h1:=(strs_own ho1 x.ss.length (Nat.le_refl _)).now
  rw [List.take_length] at h1
  have h2:Wrs v4 (some ⟨g',0,none⟩) x.ws:=OwnS.wrs (.inr ⟨g',rfl,owns_row ho2⟩)
  have CS:=hid (dspoil_r R a n c (pp+1) (some ⟨g,0,none⟩) x.ss qc (some ⟨g',0,none⟩) x.ws qc' v4 hr4 (by omega) h1 h2 (dkLe_good HG.out.d) (by rw [HG.out.n];omega) (diskOk_of HG.out.d).1.2.2)
  unfold diskV at CS
  clear h1 h2 f0 f1 f2 f3 fl
  go_wp2_with fail
  refine CS.out.mono ?_
  rintro e v5 ⟨⟨ss,ws,k,sc,k',sc',rfl,dk,ho,hd⟩,⟨p5,p50,p51,hr5⟩,hg5⟩
  have l4:w.heap.size+1<=v4.heap.size:=by omega
  replace b2:=b2.grown hg5 (fun e=>by injection e with e;omega)
  replace gr2:=grown_trans gr2 hg5
  have f0:=b2.cell 0 _ rfl
  have f1:=b2.cell 1 _ rfl
  obtain ⟨f2,f3⟩:=b2.z2
  have fl:=b2.lt
  have HF:=hid (sp_fin2 hr5 gr2 lR ga b2 (ho.mono l4) (hd.mono (fun b _ q=>by omega)) (.slice (some ⟨k,0,none⟩) ss.length sc) (.slice (some ⟨k',0,none⟩) ws.length sc'))
  have HDK:=hid dk
  clear CS c1 c2 cl b3' ho hd hr5 hg5 dk b2 gr2 ho1 ho2 hr4
  unfold diskV
  go_wp2
  obtain ⟨r8,hr8,hg8,ho8,hd8⟩:=HF.out
  clear HF f0 f1 f2 f3 fl
  generalize e_y8:World.setCell _ _ _=y8 at r8 hr8 hg8 ho8 hd8 ⊢
  clear e_y8
  have z0:=r8.cell 0 _ rfl
  have z1:=r8.cell 1 _ rfl
  exact bodyPost_ret (v:=.agg #[.slice (some ⟨k,0,none⟩) ss.length sc,.slice (some ⟨k',0,none⟩) ws.length sc']) (by simp [results,Try.results13,go_sem,z0,z1]) rfl ⟨⟨ss,ws,k,sc,k',sc',rfl,HDK.out,ho8,hd8⟩,⟨p5,by omega,by omega,hr8⟩,hg8⟩
 ·have hd:=(strs_own ho1 x.ss.length (Nat.le_refl _)).mono (G:=fun b=>w.heap.size+1<=b/\b≠g') (fun b _ q=>by omega)
  rw [List.take_length] at hd
  have HF:=hid (sp_fin2 hr4 gr2 lR ga b2 ho2 hd (.slice (some ⟨g,0,none⟩) x.ss.length qc) (.slice (some ⟨g',0,none⟩) x.ws.length qc'))
  clear hd b3' ho1 ho2 hr4 b2 gr2
  go_wp2
  obtain ⟨r8,hr8,hg8,ho8,hd8⟩:=HF.out
  clear HF f0 f1 f2 f3 fl c1 c2 cl
  generalize e_y8:World.setCell _ _ _=y8 at r8 hr8 hg8 ho8 hd8 ⊢
  clear e_y8
  have z0:=r8.cell 0 _ rfl
  have z1:=r8.cell 1 _ rfl
  exact bodyPost_ret (v:=.agg #[.slice (some ⟨g,0,none⟩) x.ss.length qc,.slice (some ⟨g',0,none⟩) x.ws.length qc']) (by simp [results,Try.results13,go_sem,z0,z1]) rfl ⟨⟨x.ss,x.ws,g,qc,g',qc',rfl,dkLe_good HG.out.d,ho8,hd8⟩,⟨pp+1,by omega,by omega,hr8⟩,hg8⟩
section
theorem open_rD (a:Option Addr) (n c:Nat) (w:World) (h:Bys w a n) (hn:n<=1048576) (hc:n<=c):Calls Try.prog 12 #[.slice a n c] w fun e w'=>e=.returned (.pointer (some ⟨w.heap.size,0,none⟩))/\(∃ m c',m<=n/\Rdr w' w.heap.size a m c' 0)/\Below w.heap.size w w':=by
 by_cases h2:n<=2000
 ·have h2':(n:Int)<=2000:=by omega
  go_enter Try.func12,Try.ntmps12
  go_wp2
  go_ret
  exact ⟨rfl,⟨n,c,Nat.le_refl _,h.rdr (Nat.le_refl _) h2 c _⟩,(Below.refl _ _).alloc (Nat.le_refl _) _⟩
 ·have h2':2000<(n:Int):=by omega
  have hc2:(2000:Int)<=(c:Int):=by omega
  have HR:=hid (h.rdr (m:=2000) (by omega) (Nat.le_refl _) c 72)
  obtain ⟨g,o,ha,hx⟩:=h
  obtain rfl:a=some ⟨g,o,none⟩:=ha.resolve_left (by omega)
  go_enter Try.func12,Try.ntmps12
  go_wp2
  go_ret
  refine ⟨rfl,?_,(Below.refl _ _).alloc (Nat.le_refl _) _⟩
  first | exact ⟨2000,c,by omega,HR.out⟩ | exact ⟨2000,by omega,c,HR.out⟩
structure DpS (w wx:World) (R:Nat) (a:Option Addr) (n c:Nat) (p:Int) (B g sc:Nat) (ss:List ByteArray) (g' sc':Nat) (ws:List WrT) (gp cap:Nat) (ops:List OpT):Prop where
 rd:Rdr wx R a n c p
 bl:Below w.heap.size w wx
 hR:w.heap.size<R
 ga:∀ g o,a=some ⟨g,o,none⟩->0<n->g<R+1
 r2:Row wx w.heap.size [.slice none 0 0,.slice none 0 0]
 r6:Row wx B [.slice (some ⟨g,0,none⟩) ss.length sc,.slice (some ⟨g',0,none⟩) ws.length sc']
 hB:R<B
 dp:DepF wx (fun b=>R<b/\b≠B/\b≠g') (fun W=>Strs W (some ⟨g,0,none⟩) ss)
 wo:wx.ownsRow (R+1) 46 2 (.slice (some ⟨g',0,none⟩) ws.length sc') ws.length (wcells ws)
 op:wx.ownsRow (R+1) 34 3 (.slice (some ⟨gp,0,none⟩) ops.length cap) ops.length (opcells ops)
 n2:g'≠B
 n3:gp≠g'
 n4:gp≠B
section
variable {w wx wy:World} {R:Nat} {a:Option Addr} {n c:Nat} {p p':Int} {B g sc:Nat} {ss:List ByteArray} {g' sc':Nat} {ws:List WrT} {gp cap:Nat} {ops:List OpT}
theorem DpS.lg (h:DpS w wx R a n c (p) B g sc ss g' sc' ws gp cap ops):(R+1<=g'/\g'<wx.heap.size)/\(R+1<=gp/\gp<wx.heap.size):=⟨h.wo.lt g' rfl,h.op.lt gp rfl⟩
theorem DpS.below (h:DpS w wx R a n c (p) B g sc ss g' sc' ws gp cap ops) (hb:Below wx.heap.size wx wy):DpS w wy R a n c (p) B g sc ss g' sc' ws gp cap ops :=
 ⟨h.rd.below hb,h.bl.trans (hb.mono h.bl.size),h.hR,h.ga,h.r2.below hb,h.r6.below hb,h.hB,h.dp.below hb,owns_below h.wo hb,owns_below h.op hb,h.n2,h.n3,h.n4⟩
theorem DpS.drew (h:DpS w wx R a n c (p) B g sc ss g' sc' ws gp cap ops):DpS w wx.drew R a n c (p) B g sc ss g' sc' ws gp cap ops:=h.below (Below.refl _ _).drew
theorem DpS.pick (h:DpS w wx R a n c (p) B g sc ss g' sc' ws gp cap ops) (hr:Rdr wy R a n c p') (hg:wx.grownBy wy (some R)):DpS w wy R a n c p' B g sc ss g' sc' ws gp cap ops:=by
 have h1:=h.hR
 have h2:=h.hB
 have h3:=h.lg
 exact ⟨hr,h.bl.trans (grown_below hg h.bl.size (fun x e=>by have e:=Option.some.inj e;omega)),h.hR,h.ga,h.r2.grown hg (fun e=>by injection e with e;omega),h.r6.grown hg (fun e=>by injection e with e;omega),h.hB,h.dp.grown hg (fun x e q=>by have e:=Option.some.inj e;omega),h.wo.kept hg (.inr (fun e=>by have e:=Option.some.inj e;(try dsimp only at e);omega)),h.op.kept hg (.inr (fun e=>by have e:=Option.some.inj e;(try dsimp only at e);omega)),h.n2,h.n3,h.n4⟩
theorem DpS.pushW (h:DpS w wx R a n c (p) B g sc ss g' sc' ws gp cap ops) {k cap2 H:Nat} {ws':List WrT} (hown:wy.ownsRow (R+1) 46 2 (.slice (some ⟨k,0,none⟩) ws'.length cap2) ws'.length (wcells ws')) (hg:wx.grownBy wy (some g')) (hat:(some g':Option Nat)=some k\/k=H) (hH:wx.heap.size<=H) :
  Row wy B [.slice (some ⟨g,0,none⟩) ss.length sc,.slice (some ⟨g',0,none⟩) ws.length sc']/\DpS w (wy.setCell ⟨B,1,none⟩ (.slice (some ⟨k,0,none⟩) ws'.length cap2)) R a n c p B g sc ss k cap2 ws' gp cap ops:=by
 have h1:=h.hR
 have h2:=h.hB
 have h3:=h.lg
 have h5:=h.r6.lt
 have hn2:=h.n2
 have hn3:=h.n3
 have hn4:=h.n4
 have kB:k≠B:=fun e=>by rcases hat with q | q;(have q:=Option.some.inj q;omega);omega
 have kp:gp≠k:=fun e=>by rcases hat with q | q;(have q:=Option.some.inj q;omega);omega
 have hk:g'=k\/wx.heap.size<=k:=by rcases hat with q | q;(exact .inl (Option.some.inj q));(right;omega)
 have r6:Row wy B _:=h.r6.grown hg (fun e=>by injection e with e;omega)
 refine ⟨r6,?_⟩
 have G:wy.grownBy (wy.setCell ⟨B,1,none⟩ (.slice (some ⟨k,0,none⟩) ws'.length cap2)) (some B):=grown_setC wy B 1 _
 have hb1:Below (R+1) wx wy:=grown_below hg (by omega) (fun x e=>by have e:=Option.some.inj e;omega)
 have hb2:Below (R+1) wy (wy.setCell ⟨B,1,none⟩ (.slice (some ⟨k,0,none⟩) ws'.length cap2)):=grown_below G (by have:=hb1.size;omega) (fun x e=>by have e:=Option.some.inj e;omega)
 have hb:=hb1.trans hb2
 have dp:=(h.dp.grown hg (fun x e q=>by have e:=Option.some.inj e;omega)).grown G (fun x e q=>by have e:=Option.some.inj e;omega)
 have dp2:DepF (wy.setCell ⟨B,1,none⟩ (.slice (some ⟨k,0,none⟩) ws'.length cap2)) (fun b=>R<b/\b≠B/\b≠k) (fun W=>Strs W (some ⟨g,0,none⟩) ss):=by
  rcases hk with q | q
  ·subst q;exact dp
  ·exact ((h.dp.mono (G:=fun b=>R<b/\b≠B/\b≠g'/\b<wx.heap.size) (fun b hl q=>by omega)).grown hg (fun x e q=>by have e:=Option.some.inj e;omega)).grown G (fun x e q=>by have e:=Option.some.inj e;omega) |>.mono (fun b _ q=>by omega)
 exact ⟨h.rd.keep (N:=R+1) (by omega) h.ga hb,h.bl.trans ((hb.mono (by omega)):Below w.heap.size wx _),h.hR,h.ga,(h.r2.grown hg (fun e=>by injection e with e;omega)).grown G (fun e=>by injection e with e;omega),r6.set 1 (by simp) _,h.hB,dp2,hown.kept G (.inr (fun e=>by have e:=Option.some.inj e;(try dsimp only at e);omega)),(h.op.kept hg (.inr (fun e=>by have e:=Option.some.inj e;(try dsimp only at e);omega))).kept G (.inr (fun e=>by have e:=Option.some.inj e;(try dsimp only at e);omega)),kB,kp,h.n4⟩
end
def DpPost (w':World) (r:Ending):Prop:=∃ (ss:List ByteArray) (ws:List WrT) (g sc g' sc':Nat) (ops:List OpT) (gp cap:Nat) (z:Int),r=.returned (.tuple #[diskV (some ⟨g,0,none⟩) ss.length sc (some ⟨g',0,none⟩) ws.length sc',.slice (some ⟨gp,0,none⟩) ops.length cap,.int .i64 z])/\DkLe ss ws/\Strs w' (some ⟨g,0,none⟩) ss/\Wrs w' (some ⟨g',0,none⟩) ws/\Ops w' (some ⟨gp,0,none⟩) ops/\ops.length<=8/\ops.length<=cap/\opsLe ops/\(-1<=z/\z<=20)
def DpL (w:World) (R:Nat) (a:Option Addr) (n c:Nat) (p:Int) (B g sc:Nat) (ss:List ByteArray) (gp cap:Nat) (ops:List OpT) (N:Nat) (wr:World):Prop:=∃ (g' sc':Nat) (ws:List WrT),DkLe ss ws/\(ws.length<=301)/\DpS w wr R a n c p B g sc ss g' sc' ws gp cap ops
theorem DpS.fin {w wx:World} {R:Nat} {a:Option Addr} {n c:Nat} {p:Int} {B g sc:Nat} {ss:List ByteArray} {g' sc':Nat} {ws:List WrT} {gp cap:Nat} {ops:List OpT} (h:DpS w wx R a n c (p) B g sc ss g' sc' ws gp cap ops) (u v:Value):Row ((wx.setCell ⟨w.heap.size,0,none⟩ u).setCell ⟨w.heap.size,1,none⟩ v) w.heap.size [u,v]/\Row ((wx.setCell ⟨w.heap.size,0,none⟩ u).setCell ⟨w.heap.size,1,none⟩ v) B [.slice (some ⟨g,0,none⟩) ss.length sc,.slice (some ⟨g',0,none⟩) ws.length sc']/\Strs ((wx.setCell ⟨w.heap.size,0,none⟩ u).setCell ⟨w.heap.size,1,none⟩ v) (some ⟨g,0,none⟩) ss/\Wrs ((wx.setCell ⟨w.heap.size,0,none⟩ u).setCell ⟨w.heap.size,1,none⟩ v) (some ⟨g',0,none⟩) ws/\Ops ((wx.setCell ⟨w.heap.size,0,none⟩ u).setCell ⟨w.heap.size,1,none⟩ v) (some ⟨gp,0,none⟩) ops/\Below w.heap.size w ((wx.setCell ⟨w.heap.size,0,none⟩ u).setCell ⟨w.heap.size,1,none⟩ v):=by
 have h1:=h.hR
 have h2:=h.hB
 have h3:=h.lg
 have G1:wx.grownBy (wx.setCell ⟨w.heap.size,0,none⟩ u) (some w.heap.size):=grown_setC wx w.heap.size 0 u
 have G2:(wx.setCell ⟨w.heap.size,0,none⟩ u).grownBy ((wx.setCell ⟨w.heap.size,0,none⟩ u).setCell ⟨w.heap.size,1,none⟩ v) (some w.heap.size):=grown_setC _ w.heap.size 1 v
 have G:=grown_trans G1 G2
 have wo:=h.wo.kept G (.inr (fun e=>by have e:=Option.some.inj e;(try dsimp only at e);omega))
 have op:=h.op.kept G (.inr (fun e=>by have e:=Option.some.inj e;(try dsimp only at e);omega))
 exact ⟨(h.r2.set 0 (by simp) u).set 1 (by simp) v,h.r6.grown G (fun e=>by injection e with e;omega),(h.dp.grown G (fun x e q=>by have e:=Option.some.inj e;omega)).now,OwnS.wrs (.inr ⟨g',rfl,owns_row wo⟩),(owns_row op).ops,h.bl.trans (grown_below G h.bl.size (fun x e=>by have e:=Option.some.inj e;omega))⟩
theorem dperf_r (a:Option Addr) (n c:Nat) (w:World) (h:Bys w a n) (hn:n<=1048576) (hc:n<=c) :
  Calls Try.prog 4 #[.slice a n c] w fun e w'=>DpPost w' e/\Below w.heap.size w w':=by
 obtain ⟨i0,hi0,hz0,hz1,hz2⟩:=info_partsB info_wrS
 have HI:=hid (And.intro hi0 (And.intro hz0 (And.intro hz1 hz2)))
 clear hi0 hz0 hz1 hz2
 go_enter Try.func4,Try.ntmps4
 go_wp2_with fail
 generalize e_v1:w.alloc _=v1
 obtain ⟨hb,z_v1,b2⟩:=bx1 e_v1
 clear e_v1
 have hE:Below w.heap.size w v1:=hb
 refine (open_rD a n c _ (h.below hb) hn hc).mono ?_
 rintro e v2 ⟨rfl,⟨n',c',hnn,hr1⟩,hb1⟩
 have ga:∀ g o,a=some ⟨g,o,none⟩->0<n'->g<w.heap.size:=by
  intro g o ha h0
  obtain ⟨g1,o1,h1,h2⟩:=h
  rw [ha] at h1
  have h1:=h1.resolve_left (by omega)
  cases h1
  exact (h2 0 (by omega)).1
 obtain ⟨R,e_R⟩:∃ R,R=v1.heap.size:=⟨_,rfl⟩
 rw [<-e_R] at hr1 ⊢
 have hR:w.heap.size<R:=by omega
 replace hE:=hE.trans (hb1.mono hE.size)
 replace b2:=(b2.below hb1).now
 have lR:=lt_of_cell hr1.pc
 try dsimp only at lR
 clear hb hb1 h z_v1 e_R
 go_wp2_with fail
 refine (dany_r R a n' c' 0 _ hr1 (by omega)).mono ?_
 rintro e v3 ⟨⟨ss,ws,g,sc,g',sc',rfl,dk,wo,dp⟩,⟨p1,p10,p11,hr⟩,hg⟩
 have s3:=hg.size
 replace hE:=hE.trans (grown_below hg hE.size (fun x e=>by have e:=Option.some.inj e;omega))
 replace b2:=b2.grown hg (fun e=>by injection e with e;omega)
 have lw:=wo.lt g' rfl
 have HDK:=hid dk
 clear hg hr1 dk
 unfold diskV
 go_upto_region 3 with fail
 generalize e_v4:v3.alloc _=v4
 obtain ⟨hb,z_v4,b6⟩:=bx1 e_v4
 clear e_v4
 obtain ⟨B,e_B⟩:∃ B,B=v3.heap.size:=⟨_,rfl⟩
 rw [<-e_B] at b6 ⊢
 replace dp:=(dp.mono (G:=fun b=>R<b/\b≠B/\b≠g') (fun b hl q=>by omega)).below hb
 replace wo:=(owns_below wo hb).mono (base':=R+1) (by omega)
 replace hE:=hE.trans (hb.mono hE.size)
 replace b2:=b2.below hb
 replace hr:=hr.below hb
 have b6':=b6.now
 have hRB:R<B:=by omega
 have l4:B<v4.heap.size:=by omega
 have ng:g'≠B:=by omega
 clear hb z_v4 e_B b6 s3 lw
 have k0:=b6'.cell 0 _ rfl
 have k1:=b6'.cell 1 _ rfl
 have kl:=b6'.lt
 generalize Value.agg _=A0
 go_wp2_with fail
 refine (ops_r R a n' c' p1 (some ⟨g,0,none⟩) ss.length sc (.slice (some ⟨g',0,none⟩) ws.length sc') _ hr (by omega) (by have:=HDK.out.1.1;omega)).mono ?_
 rintro e v5 ⟨⟨ops,gp,cap,rfl,hol,hle,op⟩,⟨p2,p20,p21,hr5⟩,hg⟩
 have lo:=op.lt gp rfl
 have lw:=wo.lt g' rfl
 have S0:DpS w v5 R a n' c' p2 B g sc ss g' sc' ws gp cap ops:=⟨hr5,hE.trans (grown_below hg hE.size (fun x e=>by have e:=Option.some.inj e;omega)),hR,fun g o h1 h2=>by have:=ga g o h1 h2;omega,b2.grown hg (fun e=>by injection e with e;omega),b6'.grown hg (fun e=>by injection e with e;omega),hRB,dp.grown hg (fun x e q=>by have e:=Option.some.inj e;omega),wo.kept hg (.inr (fun e=>by have e:=Option.some.inj e;(try dsimp only at e);omega)),op.mono (by omega),ng,by omega,by omega⟩
 have HLE:=hid hle
 clear hr hr5 hg hE b2 b6' dp wo op k0 k1 kl lo lw l4 ga hle
 go_wp2_with fail
 refine (pick_r R a n' c' p2 12 _ S0.rd (by omega)).mono ?_
 rintro e v6 ⟨⟨t,rfl,t0,t1⟩,hr,hg⟩
 have S1:=S0.pick hr hg
 clear S0 hr hg
 have k0:=S1.r6.cell 0 _ rfl
 have k1:=S1.r6.cell 1 _ rfl
 have kl:=S1.r6.lt
 have hcap:=owns_cap S1.op
 have hw3:IntKind.i64.wrap ((ops.length:Int)+3)=(ops.length:Int)+3:=wrap_i64_id _ (by omega) (by omega)
 by_cases ht:t=0
 ·subst ht
  have CV:=hid (fun w' (q1:Strs w' (some ⟨g,0,none⟩) ss) (q2:Wrs w' (some ⟨g',0,none⟩) ws)=>valid_s (some ⟨g,0,none⟩) ss sc (some ⟨g',0,none⟩) ws sc' w' q1 q2 (by have:=HDK.out.1.1;omega) (by have:=HDK.out.2.1;omega) (fun s hs=>by have:=HDK.out.1.2 s hs;omega) (fun x hx=>by have:=HDK.out.2.2 x hx;omega))
  unfold diskV at CV
  go_wp2_with fail
  refine (CV.out _ S1.dp.now (OwnS.wrs (.inr ⟨g',rfl,owns_row S1.wo⟩))).mono ?_
  rintro e v7 ⟨rfl,hb⟩
  have S2:=S1.below hb
  clear S1 hb k0 k1 kl CV
  cases hok:diskOk ss ws with
  | false =>
   go_upto_region 8 with fail
   refine wp_region_T (10) (S:=fun w'=>w'.cell? ⟨B,0,none⟩=some (.slice (some ⟨g,0,none⟩) ss.length sc)/\w'.cell? ⟨B,1,none⟩=some (.slice (some ⟨g',0,none⟩) ws.length sc')) (by kernel_rfl) (⟨S2.drew.r6.cell 0 _ rfl,S2.drew.r6.cell 1 _ rfl⟩) (fun hHe=>?_)
   refine TYT 0 (.agg #[.slice (some ⟨g,0,none⟩) ss.length sc,.slice (some ⟨g',0,none⟩) ws.length sc']) rfl hHe ?_
   simp only [PS]
   refine TYT 1 (.slice (some ⟨gp,0,none⟩) ops.length cap) rfl hHe ?_
   simp only [PS]
   refine TYT 2 (.pointer (some ⟨R,0,none⟩)) rfl hHe ?_
   simp only [PS]
   refine TYT 3 (.slice (some ⟨gp,0,none⟩) ops.length cap) rfl hHe ?_
   simp only [PS]
   refine TYT 4 (.int .i64 (ops.length:Int)) rfl hHe ?_
   simp only [PS]
   refine TYT 5 (.int .i64 ((ops.length:Int)+3)) rfl hHe ?_
   simp only [PS]
   refine RDT 6 rfl (fun Kq hKq=>?_)
   obtain ⟨yb,e_yb⟩:∃ y,y=v7.drew:=⟨_,rfl⟩
   rw [<-e_yb]
   have EB:DpS w yb R a n' c' (p2+1) B g sc ss g' sc' ws gp cap ops:=by rw [e_yb];exact S2.drew
   clear e_yb
   refine step_call (by rfl) 15 #[.pointer (some ⟨R,0,none⟩),.int .i64 ((ops.length:Int)+3)] (by go_simp) (pick_r R a n' c' (p2+1) ((ops.length:Int)+3) _ EB.rd (by omega)) ?_
   rintro e y6 ⟨⟨u,rfl,u0,u1⟩,hr,hg⟩
   refine ⟨_,rfl,?_⟩
   have E6:=EB.pick hr hg
   clear hr hg
   have hwu:IntKind.i64.wrap (u-1)=u-1:=wrap_i64_id _ (by omega) (by omega)
   refine hKq.out _ _ (⟨E6.r6.cell 0 _ rfl,E6.r6.cell 1 _ rfl⟩) (fun hHd1=>?_)
   try simp only [PS]
   refine TYT 7 (.int .i64 (u-1)) rfl hHd1 ?_
   simp only [PS]
   refine RDT 8 rfl (fun Kq hKq=>?_)
   have f0:=E6.r2.cell 0 _ rfl
   have f1:=E6.r2.cell 1 _ rfl
   obtain ⟨f2,f3⟩:=E6.r2.z2
   have fl:=E6.r2.lt
   have HF:=hid (E6.fin (.slice (some ⟨g,0,none⟩) ss.length sc) (.slice (some ⟨g',0,none⟩) ws.length sc'))
   go_simp
   clear f0 f1 f2 f3 fl
   refine hKq.out _ _ (⟨HF.out.2.1.cell 0 _ rfl,HF.out.2.1.cell 1 _ rfl⟩) (fun hHd2=>?_)
   try simp only [PS]
   refine RDT 9 rfl (fun Kq hKq=>?_)
   go_simp
   refine hKq.out _ _ hHd2 (fun _=>?_)
   try simp only [PS]
   refine wpAnyT_ready (rs:=[10]) (by kernel_rfl) (by simp) ?_
   refine AllReadyT.last rfl (fun Kq hKq=>?_)
   go_simp
   refine hKq.out _ _ trivial (fun _=>?_)
   try simp only [PS]
   refine wpAnyT_done (by kernel_rfl) ?_ _
   obtain ⟨r8,_,h1,h2,h3,hb8⟩:=HF.out
   clear HF
   generalize e_y8:World.setCell _ _ _=y8 at r8 h1 h2 h3 hb8 ⊢
   clear e_y8
   have z0:=r8.cell 0 _ rfl
   have z1:=r8.cell 1 _ rfl
   try go_wp2
   exact bodyPost_ret (v:=.tuple #[.agg #[.slice (some ⟨g,0,none⟩) ss.length sc,.slice (some ⟨g',0,none⟩) ws.length sc'],.slice (some ⟨gp,0,none⟩) ops.length cap,.int .i64 (u-1)]) (by simp [results,Try.results4,go_sem,z0,z1]) rfl ⟨⟨ss,ws,g,sc,g',sc',ops,gp,cap,u-1,rfl,HDK.out,h1,h2,h3,hol,hcap,HLE.out,by omega,by omega⟩,hb8⟩
  | true =>
   have hw300:=(diskOk_of hok).1.2.2
   have HOK:=hid hok
   clear hok
   go_wp2_with fail
   refine (pick_r R a n' c' (p2+1) 2 _ S2.rd (by omega)).mono ?_
   rintro e v8 ⟨⟨z,rfl,z0,z1⟩,hr,hg⟩
   have S3:=S2.pick hr hg
   clear S2 hr hg
   obtain ⟨N,hN⟩:∃ N:Nat,(300:Int)-z=(N:Int):=⟨(300-z).toNat,by omega⟩
   have hwN:IntKind.i64.wrap ((300:Int)-z)=(N:Int):=by rw [hN];exact wrap_i64_id _ (by omega) (by omega)
   have hwN2:IntKind.i64.wrap (N:Int)=(N:Int):=wrap_i64_id _ (by omega) (by omega)
   have hN1:N<=300:=by omega
   go_wp2_with fail
   go_loopw [27] (fun _ wr=>DpL w R a n' c' (p2+1+1) B g sc ss gp cap ops N wr) (fun _ wr=>400-cLen (wr.cell? ⟨B,1,none⟩))
   case atStart=>exact ⟨g',sc',ws,HDK.out,by omega,S3⟩
   case round =>
    obtain ⟨g',sc',ws,hdk,hln,S4⟩:=hrel
    have HD3:=hid hdk
    clear S3 HDK hdk HOK
    have k0:=S4.r6.cell 0 _ rfl
    have k1:=S4.r6.cell 1 _ rfl
    have kl:=S4.r6.lt
    by_cases hlt:ws.length<N
    ·have hlt':(ws.length:Int)<(N:Int):=by omega
     go_upto_region 7 with fail
     clear k0 k1 kl
     refine wp_region_T (7) (S:=fun w'=>w'.cell? ⟨B,1,none⟩=some (.slice (some ⟨g',0,none⟩) ws.length sc')) (by kernel_rfl) (S4.drew.r6.cell 1 _ rfl) (fun hHe=>?_)
     refine TYT 0 (.pointer (some ⟨B,1,none⟩)) rfl hHe ?_
     simp only [PS]
     refine TYT 1 (.slice (some ⟨g',0,none⟩) ws.length sc') rfl hHe ?_
     simp only [PS]
     refine RDT 2 rfl (fun Kq hKq=>?_)
     obtain ⟨yb,e_yb⟩:∃ y,y=wr.drew:=⟨_,rfl⟩
     rw [<-e_yb]
     have EB:DpS w yb R a n' c' (p2+1+1) B g sc ss g' sc' ws gp cap ops:=by rw [e_yb];exact S4.drew
     clear e_yb
     refine step_call (by rfl) 16 #[] (by go_simp) (zeros_s _) ?_
     rintro e y2 ⟨rfl,hbX⟩
     refine ⟨_,rfl,?_⟩
     have E2:=EB.below hbX
     clear hbX
     refine hKq.out _ _ (E2.r6.cell 1 _ rfl) (fun hHd1=>?_)
     try simp only [PS]
     refine TYT 3 (.agg #[.int .i64 3,.string zeros]) rfl hHd1 ?_
     simp only [PS]
     refine RDT 4 rfl (fun Kq hKq=>?_)
     go_simp
     have E4:=E2.below (below_nw y2 (.cells #[.int .i64 3,.string zeros] 46))
     have lB:=E2.r6.lt
     refine hKq.out _ _ (E4.r6.cell 1 _ rfl) (fun hHd2=>?_)
     try simp only [PS]
     refine RDT 5 rfl (fun Kq hKq=>?_)
     refine SAL _ (by rfl) _ _ _ (by rfl) (R+1) Try.underlying24 HI.out rfl (by omega) (.slice (some ⟨g',0,none⟩) ws.length sc') ws.length _ (by rfl) E4.wo ⟨y2.heap.size,0,none⟩ 1 1 [.int .i64 3,.string zeros] (by rfl) rfl (World.news_of_block (heap_alloc_new y2 _)) (oneWrS _ _) (by simp;omega) (y2.heap.size+1) (by simp) ?_
     intro kk cap2 yA hown hgrow hat hlt9
     have hown':yA.ownsRow (R+1) 46 2 (.slice (some ⟨kk,0,none⟩) (ws++[(3,zeros)]).length cap2) (ws++[(3,zeros)]).length (wcells (ws++[(3,zeros)])):=by rw [wcells_append,List.length_append];exact hown
     obtain ⟨rA,GA⟩:=E4.pushW hown' hgrow hat (by simp)
     clear hown hgrow hat hown'
     refine hKq.out _ _ (rA.cell 1 _ rfl) (fun hHd3=>?_)
     try simp only [PS]
     refine TYT 6 (.pointer (some ⟨B,1,none⟩)) rfl hHd3 ?_
     simp only [PS]
     refine wpAnyT_ready (rs:=[7]) (by kernel_rfl) (by simp) ?_
     refine AllReadyT.last rfl (fun Kq hKq=>?_)
     have l0:=rA.cell 1 _ rfl
     have l1:=rA.froz 1 (by simp)
     have l2:=rA.lt
     go_simp
     clear l0 l1 l2
     refine hKq.out _ _ trivial (fun _=>?_)
     try simp only [PS]
     refine wpAnyT_done (by kernel_rfl) ?_ _
     rw [List.length_append] at GA
     have HD8:=hid (HD3.out.pushW (3,zeros) (by omega) zeros_64)
     obtain ⟨l2,e2⟩:∃ l:List WrT,l=ws++[(3,zeros)]:=⟨_,rfl⟩
     have hl2:l2.length=ws.length+1:=by rw [e2,List.length_append];rfl
     rw [<-e2] at HD8 GA
     generalize e_yC:World.setCell _ _ _=yC at GA ⊢
     clear e_yC e2 rA
     have hm1:=cLen_at (S4.r6.cell 1 _ rfl)
     have hm2:=cLen_at (GA.r6.cell 1 _ rfl)
     go_wp2_with fail
     go_roundw
     case rel=>exact ⟨kk,cap2,l2,HD8.out,by omega,GA⟩
     case measure=>(try rw [hm1,hm2]);omega
    ·have hlt':¬ (ws.length:Int)<(N:Int):=by omega
     go_upto_region 8 with fail
     clear k0 k1 kl
     refine wp_region_T (10) (S:=fun w'=>w'.cell? ⟨B,0,none⟩=some (.slice (some ⟨g,0,none⟩) ss.length sc)/\w'.cell? ⟨B,1,none⟩=some (.slice (some ⟨g',0,none⟩) ws.length sc')) (by kernel_rfl) (⟨S4.drew.r6.cell 0 _ rfl,S4.drew.r6.cell 1 _ rfl⟩) (fun hHe=>?_)
     refine TYT 0 (.agg #[.slice (some ⟨g,0,none⟩) ss.length sc,.slice (some ⟨g',0,none⟩) ws.length sc']) rfl hHe ?_
     simp only [PS]
     refine TYT 1 (.slice (some ⟨gp,0,none⟩) ops.length cap) rfl hHe ?_
     simp only [PS]
     refine TYT 2 (.pointer (some ⟨R,0,none⟩)) rfl hHe ?_
     simp only [PS]
     refine TYT 3 (.slice (some ⟨gp,0,none⟩) ops.length cap) rfl hHe ?_
     simp only [PS]
     refine TYT 4 (.int .i64 (ops.length:Int)) rfl hHe ?_
     simp only [PS]
     refine TYT 5 (.int .i64 ((ops.length:Int)+3)) rfl hHe ?_
     simp only [PS]
     refine RDT 6 rfl (fun Kq hKq=>?_)
     obtain ⟨yb,e_yb⟩:∃ y,y=wr.drew:=⟨_,rfl⟩
     rw [<-e_yb]
     have EB:DpS w yb R a n' c' (p2+1+1) B g sc ss g' sc' ws gp cap ops:=by rw [e_yb];exact S4.drew
     clear e_yb
     refine step_call (by rfl) 15 #[.pointer (some ⟨R,0,none⟩),.int .i64 ((ops.length:Int)+3)] (by go_simp) (pick_r R a n' c' (p2+1+1) ((ops.length:Int)+3) _ EB.rd (by omega)) ?_
     rintro e y6 ⟨⟨u,rfl,u0,u1⟩,hr,hg⟩
     refine ⟨_,rfl,?_⟩
     have E6:=EB.pick hr hg
     clear hr hg
     have hwu:IntKind.i64.wrap (u-1)=u-1:=wrap_i64_id _ (by omega) (by omega)
     refine hKq.out _ _ (⟨E6.r6.cell 0 _ rfl,E6.r6.cell 1 _ rfl⟩) (fun hHd1=>?_)
     try simp only [PS]
     refine TYT 7 (.int .i64 (u-1)) rfl hHd1 ?_
     simp only [PS]
     refine RDT 8 rfl (fun Kq hKq=>?_)
     have f0:=E6.r2.cell 0 _ rfl
     have f1:=E6.r2.cell 1 _ rfl
     obtain ⟨f2,f3⟩:=E6.r2.z2
     have fl:=E6.r2.lt
     have HF:=hid (E6.fin (.slice (some ⟨g,0,none⟩) ss.length sc) (.slice (some ⟨g',0,none⟩) ws.length sc'))
     go_simp
     clear f0 f1 f2 f3 fl
     refine hKq.out _ _ (⟨HF.out.2.1.cell 0 _ rfl,HF.out.2.1.cell 1 _ rfl⟩) (fun hHd2=>?_)
     try simp only [PS]
     refine RDT 9 rfl (fun Kq hKq=>?_)
     go_simp
     refine hKq.out _ _ hHd2 (fun _=>?_)
     try simp only [PS]
     refine wpAnyT_ready (rs:=[10]) (by kernel_rfl) (by simp) ?_
     refine AllReadyT.last rfl (fun Kq hKq=>?_)
     go_simp
     refine hKq.out _ _ trivial (fun _=>?_)
     try simp only [PS]
     refine wpAnyT_done (by kernel_rfl) ?_ _
     obtain ⟨r8,_,h1,h2,h3,hb8⟩:=HF.out
     clear HF
     generalize e_y8:World.setCell _ _ _=y8 at r8 h1 h2 h3 hb8 ⊢
     clear e_y8
     have z0:=r8.cell 0 _ rfl
     have z1:=r8.cell 1 _ rfl
     try go_wp2
     exact bodyPost_ret (v:=.tuple #[.agg #[.slice (some ⟨g,0,none⟩) ss.length sc,.slice (some ⟨g',0,none⟩) ws.length sc'],.slice (some ⟨gp,0,none⟩) ops.length cap,.int .i64 (u-1)]) (by simp [results,Try.results4,go_sem,z0,z1]) rfl ⟨⟨ss,ws,g,sc,g',sc',ops,gp,cap,u-1,rfl,HD3.out,h1,h2,h3,hol,hcap,HLE.out,by omega,by omega⟩,hb8⟩
 ·clear k0 k1 kl
  go_upto_region 8 with fail
  refine wp_region_T (10) (S:=fun w'=>w'.cell? ⟨B,0,none⟩=some (.slice (some ⟨g,0,none⟩) ss.length sc)/\w'.cell? ⟨B,1,none⟩=some (.slice (some ⟨g',0,none⟩) ws.length sc')) (by kernel_rfl) (⟨S1.drew.r6.cell 0 _ rfl,S1.drew.r6.cell 1 _ rfl⟩) (fun hHe=>?_)
  refine TYT 0 (.agg #[.slice (some ⟨g,0,none⟩) ss.length sc,.slice (some ⟨g',0,none⟩) ws.length sc']) rfl hHe ?_
  simp only [PS]
  refine TYT 1 (.slice (some ⟨gp,0,none⟩) ops.length cap) rfl hHe ?_
  simp only [PS]
  refine TYT 2 (.pointer (some ⟨R,0,none⟩)) rfl hHe ?_
  simp only [PS]
  refine TYT 3 (.slice (some ⟨gp,0,none⟩) ops.length cap) rfl hHe ?_
  simp only [PS]
  refine TYT 4 (.int .i64 (ops.length:Int)) rfl hHe ?_
  simp only [PS]
  refine TYT 5 (.int .i64 ((ops.length:Int)+3)) rfl hHe ?_
  simp only [PS]
  refine RDT 6 rfl (fun Kq hKq=>?_)
  obtain ⟨yb,e_yb⟩:∃ y,y=v6.drew:=⟨_,rfl⟩
  rw [<-e_yb]
  have EB:DpS w yb R a n' c' (p2+1) B g sc ss g' sc' ws gp cap ops:=by rw [e_yb];exact S1.drew
  clear e_yb
  refine step_call (by rfl) 15 #[.pointer (some ⟨R,0,none⟩),.int .i64 ((ops.length:Int)+3)] (by go_simp) (pick_r R a n' c' (p2+1) ((ops.length:Int)+3) _ EB.rd (by omega)) ?_
  rintro e y6 ⟨⟨u,rfl,u0,u1⟩,hr,hg⟩
  refine ⟨_,rfl,?_⟩
  have E6:=EB.pick hr hg
  clear hr hg
  have hwu:IntKind.i64.wrap (u-1)=u-1:=wrap_i64_id _ (by omega) (by omega)
  refine hKq.out _ _ (⟨E6.r6.cell 0 _ rfl,E6.r6.cell 1 _ rfl⟩) (fun hHd1=>?_)
  try simp only [PS]
  refine TYT 7 (.int .i64 (u-1)) rfl hHd1 ?_
  simp only [PS]
  refine RDT 8 rfl (fun Kq hKq=>?_)
  have f0:=E6.r2.cell 0 _ rfl
  have f1:=E6.r2.cell 1 _ rfl
  obtain ⟨f2,f3⟩:=E6.r2.z2
  have fl:=E6.r2.lt
  have HF:=hid (E6.fin (.slice (some ⟨g,0,none⟩) ss.length sc) (.slice (some ⟨g',0,none⟩) ws.length sc'))
  go_simp
  clear f0 f1 f2 f3 fl
  refine hKq.out _ _ (⟨HF.out.2.1.cell 0 _ rfl,HF.out.2.1.cell 1 _ rfl⟩) (fun hHd2=>?_)
  try simp only [PS]
  refine RDT 9 rfl (fun Kq hKq=>?_)
  go_simp
  refine hKq.out _ _ hHd2 (fun _=>?_)
  try simp only [PS]
  refine wpAnyT_ready (rs:=[10]) (by kernel_rfl) (by simp) ?_
  refine AllReadyT.last rfl (fun Kq hKq=>?_)
  go_simp
  refine hKq.out _ _ trivial (fun _=>?_)
  try simp only [PS]
  refine wpAnyT_done (by kernel_rfl) ?_ _
  obtain ⟨r8,_,h1,h2,h3,hb8⟩:=HF.out
  clear HF
  generalize e_y8:World.setCell _ _ _=y8 at r8 h1 h2 h3 hb8 ⊢
  clear e_y8
  have z0:=r8.cell 0 _ rfl
  have z1:=r8.cell 1 _ rfl
  try go_wp2
  exact bodyPost_ret (v:=.tuple #[.agg #[.slice (some ⟨g,0,none⟩) ss.length sc,.slice (some ⟨g',0,none⟩) ws.length sc'],.slice (some ⟨gp,0,none⟩) ops.length cap,.int .i64 (u-1)]) (by simp [results,Try.results4,go_sem,z0,z1]) rfl ⟨⟨ss,ws,g,sc,g',sc',ops,gp,cap,u-1,rfl,HDK.out,h1,h2,h3,hol,hcap,HLE.out,by omega,by omega⟩,hb8⟩
end
section
structure Dk1 (w:World) (a:Option Addr) (n:Nat) (a':Option Addr) (m:Nat) (ss:List ByteArray) (ws:List WrT):Prop where
 s:Strs w a ss
 p:Wrs w a' ws
 n:ss.length=n
 m:ws.length=m
 le:DkLe ss ws
section
variable {w w':World} {a:Option Addr} {n:Nat} {a':Option Addr} {m:Nat} {ss:List ByteArray} {ws:List WrT}
theorem Dk1.below (h:Dk1 w a n a' m ss ws) (hb:Below w.heap.size w w'):Dk1 w' a n a' m ss ws:=⟨h.s.below hb,h.p.below hb,h.n,h.m,h.le⟩
theorem Dk1.b1 (h:Dk1 w a n a' m ss ws):ss.length<=1048576:=by have:=h.le.1.1;omega
theorem Dk1.b2 (h:Dk1 w a n a' m ss ws):ws.length<=1048576:=by have:=h.le.2.1;omega
theorem Dk1.b3 (h:Dk1 w a n a' m ss ws):∀ s∈ss,s.size<=1048576:=fun s hs=>by have:=h.le.1.2 s hs;omega
theorem Dk1.b4 (h:Dk1 w a n a' m ss ws):∀ x∈ws,x.2.size<=1048576:=fun s hs=>by have:=h.le.2.2 s hs;omega
end
theorem dkLe_nil:DkLe [] []:=⟨⟨by simp,fun s hs=>by cases hs⟩,by simp,fun s hs=>by cases hs⟩
theorem dkLe_pf (ss:List ByteArray) (ws:List WrT) (ops:List OpT) (z:Int):DkLe (pfR ss ws ops z).1 (pfR ss ws ops z).2:=by
 rcases pfR_ok ss ws ops z with h | ⟨h1,h2⟩
 ·exact dkLe_good h
 ·rw [h1,h2];exact dkLe_nil
theorem pf_il (a:Option Addr) (n c:Nat) (a':Option Addr) (m c':Nat) (ss:List ByteArray) (ws:List WrT) (f:Option Addr) (k cf:Nat) (ops:List OpT) (z:Int) (xs:List ByteArray) (xw:List WrT) (w:World) (h:Dk1 w a n a' m ss ws) (ho:Ops w f ops) (hk:ops.length=k) (hk8:k<=8) (hc:k<=cf) (hle:opsLe ops) (hX:pfR ss ws ops z=(xs,xw)) :
  Calls Try.prog 5 #[.agg #[.slice a n c,.slice a' m c'],.slice f k cf,.int .i64 z] w fun e w'=>(∃ a1 c1 a1' c1',e=.returned (.agg #[.slice a1 xs.length c1,.slice a1' xw.length c1'])/\Dk1 w' a1 xs.length a1' xw.length xs xw)/\Below w.heap.size w w':=by
 have e:=pf_i_any a ss c a' ws c' f ops cf z w h.s h.p ho (by omega) (by omega) (fun x hx=>by have:=hle x hx;omega) h.b1 h.b2 h.b3 h.b4
 have hd:=dkLe_pf ss ws ops z
 rw [hX] at e hd
 rw [h.n,h.m,hk] at e
 refine e.mono ?_
 rintro r w' ⟨a1,c1,a1',c1',rfl,ho,_,_,hb⟩
 exact ⟨⟨a1,c1,a1',c1',rfl,⟨ho.s.strs,ho.p.wrs,rfl,rfl,hd⟩⟩,hb⟩
theorem pf_sl (a:Option Addr) (n c:Nat) (a':Option Addr) (m c':Nat) (ss:List ByteArray) (ws:List WrT) (f:Option Addr) (k cf:Nat) (ops:List OpT) (z:Int) (xs:List ByteArray) (xw:List WrT) (w:World) (h:Dk1 w a n a' m ss ws) (ho:Ops w f ops) (hk:ops.length=k) (hk8:k<=8) (hle:opsLe ops) (hX:pfR ss ws ops z=(xs,xw)) :
  Calls Try.prog 7 #[.agg #[.slice a n c,.slice a' m c'],.slice f k cf,.int .i64 z] w fun e w'=>(∃ a1 c1 a1' c1',e=.returned (.agg #[.slice a1 xs.length c1,.slice a1' xw.length c1'])/\Dk1 w' a1 xs.length a1' xw.length xs xw)/\Below w.heap.size w w':=by
 have e:=pf_s_any a ss c a' ws c' f ops cf z w h.s h.p ho (by omega) (fun x hx=>by have:=hle x hx;omega) h.b1 h.b2 h.b3 h.b4
 have hd:=dkLe_pf ss ws ops z
 rw [hX] at e hd
 rw [h.n,h.m,hk] at e
 refine e.mono ?_
 rintro r w' ⟨a1,c1,a1',c1',rfl,ho,_,_,hb⟩
 exact ⟨⟨a1,c1,a1',c1',rfl,⟨ho.s.strs,ho.p.wrs,rfl,rfl,hd⟩⟩,hb⟩
theorem pl_il (a:Option Addr) (n c:Nat) (a':Option Addr) (m c':Nat) (ss:List ByteArray) (ws:List WrT) (f:Option Addr) (k cf:Nat) (zs:List Int) (xs:List ByteArray) (w:World) (h:Dk1 w a n a' m ss ws) (ho:Ints w f zs) (hk:zs.length=k) (hk8:k<=400) (hx:DkLe xs []) (hX:plSS zs ss ws=xs) :
  Calls Try.prog 10 #[.agg #[.slice a n c,.slice a' m c'],.slice f k cf] w fun e w'=>(∃ a1 c1 a1' c1',e=.returned (.agg #[.slice a1 xs.length c1,.slice a1' 0 c1'])/\Dk1 w' a1 xs.length a1' 0 xs [])/\Below w.heap.size w w':=by
 have e:=pl_i_any a ss c a' ws c' f zs cf w h.s h.p ho (by omega) h.b1 h.b2 h.b3 h.b4
 rw [hX,h.n,h.m,hk] at e
 refine e.mono ?_
 rintro r w' ⟨a1,c1,a1',c1',rfl,ho,_,hb⟩
 exact ⟨⟨a1,c1,a1',c1',rfl,⟨ho.strs,.inl rfl,rfl,rfl,hx⟩⟩,hb⟩
theorem wd_l (a:Option Addr) (n c:Nat) (a':Option Addr) (m c':Nat) (b:Option Addr) (d:Nat) (b':Option Addr) (d':Nat) (ss:List ByteArray) (ws:List WrT) (w:World) (h:Dk1 w a n a' m ss ws) (h':Dk1 w b n b' m ss ws) :
  Calls Try.prog 6 #[.agg #[.slice a n c,.slice a' m c'],.agg #[.slice b n d,.slice b' m d']] w fun e w'=>e=.returned (.bool true)/\Below w.heap.size w w':=by
 have e:=w_disk a b ss c d a' b' ws c' d' w h.s h'.s h.p h'.p h.b1 h.b2
 rw [h.n,h.m] at e
 exact e
theorem sc_il (a:Option Addr) (n c:Nat) (a':Option Addr) (m c':Nat) (ss:List ByteArray) (ws:List WrT) (z:Int) (s:ByteArray) (w:World) (h:Dk1 w a n a' m ss ws) (hs:sctOf ss ws z=s) :
  Calls Try.prog 11 #[.agg #[.slice a n c,.slice a' m c'],.int .i64 z] w fun e w'=>e=.returned (.string s)/\Below w.heap.size w w':=by
 have e:=sct_i a ss c a' ws c' z w h.s h.p h.b1 h.b2 h.b3 h.b4
 rw [h.n,h.m,hs] at e
 exact e
theorem vd_il (a:Option Addr) (n c:Nat) (a':Option Addr) (m c':Nat) (ss:List ByteArray) (ws:List WrT) (B:Bool) (w:World) (h:Dk1 w a n a' m ss ws) (hB:diskOk ss ws=B) :
  Calls Try.prog 9 #[.agg #[.slice a n c,.slice a' m c']] w fun e w'=>e=.returned (.bool B)/\Below w.heap.size w w':=by
 have e:=valid_i a ss c a' ws c' w h.s h.p h.b1 h.b2 h.b3 h.b4
 rw [h.n,h.m,hB] at e
 exact e
theorem vd_sl (a:Option Addr) (n c:Nat) (a':Option Addr) (m c':Nat) (ss:List ByteArray) (ws:List WrT) (B:Bool) (w:World) (h:Dk1 w a n a' m ss ws) (hB:diskOk ss ws=B) :
  Calls Try.prog 8 #[.agg #[.slice a n c,.slice a' m c']] w fun e w'=>e=.returned (.bool B)/\Below w.heap.size w w':=by
 have e:=valid_s a ss c a' ws c' w h.s h.p h.b1 h.b2 h.b3 h.b4
 rw [h.n,h.m,hB] at e
 exact e
end
theorem ne_wcellsF {l:List WrT} (h:wcells l≠[]):l.length≠0:=fun e=>h (by rw [List.eq_nil_of_length_eq_zero e];rfl)
theorem ne_strsF {l:List ByteArray} (h:l.map Value.string≠[]):l.length≠0:=fun e=>h (by rw [List.eq_nil_of_length_eq_zero e];rfl)
theorem pf_if (a:Option Addr) (n c:Nat) (a':Option Addr) (m c':Nat) (ss:List ByteArray) (ws:List WrT) (f:Option Addr) (k cf:Nat) (ops:List OpT) (z:Int) (xs:List ByteArray) (xw:List WrT) (N M:Nat) (w:World) (h:Dk1 w a n a' m ss ws) (ho:Ops w f ops) (hk:ops.length=k) (hk8:k<=8) (hc:k<=cf) (hle:opsLe ops) (hX:pfR ss ws ops z=(xs,xw)) (hN:xs.length=N) (hM:xw.length=M) :
  Calls Try.prog 5 #[.agg #[.slice a n c,.slice a' m c'],.slice f k cf,.int .i64 z] w fun e w'=>(∃ a1 c1 a1' c1',e=.returned (.agg #[.slice a1 N c1,.slice a1' M c1'])/\DepF w' (fun b=>w.heap.size<=b) (fun W=>Dk1 W a1 N a1' M xs xw))/\Below w.heap.size w w':=by
 have e:=pf_i_any a ss c a' ws c' f ops cf z w h.s h.p ho (by omega) (by omega) (fun x hx=>by have:=hle x hx;omega) h.b1 h.b2 h.b3 h.b4
 have hd:=dkLe_pf ss ws ops z
 rw [hX] at e hd
 rw [h.n,h.m,hk] at e
 refine e.mono ?_
 rintro r w' ⟨a1,c1,a1',c1',rfl,ho,g1,g2,hb⟩
 have d1:=depF_of (F:=fun b=>w.heap.size<=b) (dep_own (lo:=w.heap.size) ho.s ne_strsF g1) (fun b h _=>h)
 have d2:=depF_of (F:=fun b=>w.heap.size<=b) (dep_own (lo:=w.heap.size) ho.p ne_wcellsF g2) (fun b h _=>h)
 exact ⟨⟨a1,c1,a1',c1',by rw [<-hN,<-hM],(d1.and d2).map fun W k=>⟨k.1.strs,k.2.wrs,hN,hM,hd⟩⟩,hb⟩
def FdY (vb wx:World) (yv:Value) (xs:List ByteArray) (xw:List WrT) (N M:Nat):Prop:=∃ (B:Nat) (a1:Option Addr) (c1:Nat) (a1':Option Addr) (c1':Nat),yv=.pointer (some ⟨B,0,none⟩)/\Below vb.heap.size vb wx/\Row wx B [.slice a1 N c1,.slice a1' M c1']/\Dk1 wx a1 N a1' M xs xw
theorem opsLe.take {ops:List OpT} (h:opsLe ops) (k:Nat):opsLe (ops.take k):=fun x hx=>h x (List.mem_of_mem_take hx)
theorem opsLe.drop {ops:List OpT} (h:opsLe ops) (k:Nat):opsLe (ops.drop k):=fun x hx=>h x (List.mem_of_mem_drop hx)
section
theorem sy_il (a:Option Addr) (n c:Nat) (a':Option Addr) (m c':Nat) (ss:List ByteArray) (ws:List WrT) (f cf N:Nat) (w:World) (h:Dk1 w a n a' m ss ws) (hz:Row w f [.bool true,.int .i64 0,.string ByteArray.empty]) (hcf:1<=cf) (hg:diskOk ss ws=true) (hN:(syncs ws ss).length=N) :
  Calls Try.prog 5 #[.agg #[.slice a n c,.slice a' m c'],.slice (some ⟨f,0,none⟩) 1 cf,.int .i64 1] w fun e w'=>(∃ a1 c1 a1' c1',e=.returned (.agg #[.slice a1 N c1,.slice a1' 0 c1'])/\Dk1 w' a1 N a1' 0 (syncs ws ss) [])/\Below w.heap.size w w':=by
 have hO:Ops w (some ⟨f,0,none⟩) [(true,0,ByteArray.empty)]:=.inr ⟨f,0,rfl,hz.lt,fun i hi=>by
  have:i=0:=by simpa using hi
  subst this
  exact ⟨hz.cell 0 _ rfl,hz.cell 1 _ rfl,hz.cell 2 _ rfl⟩⟩
 have hle:opsLe [((true,0,ByteArray.empty):OpT)]:=fun x hx=>by rw [List.mem_singleton.1 hx];exact Nat.zero_le _
 have e:=pf_il a n c a' m c' ss ws _ 1 cf _ 1 _ _ w h hO rfl (by omega) hcf hle (fd_sync hg)
 rw [hN] at e
 exact e
theorem pl_ilN (a:Option Addr) (n c:Nat) (a':Option Addr) (m c':Nat) (ss:List ByteArray) (ws:List WrT) (f:Option Addr) (k cf:Nat) (zs:List Int) (xs:List ByteArray) (N:Nat) (w:World) (h:Dk1 w a n a' m ss ws) (ho:Ints w f zs) (hk:zs.length=k) (hk8:k<=400) (hx:DkLe xs []) (hX:plSS zs ss ws=xs) (hN:xs.length=N) :
  Calls Try.prog 10 #[.agg #[.slice a n c,.slice a' m c'],.slice f k cf] w fun e w'=>(∃ a1 c1 a1' c1',e=.returned (.agg #[.slice a1 N c1,.slice a1' 0 c1'])/\Dk1 w' a1 N a1' 0 xs [])/\Below w.heap.size w w':=by
 have e:=pl_il a n c a' m c' ss ws f k cf zs xs w h ho hk hk8 hx hX
 rw [hN] at e
 exact e
theorem step_callW {P:Program} {ops:Array Oper} {o:Oper} {a:Act} {w:World} {K:Act->World->Prop} {Q:Exit->Act->World->Prop} {E:Prop} (hw:Region.wanted o (yielded ops a.tmps)=true) (f:FuncId) (args:Array Value)
  (hrun:(execOp a.eval o).run P w=.ok (.enter f args) w) {C:Ending->World->Prop} (hc:Calls P f args w C) (h:∀ e w',C e w'->∃ v,e=.returned v/\K (a.put o.dst v) w') :
  if Region.wanted o (yielded ops a.tmps)=true then Oper.wp P o a w K Q else E:=by
 rw [if_pos hw]
 unfold Oper.wp
 rw [hrun,Oper.upon_enter]
 refine hc.mono fun e w'' hh=>?_
 obtain ⟨v,rfl,hk⟩:=h e w'' hh
 exact hk
structure WhL (v0 w:World) (y:Value) (k:Nat):Prop where
 own:w.ownsRow v0.heap.size 3 1 y k ((whole k).map (Value.int .i64))
 be:Below v0.heap.size v0 w
section
variable {v0 w w':World} {y y':Value} {k:Nat}
theorem WhL.below (h:WhL v0 w y k) (hb:Below w.heap.size w w'):WhL v0 w' y k:=⟨owns_below h.own hb,h.be.trans (hb.mono h.be.size)⟩
theorem WhL.push (h:WhL v0 w y k) (hown:w'.ownsRow v0.heap.size 3 1 y' (k+1) ((whole k).map (Value.int .i64)++[.int .i64 (64+((k % 2:Nat):Int))])) (hg:w.grownBy w' y.ownBlock):WhL v0 w' y' (k+1) :=
 ⟨by rw [whole_succ,List.map_append];exact hown,h.be.trans (grown_below hg h.be.size (fun g e=>(h.own.lt _ e).1))⟩
theorem WhL.ints {a:Option Addr} {m c:Nat} (h:WhL v0 w (.slice a m c) k):Ints w a (whole k) :=
 ints_ownE (B:=v0.heap.size) (e:=3) (m:=m) (c:=c) (by rw [whole_length];exact h.own)
end
def WhR (v0:World) (M:Nat) (yv iv:Value) (wr:World):Prop:=∃ (k g cap:Nat),k<=M/\iv=.int .i64 (k:Int)/\yv=.slice (some ⟨g,0,none⟩) k cap/\WhL v0 wr (.slice (some ⟨g,0,none⟩) k cap) k
def SeR (v0:World) (N:Nat) (iv:Value) (wr:World):Prop:=∃ (i:Nat),i<=N/\iv=.int .i64 (i:Int)/\Below v0.heap.size v0 wr
end
theorem fd_walk (a:Option Addr) (n c:Nat) (w:World) (h:Bys w a n) (hc:n<=c) (hn:n<=1048576) :
  Calls Try.prog 3 #[.slice a n c] w fun e w'=>e=.returned (.bool true)/\Below w.heap.size w w':=by
 have hn':¬ (1048576<(n:Int)):=by omega
 have HBY:=hid h
 clear h
 go_enter Try.func3,Try.ntmps3
 go_wp2_with fail
 refine (dperf_r a n c _ HBY.out hn hc).mono ?_
 rintro e v1 ⟨⟨ss,ws,g,sc,g',sc',ops,gp,cap,z,rfl,dk,hs,hp,oD,hol,hcap,hle,hz0,hz1⟩,hE⟩
 have D0:Dk1 v1 (some ⟨g,0,none⟩) ss.length (some ⟨g',0,none⟩) ws.length ss ws:=⟨hs,hp,rfl,rfl,dk⟩
 have HLE:=hid hle
 clear hs hp dk hle HBY
 unfold diskV
 obtain ⟨N0,hN0⟩:∃ k,k=ss.length:=⟨_,rfl⟩
 obtain ⟨M0,hM0⟩:∃ k,k=ws.length:=⟨_,rfl⟩
 obtain ⟨K0,hK0⟩:∃ k,k=ops.length:=⟨_,rfl⟩
 rw [<-hN0,<-hM0] at D0
 rw [<-hN0,<-hM0,<-hK0]
 have HK0:=hid hK0.symm
 rw [<-hK0] at hol hcap
 clear hN0 hM0 hK0
 go_upto_region 4 with fail
 generalize e_v2:v1.alloc _=v2
 obtain ⟨hb,z_v2,b_r3⟩:=bx1 e_v2
 clear e_v2
 obtain ⟨B3,e_B⟩:∃ k,k=v1.heap.size:=⟨_,rfl⟩
 rw [<-e_B] at b_r3 ⊢
 have r3:=b_r3.now
 clear e_B b_r3 z_v2
 replace D0:=D0.below hb
 replace oD:=oD.below hb
 replace hE:=hE.trans (hb.mono hE.size)
 clear hb
 obtain ⟨xs,xw,hX⟩:∃ xs xw,pfR ss ws ops z=(xs,xw):=⟨_,_,rfl⟩
 have HX:=hid hX
 clear hX
 generalize Value.tuple _=T0
 have k0:=r3.cell 0 _ rfl
 have k1:=r3.cell 1 _ rfl
 have kl:=r3.lt
 go_wp2_with fail
 clear k0 k1 kl
 refine (pf_il _ N0 sc _ M0 sc' ss ws _ K0 cap ops z xs xw _ D0 oD HK0.out (by omega) (by omega) HLE.out HX.out).mono ?_
 rintro e v3 ⟨⟨a1,c1,a1',c1',rfl,D1⟩,hb⟩
 replace D0:=D0.below hb
 replace oD:=oD.below hb
 replace r3:=r3.below hb
 replace hE:=hE.trans (hb.mono hE.size)
 clear hb
 obtain ⟨N1,hN1⟩:∃ k,k=xs.length:=⟨_,rfl⟩
 obtain ⟨M1,hM1⟩:∃ k,k=xw.length:=⟨_,rfl⟩
 rw [<-hN1,<-hM1] at D1 ⊢
 have HN1:=hid hN1
 have HM1:=hid hM1
 clear hN1 hM1
 go_upto_region 5 with fail
 generalize e_v4:v3.alloc _=v4
 obtain ⟨hb,z_v4,b_r6⟩:=bx1 e_v4
 clear e_v4
 obtain ⟨B6,e_B⟩:∃ k,k=v3.heap.size:=⟨_,rfl⟩
 rw [<-e_B] at b_r6 ⊢
 have r6:=b_r6.now
 clear e_B b_r6 z_v4
 replace D0:=D0.below hb
 replace oD:=oD.below hb
 replace r3:=r3.below hb
 replace D1:=D1.below hb
 replace hE:=hE.trans (hb.mono hE.size)
 clear hb
 have r3d:=r3.below (Below.refl v4.heap.size v4).drew
 have r6d:=r6.below (Below.refl v4.heap.size v4).drew
 refine wp_region_held_drew (S:=fun w'=>w'.cell? ⟨B3,0,none⟩=some (.slice (some ⟨g,0,none⟩) N0 sc)/\w'.cell? ⟨B3,1,none⟩=some (.slice (some ⟨g',0,none⟩) M0 sc')/\w'.cell? ⟨B6,0,none⟩=some (.slice a1 N1 c1)/\w'.cell? ⟨B6,1,none⟩=some (.slice a1' M1 c1')) (by kernel_rfl) (⟨r3d.cell 0 _ rfl,r3d.cell 1 _ rfl,r6d.cell 0 _ rfl,r6d.cell 1 _ rfl⟩) (fun hHe=>?_)
 refine TY 0 (.agg #[.slice a1 N1 c1,.slice a1' M1 c1']) rfl hHe ?_
 simp only [PS]
 refine TY 1 (.agg #[.slice (some ⟨g,0,none⟩) N0 sc,.slice (some ⟨g',0,none⟩) M0 sc']) rfl hHe ?_
 simp only [PS]
 refine TY 2 (.slice (some ⟨gp,0,none⟩) K0 cap) rfl hHe ?_
 simp only [PS]
 refine TY 3 (.int .i64 z) rfl hHe ?_
 simp only [PS]
 refine RD 4 rfl (fun Kq hKq=>?_)
 obtain ⟨yb,e_yb⟩:∃ y,y=v4.drew:=⟨_,rfl⟩
 rw [<-e_yb]
 have hb:Below v4.heap.size v4 yb:=by rw [e_yb];exact (Below.refl _ _).drew
 clear e_yb
 replace D0:=D0.below hb
 replace oD:=oD.below hb
 replace r3:=r3.below hb
 replace D1:=D1.below hb
 replace r6:=r6.below hb
 replace hE:=hE.trans (hb.mono hE.size)
 clear hb
 refine step_call (by rfl) 7 #[.agg #[.slice (some ⟨g,0,none⟩) N0 sc,.slice (some ⟨g',0,none⟩) M0 sc'],.slice (some ⟨gp,0,none⟩) K0 cap,.int .i64 z] (by go_simp) (pf_sl _ N0 sc _ M0 sc' ss ws _ K0 cap ops z xs xw _ D0 oD HK0.out (by omega) HLE.out HX.out) ?_
 rintro e y4 ⟨⟨a2,c2,a2',c2',rfl,D2⟩,hb⟩
 refine ⟨_,rfl,?_⟩
 replace D0:=D0.below hb
 replace oD:=oD.below hb
 replace r3:=r3.below hb
 replace D1:=D1.below hb
 replace r6:=r6.below hb
 replace hE:=hE.trans (hb.mono hE.size)
 clear hb
 rw [<-HN1.out,<-HM1.out] at D2 ⊢
 refine hKq.out _ _ (⟨r3.cell 0 _ rfl,r3.cell 1 _ rfl,r6.cell 0 _ rfl,r6.cell 1 _ rfl⟩) (fun hHd1=>?_)
 try simp only [PS]
 refine RD 5 rfl (fun Kq hKq=>?_)
 refine step_call (by rfl) 6 #[.agg #[.slice a1 N1 c1,.slice a1' M1 c1'],.agg #[.slice a2 N1 c2,.slice a2' M1 c2']] (by go_simp) (wd_l _ N1 c1 _ M1 c1' _ c2 _ c2' xs xw _ D1 D2) ?_
 rintro e y5 ⟨rfl,hb⟩
 refine ⟨_,rfl,?_⟩
 replace D0:=D0.below hb
 replace oD:=oD.below hb
 replace r3:=r3.below hb
 replace D1:=D1.below hb
 replace r6:=r6.below hb
 replace hE:=hE.trans (hb.mono hE.size)
 clear hb
 clear D2
 refine hKq.out _ _ (⟨r3.cell 0 _ rfl,r3.cell 1 _ rfl,r6.cell 0 _ rfl,r6.cell 1 _ rfl⟩) (fun hHd2=>?_)
 try simp only [PS]
 refine TY 6 (.bool false) rfl hHd2 ?_
 simp only [PS]
 refine DN ?_
 clear r3d r6d
 have k0:=r3.cell 0 _ rfl
 have k1:=r3.cell 1 _ rfl
 have kl:=r3.lt
 obtain ⟨ok,hok⟩:∃ b,diskOk ss ws=b:=⟨_,rfl⟩
 have HOK:=hid hok
 clear hok
 go_wp2_with fail
 clear k0 k1 kl
 refine (vd_sl _ N0 sc _ M0 sc' ss ws ok _ D0 HOK.out).mono ?_
 rintro e v5 ⟨rfl,hb⟩
 replace D0:=D0.below hb
 replace oD:=oD.below hb
 replace r3:=r3.below hb
 replace D1:=D1.below hb
 replace r6:=r6.below hb
 replace hE:=hE.trans (hb.mono hE.size)
 clear hb
 cases ok with
 | false =>
  have hx:xs=[]:=by have:=HX.out;unfold pfR at this;rw [if_neg (by rw [HOK.out];simp)] at this;exact (congrArg Prod.fst this).symm
  have hN0:N1=0:=by rw [HN1.out,hx];rfl
  subst hN0
  have k0:=r3.cell 0 _ rfl
  have k1:=r3.cell 1 _ rfl
  have kl:=r3.lt
  go_wp2_with fail
  refine (vd_il _ N0 sc _ M0 sc' ss ws false _ D0 HOK.out).mono ?_
  rintro e v9 ⟨rfl,hb⟩
  have q0:=(r6.below hb).cell 0 _ rfl
  have ql:=(r6.below hb).lt
  replace hE:=hE.trans (hb.mono hE.size)
  clear k0 k1 kl hb
  go_wp2
  go_ret
  exact ⟨rfl,hE⟩
 | true =>
  obtain ⟨hh,hhK⟩:∃ k:Nat,k=K0 / 2:=⟨_,rfl⟩
  have hh1:hh<=K0:=by omega
  have hcz:cap=hh->0=hh*3:=by intro e;omega
  have hq:(K0:Int).tdiv 2=(hh:Int):=by rw [Int.tdiv_eq_ediv_of_nonneg (by omega)];omega
  have hq':(K0:Int) / 2=(hh:Int):=by omega
  obtain ⟨ms,mw,hX2⟩:∃ xs xw,pfR ss ws (ops.take hh) (hh:Int)=(xs,xw):=⟨_,_,rfl⟩
  obtain ⟨ys,yw,hX3⟩:∃ xs xw,pfR ss ws ops (K0:Int)=(xs,xw):=⟨_,_,rfl⟩
  have hX4:pfR ms mw (ops.drop hh) (K0:Int)=(ys,yw):=by have:=fd_parts HOK.out ops hh (by rw [HK0.out];exact hh1);rw [HK0.out,hX2,hX3] at this;exact this
  have HX2:=hid hX2
  have HX3:=hid hX3
  have HX4:=hid hX4
  clear hX2 hX3 hX4 hhK
  obtain ⟨N3,hN3⟩:∃ k,ms.length=k:=⟨_,rfl⟩
  have HN3:=hid hN3
  clear hN3
  obtain ⟨M3,hM3⟩:∃ k,mw.length=k:=⟨_,rfl⟩
  have HM3:=hid hM3
  clear hM3
  obtain ⟨N4,hN4⟩:∃ k,ys.length=k:=⟨_,rfl⟩
  have HN4:=hid hN4
  clear hN4
  obtain ⟨M4,hM4⟩:∃ k,yw.length=k:=⟨_,rfl⟩
  have HM4:=hid hM4
  clear hM4
  have hlt1:(ops.take hh).length=hh:=by rw [List.length_take,HK0.out];omega
  have hlt2:(ops.drop hh).length=K0-hh:=by rw [List.length_drop,HK0.out]
  have HL1:=hid hlt1
  have HL2:=hid hlt2
  clear hlt1 hlt2
  have hhi:(hh:Int)<=(K0:Int):=by omega
  have hhc:(hh:Int)<=(cap:Int):=by omega
  have hh0:(0:Int)<=(hh:Int):=by omega
  have hkc:(K0:Int)<=(cap:Int):=by omega
  go_upto_region 10 with fail
  go_cut [8] from 49 to 60 (fun yv wx=>FdY v5 wx yv ys yw N4 M4)
  case rest =>
   obtain ⟨B8,a4,c4,a4',c4',rfl,hb,r8,D4⟩:=hcut
   rename World=>vq
   replace D0:=D0.below hb
   replace oD:=oD.below hb
   replace r3:=r3.below hb
   replace D1:=D1.below hb
   replace r6:=r6.below hb
   replace hE:=hE.trans (hb.mono hE.size)
   clear hb
   have hgd:diskOk ys yw=true:=by have:=fd_good HOK.out ops;rw [HK0.out,HX3.out] at this;exact this
   have HGD:=hid hgd
   clear hgd hcz hq hq' hhi hhc hh0
   have k0:=r3.cell 0 _ rfl
   have k1:=r3.cell 1 _ rfl
   have kl:=r3.lt
   go_wp2_with fail
   clear k0 k1 kl
   refine (pf_if _ N0 sc _ M0 sc' ss ws _ K0 cap ops (K0:Int) ys yw N4 M4 _ D0 oD HK0.out (by omega) (by omega) HLE.out HX3.out HN4.out HM4.out).mono ?_
   rintro e v21 ⟨⟨a5,c5,a5',c5',rfl,E5⟩,hb⟩
   replace D0:=D0.below hb
   replace oD:=oD.below hb
   replace r3:=r3.below hb
   replace D1:=D1.below hb
   replace r6:=r6.below hb
   replace r8:=r8.below hb
   replace D4:=D4.below hb
   replace hE:=hE.trans (hb.mono hE.size)
   clear hb
   have D5:=E5.now
   clear E5
   go_upto_region 12 with fail
   generalize e_v22:v21.alloc _=v22
   obtain ⟨hb,z_v22,b_r9⟩:=bx1 e_v22
   clear e_v22
   obtain ⟨B9,e_B⟩:∃ k,k=v21.heap.size:=⟨_,rfl⟩
   rw [<-e_B] at b_r9 ⊢
   have r9:=b_r9.now
   clear e_B b_r9 z_v22
   replace D0:=D0.below hb
   replace oD:=oD.below hb
   replace r3:=r3.below hb
   replace D1:=D1.below hb
   replace r6:=r6.below hb
   replace r8:=r8.below hb
   replace D4:=D4.below hb
   replace D5:=D5.below hb
   replace hE:=hE.trans (hb.mono hE.size)
   clear hb
   have k0:=r8.cell 0 _ rfl
   have k1:=r8.cell 1 _ rfl
   have kl:=r8.lt
   have j0:=r9.cell 0 _ rfl
   have j1:=r9.cell 1 _ rfl
   have jl:=r9.lt
   go_wp2_with fail
   clear k0 k1 kl j0 j1 jl
   refine (wd_l _ N4 c4 _ M4 c4' _ c5 _ c5' ys yw _ D4 D5).mono ?_
   rintro e v23 ⟨rfl,hb⟩
   replace D0:=D0.below hb
   replace oD:=oD.below hb
   replace r3:=r3.below hb
   replace D1:=D1.below hb
   replace r6:=r6.below hb
   replace r8:=r8.below hb
   replace D4:=D4.below hb
   replace D5:=D5.below hb
   replace r9:=r9.below hb
   replace hE:=hE.trans (hb.mono hE.size)
   clear hb
   have j0:=r9.cell 0 _ rfl
   have j1:=r9.cell 1 _ rfl
   have jl:=r9.lt
   go_wp2_with fail
   clear j0 j1 jl
   refine (vd_il _ N4 c5 _ M4 c5' ys yw true _ D5 HGD.out).mono ?_
   rintro e v24 ⟨rfl,hb⟩
   replace D0:=D0.below hb
   replace oD:=oD.below hb
   replace r3:=r3.below hb
   replace D1:=D1.below hb
   replace r6:=r6.below hb
   replace r8:=r8.below hb
   replace D4:=D4.below hb
   replace D5:=D5.below hb
   replace r9:=r9.below hb
   replace hE:=hE.trans (hb.mono hE.size)
   clear hb
   clear D0 oD r3 r6 D1 r8 D4 HX HX2 HX3 HX4 HK0 HLE hol hcap HOK HN1 HM1 HN3 HM3 HL1 HL2 hh1 hkc
   have hM4:M4<=400:=by have:=D5.le.2.1;have:=HM4.out;omega
   have hN4:N4<=400:=by have:=D5.le.1.1;have:=HN4.out;omega
   obtain ⟨zs,hzs⟩:∃ l,syncs yw ys=l:=⟨_,rfl⟩
   have hzl:zs.length=N4:=by rw [<-hzs,syncs_length];exact HN4.out
   have hzo:diskOk zs []=true:=by rw [<-hzs];exact fd_syncOk HGD.out
   have HZS:=hid hzs
   have HZL:=hid hzl
   have HZO:=hid hzo
   clear hzs hzl hzo
   have j0:=r9.cell 0 _ rfl
   have j1:=r9.cell 1 _ rfl
   have jl:=r9.lt
   go_wp2_with fail
   clear j0 j1 jl
   generalize e_v25:v24.alloc _=v25
   obtain ⟨hb,z_v25,b_r7⟩:=bx1 e_v25
   clear e_v25
   obtain ⟨B7,e_B⟩:∃ k,k=v24.heap.size:=⟨_,rfl⟩
   rw [<-e_B] at b_r7 ⊢
   have r7:=b_r7.now
   clear e_B b_r7 z_v25
   replace r9:=r9.below hb
   replace D5:=D5.below hb
   replace hE:=hE.trans (hb.mono hE.size)
   clear hb
   refine (sy_il _ N4 c5 _ M4 c5' ys yw B7 1 N4 _ D5 r7 (by omega) HGD.out (by rw [HZS.out];exact HZL.out)).mono ?_
   rintro e v26 ⟨⟨a6,c6,a6',c6',rfl,D6⟩,hb⟩
   replace r9:=r9.below hb
   replace D5:=D5.below hb
   replace r7:=r7.below hb
   replace hE:=hE.trans (hb.mono hE.size)
   clear hb
   rw [HZS.out] at D6
   clear r7
   go_upto_region 15 with fail
   generalize e_v27:v26.alloc _=v27
   obtain ⟨hb,z_v27,b_r10⟩:=bx1 e_v27
   clear e_v27
   obtain ⟨B10,e_B⟩:∃ k,k=v26.heap.size:=⟨_,rfl⟩
   rw [<-e_B] at b_r10 ⊢
   have r10:=b_r10.now
   clear e_B b_r10 z_v27
   replace r9:=r9.below hb
   replace D5:=D5.below hb
   replace D6:=D6.below hb
   replace hE:=hE.trans (hb.mono hE.size)
   clear hb
   have W0:WhL v27 (v27.alloc (.cells #[] 3)) (.slice (some ⟨v27.heap.size,0,none⟩) 0 0) 0:=⟨World.ownsRow_lit _ #[] 0 (by omega) (by simp) (by simp),below_nw _ _⟩
   obtain ⟨i0,hi0,hz0,hz1,hz2⟩:=info_partsB info_intE
   have HI:=hid (And.intro hi0 (And.intro hz0 (And.intro hz1 hz2)))
   clear hi0 hz0 hz1 hz2
   go_wp2_with fail
   go_loopw [11,12] (fun yv iv wr=>WhR v27 M4 yv iv wr) (fun _ iv _=>M4-(intOf iv).toNat)
   case atStart=>exact ⟨0,_,0,Nat.zero_le _,rfl,rfl,W0⟩
   case round =>
    obtain ⟨k,g,cap,hk,rfl,rfl,L⟩:=hrel
    clear W0
    have j0:=(r9.below L.be).cell 0 _ rfl
    have j1:=(r9.below L.be).cell 1 _ rfl
    have jl:=(r9.below L.be).lt
    by_cases hkl:k<M4
    ·have hkli:(k:Int)<(M4:Int):=by omega
     have hrm:(k:Int).tmod 2=((k % 2:Nat):Int):=by rw [Int.tmod_eq_emod_of_nonneg (by omega)];omega
     have hrn:(k:Int) % 2=((k % 2:Nat):Int):=by omega
     obtain ⟨u,hu⟩:∃ u:Nat,u=k % 2:=⟨_,rfl⟩
     rw [<-hu] at hrm hrn
     have hu2:u<2:=by omega
     have HU:=hid hu
     clear hu
     have HL:=hid (L.below (below_nw wr (.cells #[.int .i64 (64+(u:Int))] 3)))
     have hsz:=L.be.size
     go_wp2_with (first | (at_builtin;refine WAL _ rfl _ _ 35 rfl v27.heap.size Try.underlying35 HI.out rfl (by omega) _ k _ rfl HL.out.own ⟨wr.heap.size,0,none⟩ 1 1 [.int .i64 (64+(u:Int))] rfl rfl (World.news_of_block (heap_alloc_new wr _)) (oneIE _) (by simp;omega) (wr.heap.size+1) (by simp) ?_;intro kk cap2 yA hown hgrow hat hlt9;have HG:=hid (HL.out.push (by rw [<-HU.out];exact hown) hgrow);clear hown hgrow hat))
     go_roundw
     case rel=>exact ⟨k+1,kk,cap2,by omega,by first | go_num | (congr 1;omega),rfl,HG.out⟩
     case measure=>simp [intOf];omega
    ·obtain rfl:k=M4:=by omega
     have I:=L.ints
     have hb:=L.be
     clear j0 j1 jl hkl hk L
     replace r9:=r9.below hb
     replace D5:=D5.below hb
     replace D6:=D6.below hb
     replace r10:=r10.below hb
     replace hE:=hE.trans (hb.mono hE.size)
     clear hb
     have j1:=r9.cell 1 _ rfl
     have jl:=r9.lt
     go_upto_region 20 with fail
     clear j1 jl
     have r9d:=r9.below (Below.refl wr.heap.size wr).drew
     have r10d:=r10.below (Below.refl wr.heap.size wr).drew
     refine wp_region_held_drew (S:=fun w'=>w'.cell? ⟨B9,0,none⟩=some (.slice a5 N4 c5)/\w'.cell? ⟨B9,1,none⟩=some (.slice a5' k c5')/\w'.cell? ⟨B10,0,none⟩=some (.slice a6 N4 c6)/\w'.cell? ⟨B10,1,none⟩=some (.slice a6' 0 c6')) (by kernel_rfl) (⟨r9d.cell 0 _ rfl,r9d.cell 1 _ rfl,r10d.cell 0 _ rfl,r10d.cell 1 _ rfl⟩) (fun hHe=>?_)
     refine TY 0 (.pointer (some ⟨B10,1,none⟩)) rfl hHe ?_
     simp only [PS]
     refine TY 1 (.slice a6' 0 c6') rfl hHe ?_
     simp only [PS]
     refine TY 2 (.int .i64 0) rfl hHe ?_
     simp only [PS]
     refine TY 3 (.bool false) rfl hHe ?_
     simp only [PS]
     refine TY 4 (.bool false) rfl hHe ?_
     simp only [PS]
     refine TY 5 (.agg #[.slice a6 N4 c6,.slice a6' 0 c6']) rfl hHe ?_
     simp only [PS]
     refine TY 6 (.slice (some ⟨g,0,none⟩) k cap) rfl hHe ?_
     simp only [PS]
     refine TY 8 (.agg #[.slice a6 N4 c6,.slice a6' 0 c6']) rfl hHe ?_
     simp only [PS]
     refine RD 7 rfl (fun Kq hKq=>?_)
     obtain ⟨yb,e_yb⟩:∃ y,y=wr.drew:=⟨_,rfl⟩
     rw [<-e_yb]
     have hb:Below wr.heap.size wr yb:=by rw [e_yb];exact (Below.refl _ _).drew
     clear e_yb
     replace r9:=r9.below hb
     replace D5:=D5.below hb
     replace D6:=D6.below hb
     replace r10:=r10.below hb
     replace I:=I.below hb
     replace hE:=hE.trans (hb.mono hE.size)
     clear hb
     refine step_callW (by kernel_rfl) 10 #[.agg #[.slice a6 N4 c6,.slice a6' 0 c6'],.slice (some ⟨g,0,none⟩) k cap] (by go_simp) (pl_ilN _ N4 c6 _ 0 c6' zs [] _ k cap (whole k) zs N4 _ D6 I (whole_length k) hM4 D6.le (fd_none HZO.out _) HZL.out) ?_
     rintro e y7 ⟨⟨a7,c7,a7',c7',rfl,D7⟩,hb⟩
     refine ⟨_,rfl,?_⟩
     replace r9:=r9.below hb
     replace D5:=D5.below hb
     replace D6:=D6.below hb
     replace r10:=r10.below hb
     replace I:=I.below hb
     replace hE:=hE.trans (hb.mono hE.size)
     clear hb
     refine hKq.out _ _ (⟨r9.cell 0 _ rfl,r9.cell 1 _ rfl,r10.cell 0 _ rfl,r10.cell 1 _ rfl⟩) (fun hHd1=>?_)
     try simp only [PS]
     refine RD 9 rfl (fun Kq hKq=>?_)
     refine step_callW (by kernel_rfl) 6 #[.agg #[.slice a7 N4 c7,.slice a7' 0 c7'],.agg #[.slice a6 N4 c6,.slice a6' 0 c6']] (by go_simp) (wd_l _ N4 c7 _ 0 c7' _ c6 _ c6' zs [] _ D7 D6) ?_
     rintro e y9 ⟨rfl,hb⟩
     refine ⟨_,rfl,?_⟩
     replace r9:=r9.below hb
     replace D5:=D5.below hb
     replace D6:=D6.below hb
     replace r10:=r10.below hb
     replace I:=I.below hb
     replace D7:=D7.below hb
     replace hE:=hE.trans (hb.mono hE.size)
     clear hb
     clear D7
     refine hKq.out _ _ (⟨r9.cell 0 _ rfl,r9.cell 1 _ rfl,r10.cell 0 _ rfl,r10.cell 1 _ rfl⟩) (fun hHd2=>?_)
     try simp only [PS]
     refine TY 10 (.bool false) rfl hHd2 ?_
     simp only [PS]
     refine TY 11 (.bool false) rfl hHd2 ?_
     simp only [PS]
     refine TY 12 (.bool false) rfl hHd2 ?_
     simp only [PS]
     refine TY 13 (.agg #[.slice a5 N4 c5,.slice a5' k c5']) rfl hHd2 ?_
     simp only [PS]
     refine TY 14 (.slice (some ⟨g,0,none⟩) k cap) rfl hHd2 ?_
     simp only [PS]
     refine TY 16 (.agg #[.slice a6 N4 c6,.slice a6' 0 c6']) rfl hHd2 ?_
     simp only [PS]
     refine RD 15 rfl (fun Kq hKq=>?_)
     refine step_callW (by kernel_rfl) 10 #[.agg #[.slice a5 N4 c5,.slice a5' k c5'],.slice (some ⟨g,0,none⟩) k cap] (by go_simp) (pl_ilN _ N4 c5 _ k c5' ys yw _ k cap (whole k) zs N4 _ D5 I (whole_length k) hM4 D6.le (by have:=fd_whole HGD.out;rw [HM4.out,HZS.out] at this;exact this) HZL.out) ?_
     rintro e y15 ⟨⟨a8,c8,a8',c8',rfl,D8⟩,hb⟩
     refine ⟨_,rfl,?_⟩
     replace r9:=r9.below hb
     replace D5:=D5.below hb
     replace D6:=D6.below hb
     replace r10:=r10.below hb
     replace I:=I.below hb
     replace hE:=hE.trans (hb.mono hE.size)
     clear hb
     refine hKq.out _ _ (⟨r9.cell 0 _ rfl,r9.cell 1 _ rfl,r10.cell 0 _ rfl,r10.cell 1 _ rfl⟩) (fun hHd3=>?_)
     try simp only [PS]
     refine RD 17 rfl (fun Kq hKq=>?_)
     refine step_callW (by kernel_rfl) 6 #[.agg #[.slice a8 N4 c8,.slice a8' 0 c8'],.agg #[.slice a6 N4 c6,.slice a6' 0 c6']] (by go_simp) (wd_l _ N4 c8 _ 0 c8' _ c6 _ c6' zs [] _ D8 D6) ?_
     rintro e y17 ⟨rfl,hb⟩
     refine ⟨_,rfl,?_⟩
     replace r9:=r9.below hb
     replace D5:=D5.below hb
     replace D6:=D6.below hb
     replace r10:=r10.below hb
     replace I:=I.below hb
     replace D8:=D8.below hb
     replace hE:=hE.trans (hb.mono hE.size)
     clear hb
     clear D8 r9d r10d
     refine hKq.out _ _ (⟨r9.cell 0 _ rfl,r9.cell 1 _ rfl,r10.cell 0 _ rfl,r10.cell 1 _ rfl⟩) (fun hHd4=>?_)
     try simp only [PS]
     refine TY 18 (.bool false) rfl hHd4 ?_
     simp only [PS]
     refine TY 19 (.bool false) rfl hHd4 ?_
     simp only [PS]
     refine DN ?_
     clear I
     go_wp2_with fail
     go_loopw [13] (fun iv wr=>SeR y17 N4 iv wr) (fun iv _=>N4-(intOf iv).toNat)
     case atStart=>exact ⟨0,Nat.zero_le _,rfl,Below.refl _ _⟩
     case round =>
      obtain ⟨i,hi,rfl,hb⟩:=hrel
      replace r9:=r9.below hb
      replace D5:=D5.below hb
      replace D6:=D6.below hb
      replace r10:=r10.below hb
      replace hE:=hE.trans (hb.mono hE.size)
      have j0:=r9.cell 0 _ rfl
      have j1:=r9.cell 1 _ rfl
      have jl:=r9.lt
      have m0:=r10.cell 0 _ rfl
      have m1:=r10.cell 1 _ rfl
      have ml:=r10.lt
      by_cases hil:i<N4
      ·have hili:(i:Int)<(N4:Int):=by omega
       have hil2:¬ ((N4:Int)<=(i:Int)):=by omega
       obtain ⟨b,o,p,rfl,cp,HP⟩:=D6.s.at (k:=i) (by rw [HZL.out];exact hil)
       have hsc:sctOf ys yw (i:Int)=p:=by rw [fd_sct HGD.out (by rw [HN4.out];exact hil),HZS.out];exact HP.out.symm
       have HSC:=hid hsc
       clear hsc HP
       go_upto_region 25 with fail
       clear j0 j1 jl m0 m1 ml
       rename World=>wr2
       have HC:Hid (∀ W,Below wr2.heap.size wr2 W->W.cell? ⟨b,o+i,none⟩=some (.string p)):=fun W hb=>(hb.cell (p:=⟨b,o+i,none⟩) (lt_of_cell cp)).trans cp
       clear cp
       have dD:=(Below.refl wr2.heap.size wr2).drew
       refine wp_region_held_drew (S:=fun w'=>w'.cell? ⟨B9,0,none⟩=some (.slice a5 N4 c5)/\w'.cell? ⟨B9,1,none⟩=some (.slice a5' k c5')/\w'.cell? ⟨B10,0,none⟩=some (.slice (some ⟨b,o,none⟩) N4 c6)/\w'.cell? ⟨b,o+i,none⟩=some (.string p)) (by kernel_rfl) (⟨(r9.below dD).cell 0 _ rfl,(r9.below dD).cell 1 _ rfl,(r10.below dD).cell 0 _ rfl,HC.out _ dD⟩) (fun hHe=>?_)
       refine TY 0 (.agg #[.slice a5 N4 c5,.slice a5' k c5']) rfl hHe ?_
       simp only [PS]
       refine TY 1 (.int .i64 (i:Int)) rfl hHe ?_
       simp only [PS]
       refine TY 3 (.pointer (some ⟨B10,0,none⟩)) rfl hHe ?_
       simp only [PS]
       refine TY 4 (.slice (some ⟨b,o,none⟩) N4 c6) rfl hHe ?_
       simp only [PS]
       refine TY 5 (.int .i64 (i:Int)) rfl hHe ?_
       simp only [PS]
       refine TY 6 (.pointer (some ⟨b,o+i,none⟩)) rfl hHe ?_
       simp only [PS]
       refine TY 7 (.string p) rfl hHe ?_
       simp only [PS]
       refine RD 2 rfl (fun Kq hKq=>?_)
       obtain ⟨yb,e_yb⟩:∃ y,y=wr2.drew:=⟨_,rfl⟩
       rw [<-e_yb]
       have hT:Below wr2.heap.size wr2 yb:=by rw [e_yb];exact (Below.refl _ _).drew
       clear e_yb
       refine step_call (by rfl) 11 #[.agg #[.slice a5 N4 c5,.slice a5' k c5'],.int .i64 (i:Int)] (by go_simp) (sc_il _ N4 c5 _ k c5' ys yw (i:Int) p _ (D5.below hT) HSC.out) ?_
       rintro e y2 ⟨rfl,hb2⟩
       refine ⟨_,rfl,?_⟩
       replace hT:=hT.trans (hb2.mono hT.size)
       clear hb2
       refine hKq.out _ _ (⟨(r9.below hT).cell 0 _ rfl,(r9.below hT).cell 1 _ rfl,(r10.below hT).cell 0 _ rfl,HC.out _ hT⟩) (fun hHd1=>?_)
       try simp only [PS]
       refine TY 8 (.bool false) rfl hHd1 ?_
       simp only [PS]
       refine DN ?_
       go_wp2
       go_roundw
       case rel=>exact ⟨i+1,by omega,by first | go_num | (congr 1;omega),hb.trans (hT.mono hb.size)⟩
       case measure=>simp [intOf];omega
      ·obtain rfl:i=N4:=by omega
       clear hil hi hb
       have hs1:sctOf ys yw (i:Int)=ByteArray.empty:=fd_sctN (.inr (by rw [HN4.out];omega))
       have hs2:sctOf ys yw (-1)=ByteArray.empty:=fd_sctN (.inl (by omega))
       have HS1:=hid hs1
       have HS2:=hid hs2
       clear hs1 hs2
       go_wp2_with fail
       clear j0 j1 jl m0 m1 ml
       refine (sc_il _ i c5 _ k c5' ys yw _ _ _ D5 HS1.out).mono ?_
       rintro e y3 ⟨rfl,hb⟩
       replace r9:=r9.below hb
       replace D5:=D5.below hb
       replace hE:=hE.trans (hb.mono hE.size)
       clear hb
       have j0:=r9.cell 0 _ rfl
       have j1:=r9.cell 1 _ rfl
       have jl:=r9.lt
       go_wp2_with fail
       clear j0 j1 jl
       refine (sc_il _ i c5 _ k c5' ys yw _ _ _ D5 HS2.out).mono ?_
       rintro e y4 ⟨rfl,hb⟩
       replace hE:=hE.trans (hb.mono hE.size)
       go_wp2
       go_ret
       exact ⟨rfl,hE⟩
  case first =>
   have r3d:=r3.below (Below.refl v5.heap.size v5).drew
   refine wp_region_T (13) (S:=fun w'=>w'.cell? ⟨B3,0,none⟩=some (.slice (some ⟨g,0,none⟩) N0 sc)/\w'.cell? ⟨B3,1,none⟩=some (.slice (some ⟨g',0,none⟩) M0 sc')) (by kernel_rfl) (⟨r3d.cell 0 _ rfl,r3d.cell 1 _ rfl⟩) (fun hHe=>?_)
   refine TYT 0 (.agg #[.slice (some ⟨g,0,none⟩) N0 sc,.slice (some ⟨g',0,none⟩) M0 sc']) rfl hHe ?_
   simp only [PS]
   refine TYT 1 (.slice (some ⟨gp,0,none⟩) K0 cap) rfl hHe ?_
   simp only [PS]
   refine TYT 2 (.int .i64 (hh:Int)) rfl hHe ?_
   simp only [PS]
   refine TYT 3 (.slice (some ⟨gp,0,none⟩) hh cap) rfl hHe ?_
   simp only [PS]
   refine TYT 4 (.int .i64 (hh:Int)) rfl hHe ?_
   simp only [PS]
   refine TYT 6 (.slice (some ⟨gp,0,none⟩) K0 cap) rfl hHe ?_
   simp only [PS]
   refine TYT 7 (.int .i64 (hh:Int)) rfl hHe ?_
   simp only [PS]
   refine TKT 8 (.slice (some ⟨gp,hh*3,none⟩) (K0-hh) (cap-hh)) rfl (Or.inl ⟨by rfl,fun w hw=>by obtain ⟨z0,z1⟩:=hw;go_simp;exact hcz⟩) hHe ?_
   simp only [PS]
   refine TYT 9 (.slice (some ⟨gp,0,none⟩) K0 cap) rfl hHe ?_
   simp only [PS]
   refine TYT 10 (.int .i64 (K0:Int)) rfl hHe ?_
   simp only [PS]
   refine wpAnyT_ready (rs:=[5,12]) (by kernel_rfl) (by simp) ?_
   refine AllReadyT.cons rfl (fun Kq hKq=>?_) (AllReadyT.cons rfl (fun Kq hKq=>?_) AllReadyT.nil)
   ·obtain ⟨yb,e_yb⟩:∃ y,y=v5.drew:=⟨_,rfl⟩
    rw [<-e_yb]
    have hT:Below v5.heap.size v5 yb:=by rw [e_yb];exact (Below.refl _ _).drew
    clear e_yb
    refine step_call (by rfl) 5 #[.agg #[.slice (some ⟨g,0,none⟩) N0 sc,.slice (some ⟨g',0,none⟩) M0 sc'],.slice (some ⟨gp,0,none⟩) hh cap,.int .i64 (hh:Int)] (by go_simp) (pf_if _ N0 sc _ M0 sc' ss ws _ hh cap (ops.take hh) (hh:Int) ms mw N3 M3 _ (D0.below hT) (ops_take (oD.below hT) hh) HL1.out (by omega) (by omega) (HLE.out.take hh) HX2.out HN3.out HM3.out) ?_
    rintro e y5 ⟨⟨a3,c3,a3',c3',rfl,E3⟩,hb⟩
    refine ⟨_,rfl,?_⟩
    have D3:=E3.now
    replace hT:=hT.trans (hb.mono hT.size)
    clear hb E3
    refine hKq.out _ _ (⟨(r3.below hT).cell 0 _ rfl,(r3.below hT).cell 1 _ rfl⟩) (fun hHd1=>?_)
    try simp only [PS]
    refine wpAnyT_ready (rs:=[11,12]) (by kernel_rfl) (by simp) ?_
    refine AllReadyT.cons rfl (fun Kq hKq=>?_) (AllReadyT.cons rfl (fun Kq hKq=>?_) AllReadyT.nil)
    ·refine step_call (by rfl) 5 #[.agg #[.slice a3 N3 c3,.slice a3' M3 c3'],.slice (some ⟨gp,hh*3,none⟩) (K0-hh) (cap-hh),.int .i64 (K0:Int)] (by go_simp) (pf_if _ N3 c3 _ M3 c3' ms mw _ (K0-hh) (cap-hh) (ops.drop hh) (K0:Int) ys yw N4 M4 _ D3 (by have:=ops_drop (oD.below hT) hh;rwa [Nat.zero_add] at this) HL2.out (by omega) (by omega) (HLE.out.drop hh) HX4.out HN4.out HM4.out) ?_
     rintro e y11 ⟨⟨a4,c4,a4',c4',rfl,E4⟩,hb⟩
     refine ⟨_,rfl,?_⟩
     replace hT:=hT.trans (hb.mono hT.size)
     clear hb D3
     refine hKq.out _ _ (⟨(r3.below hT).cell 0 _ rfl,(r3.below hT).cell 1 _ rfl⟩) (fun hHd2=>?_)
     try simp only [PS]
     refine RDT 12 rfl (fun Kq hKq=>?_)
     go_simp
     have hb:=below_nw y11 (.cells #[.slice none 0 0,.slice none 0 0] 26)
     have r8:=row_new y11 #[.slice none 0 0,.slice none 0 0] 26
     obtain ⟨B8,e_B8⟩:∃ k,k=y11.heap.size:=⟨_,rfl⟩
     have hB8:v5.heap.size<=B8:=by rw [e_B8];exact hT.size
     have E4:=(E4.mono (G:=fun b=>b≠B8) (fun b hl _=>by omega)).below hb
     have hT:=hT.trans (hb.mono hT.size)
     rw [<-e_B8] at r8 ⊢
     generalize e_y12:y11.alloc _=y12 at *
     clear e_y12 e_B8 hb
     refine hKq.out _ _ (⟨(r3.below hT).cell 0 _ rfl,(r3.below hT).cell 1 _ rfl⟩) (fun hHd3=>?_)
     try simp only [PS]
     refine wpAnyT_ready (rs:=[13]) (by kernel_rfl) (by simp) ?_
     refine AllReadyT.last rfl (fun Kq hKq=>?_)
     have l0:=r8.cell 0 _ rfl
     have l1:=r8.cell 1 _ rfl
     obtain ⟨l2,l3⟩:=r8.z2
     have l4:=r8.lt
     go_simp
     clear l0 l1 l2 l3 l4
     refine hKq.out _ _ trivial (fun _=>?_)
     try simp only [PS]
     refine wpAnyT_done (by kernel_rfl) ?_ _
     have G:=grown_trans (grown_setC y12 B8 0 (.slice a4 N4 c4)) (grown_setC (y12.setCell ⟨B8,0,none⟩ (.slice a4 N4 c4)) B8 1 (.slice a4' M4 c4'))
     have r9:=(r8.set 0 (by simp) (.slice a4 N4 c4)).set 1 (by simp) (.slice a4' M4 c4')
     have D4:=(E4.grown G (fun x e k=>k (Option.some.inj e).symm)).now
     have hF:=hT.trans (grown_below G hT.size (fun x e=>by have e:=Option.some.inj e;omega))
     go_wp2_with fail
     go_meet
     exact ⟨B8,a4,c4,a4',c4',rfl,hF,r9,D4⟩
    ·go_simp
     have hb:=below_nw y5 (.cells #[.slice none 0 0,.slice none 0 0] 26)
     have r8:=row_new y5 #[.slice none 0 0,.slice none 0 0] 26
     obtain ⟨B8,e_B8⟩:∃ k,k=y5.heap.size:=⟨_,rfl⟩
     have hB8:v5.heap.size<=B8:=by rw [e_B8];exact hT.size
     have D3:=D3.below hb
     have hT:=hT.trans (hb.mono hT.size)
     rw [<-e_B8] at r8 ⊢
     generalize e_y12:y5.alloc _=y12 at *
     clear e_y12 e_B8 hb
     refine hKq.out _ _ (⟨(r3.below hT).cell 0 _ rfl,(r3.below hT).cell 1 _ rfl⟩) (fun hHd5=>?_)
     try simp only [PS]
     refine RDT 11 rfl (fun Kq hKq=>?_)
     refine step_call (by rfl) 5 #[.agg #[.slice a3 N3 c3,.slice a3' M3 c3'],.slice (some ⟨gp,hh*3,none⟩) (K0-hh) (cap-hh),.int .i64 (K0:Int)] (by go_simp) (pf_if _ N3 c3 _ M3 c3' ms mw _ (K0-hh) (cap-hh) (ops.drop hh) (K0:Int) ys yw N4 M4 _ D3 (by have:=ops_drop (oD.below hT) hh;rwa [Nat.zero_add] at this) HL2.out (by omega) (by omega) (HLE.out.drop hh) HX4.out HN4.out HM4.out) ?_
     rintro e y11 ⟨⟨a4,c4,a4',c4',rfl,E4⟩,hb⟩
     refine ⟨_,rfl,?_⟩
     have lb8:=r8.lt
     replace r8:=r8.below hb
     replace E4:=E4.mono (G:=fun b=>b≠B8) (fun b _ k=>by omega)
     replace hT:=hT.trans (hb.mono hT.size)
     clear hb D3
     refine hKq.out _ _ (⟨(r3.below hT).cell 0 _ rfl,(r3.below hT).cell 1 _ rfl⟩) (fun hHd6=>?_)
     try simp only [PS]
     refine wpAnyT_ready (rs:=[13]) (by kernel_rfl) (by simp) ?_
     refine AllReadyT.last rfl (fun Kq hKq=>?_)
     have l0:=r8.cell 0 _ rfl
     have l1:=r8.cell 1 _ rfl
     obtain ⟨l2,l3⟩:=r8.z2
     have l4:=r8.lt
     go_simp
     clear l0 l1 l2 l3 l4
     refine hKq.out _ _ trivial (fun _=>?_)
     try simp only [PS]
     refine wpAnyT_done (by kernel_rfl) ?_ _
     have G:=grown_trans (grown_setC y11 B8 0 (.slice a4 N4 c4)) (grown_setC (y11.setCell ⟨B8,0,none⟩ (.slice a4 N4 c4)) B8 1 (.slice a4' M4 c4'))
     have r9:=(r8.set 0 (by simp) (.slice a4 N4 c4)).set 1 (by simp) (.slice a4' M4 c4')
     have D4:=(E4.grown G (fun x e k=>k (Option.some.inj e).symm)).now
     have hF:=hT.trans (grown_below G hT.size (fun x e=>by have e:=Option.some.inj e;omega))
     go_wp2_with fail
     go_meet
     exact ⟨B8,a4,c4,a4',c4',rfl,hF,r9,D4⟩
   ·obtain ⟨yb,e_yb⟩:∃ y,y=v5.drew:=⟨_,rfl⟩
    rw [<-e_yb]
    have hT:Below v5.heap.size v5 yb:=by rw [e_yb];exact (Below.refl _ _).drew
    clear e_yb
    go_simp
    have hb:=below_nw yb (.cells #[.slice none 0 0,.slice none 0 0] 26)
    have r8:=row_new yb #[.slice none 0 0,.slice none 0 0] 26
    obtain ⟨B8,e_B8⟩:∃ k,k=yb.heap.size:=⟨_,rfl⟩
    have hB8:v5.heap.size<=B8:=by rw [e_B8];exact hT.size
    have hT:=hT.trans (hb.mono hT.size)
    rw [<-e_B8] at r8 ⊢
    generalize e_y12:yb.alloc _=y12 at *
    clear e_y12 e_B8 hb
    refine hKq.out _ _ (⟨(r3.below hT).cell 0 _ rfl,(r3.below hT).cell 1 _ rfl⟩) (fun hHd8=>?_)
    try simp only [PS]
    refine RDT 5 rfl (fun Kq hKq=>?_)
    refine step_call (by rfl) 5 #[.agg #[.slice (some ⟨g,0,none⟩) N0 sc,.slice (some ⟨g',0,none⟩) M0 sc'],.slice (some ⟨gp,0,none⟩) hh cap,.int .i64 (hh:Int)] (by go_simp) (pf_if _ N0 sc _ M0 sc' ss ws _ hh cap (ops.take hh) (hh:Int) ms mw N3 M3 _ (D0.below hT) (ops_take (oD.below hT) hh) HL1.out (by omega) (by omega) (HLE.out.take hh) HX2.out HN3.out HM3.out) ?_
    rintro e y5 ⟨⟨a3,c3,a3',c3',rfl,E3⟩,hb⟩
    refine ⟨_,rfl,?_⟩
    have D3:=E3.now
    replace r8:=r8.below hb
    replace hT:=hT.trans (hb.mono hT.size)
    clear hb E3
    refine hKq.out _ _ (⟨(r3.below hT).cell 0 _ rfl,(r3.below hT).cell 1 _ rfl⟩) (fun hHd9=>?_)
    try simp only [PS]
    refine RDT 11 rfl (fun Kq hKq=>?_)
    refine step_call (by rfl) 5 #[.agg #[.slice a3 N3 c3,.slice a3' M3 c3'],.slice (some ⟨gp,hh*3,none⟩) (K0-hh) (cap-hh),.int .i64 (K0:Int)] (by go_simp) (pf_if _ N3 c3 _ M3 c3' ms mw _ (K0-hh) (cap-hh) (ops.drop hh) (K0:Int) ys yw N4 M4 _ D3 (by have:=ops_drop (oD.below hT) hh;rwa [Nat.zero_add] at this) HL2.out (by omega) (by omega) (HLE.out.drop hh) HX4.out HN4.out HM4.out) ?_
    rintro e y11 ⟨⟨a4,c4,a4',c4',rfl,E4⟩,hb⟩
    refine ⟨_,rfl,?_⟩
    have lb8:=r8.lt
    replace r8:=r8.below hb
    replace E4:=E4.mono (G:=fun b=>b≠B8) (fun b _ k=>by omega)
    replace hT:=hT.trans (hb.mono hT.size)
    clear hb D3
    refine hKq.out _ _ (⟨(r3.below hT).cell 0 _ rfl,(r3.below hT).cell 1 _ rfl⟩) (fun hHd10=>?_)
    try simp only [PS]
    refine wpAnyT_ready (rs:=[13]) (by kernel_rfl) (by simp) ?_
    refine AllReadyT.last rfl (fun Kq hKq=>?_)
    have l0:=r8.cell 0 _ rfl
    have l1:=r8.cell 1 _ rfl
    obtain ⟨l2,l3⟩:=r8.z2
    have l4:=r8.lt
    go_simp
    clear l0 l1 l2 l3 l4
    refine hKq.out _ _ trivial (fun _=>?_)
    try simp only [PS]
    refine wpAnyT_done (by kernel_rfl) ?_ _
    have G:=grown_trans (grown_setC y11 B8 0 (.slice a4 N4 c4)) (grown_setC (y11.setCell ⟨B8,0,none⟩ (.slice a4 N4 c4)) B8 1 (.slice a4' M4 c4'))
    have r9:=(r8.set 0 (by simp) (.slice a4 N4 c4)).set 1 (by simp) (.slice a4' M4 c4')
    have D4:=(E4.grown G (fun x e k=>k (Option.some.inj e).symm)).now
    have hF:=hT.trans (grown_below G hT.size (fun x e=>by have e:=Option.some.inj e;omega))
    go_wp2_with fail
    go_meet
    exact ⟨B8,a4,c4,a4',c4',rfl,hF,r9,D4⟩
end Go.Proofs.Ythdilmkbnpmdaaa
