import Derived.Test.YtcdojnnkjeakmaaGreatDoorPrWdDp
import Derived.Test.YtcdojnnkjeakmaaGreatDoorPrWdDo
import Derived.Test.YtcdojnnkjeakmaaGreatDoorPrWdDl
import Derived.Test.YtcdojnnkjeakmaaGreatDoorPrWdDc
import Derived.Test.YtcdojnnkjeakmaaGreatDoorPrWdDk
import Derived.Test.YtcdojnnkjeakmaaGreatDoorPrWdDt
import Derived.Test.YtcdojnnkjeakmaaGreatDoorPrWdDe
import Derived.Test.YtcdojnnkjeakmaaGreatDoorPrWdM
import Derived.Test.YtcdojnnkjeakmaaGreatDoorPrRiX
set_option maxHeartbeats 16000000
set_option maxRecDepth 8000
set_option linter.unusedVariables false
set_option linter.unusedSimpArgs false
namespace Go.Proofs.YtcdojnnkjeakmaaGreatDoor
open Go.RowKit
theorem zlY (x:Wo) (q:Wp) (e:Ev) (a:Option Addr) (c:Nat) (f:Option Addr) (d:Nat) (F:Nat->Prop) (w:World) (h:WoF x w F q) (ho:x.ok) (h2:Chs w a e.b) (h3:Ints w f e.fs) (he:e.le) :
  Calls Tryz.prog 44 #[Zov x q,vMH e a c f d] w fun r w'=>QRt w w' F r (x.doE e):=by
 by_cases hK:e.K=5
 ·exact QtQ x q e a c f d F w h ho h2 h3 he hK
 obtain ⟨⟨D,u⟩,aA⟩:∃ y,x.call e=y:=⟨_,rfl⟩
 cases u with
 | false=>exact Z64 x q e a c f d F w h ho h2 h3 he hK D false aA (.inl rfl)
 | true =>
  by_cases hC:D.C=0
  ·by_cases aB:2000<(ZmL x e D).length\/200<(evP x e D).length
   ·exact J29 x q e a c f d F w h ho h2 h3 he hK D aA hC aB
   ·by_cases k2:e.K=2
    ·cases hcb:ZJ5 e D
     ·exact ZqV x q e a c f d F w h ho h2 h3 he hK D aA hC aB hcb k2
     ·exact xXR x q e a c f d F w h ho h2 h3 he hK D aA hC aB hcb k2
    ·cases hcb:ZJ5 e D
     ·exact QcI x q e a c f d F w h ho h2 h3 he hK D aA hC aB hcb k2
     ·exact QHG x q e a c f d F w h ho h2 h3 he hK D aA hC aB hcb k2
  ·exact Z64 x q e a c f d F w h ho h2 h3 he hK D true aA (.inr hC)
end Go.Proofs.YtcdojnnkjeakmaaGreatDoor
namespace Go.Proofs.YtcdojnnkjeakmaaGreatDoor
open Go.RowKit Go.Proofs.YtcdojnnkjeakmaaGreatDoor.nw
theorem xLV {n wd:Int} (hn:8<=n/\n<=200):(yNz n wd).good n.toNat:=by
 have hl:(newSS n).length=n.toNat:=by unfold newSS;rw [if_pos hn,List.length_replicate]
 refine ⟨js8 hn,?_,hl,fun k=>by cases k⟩
 show vlG (newSS n) []=true;unfold newSS;rw [if_pos hn];exact Zof (by rw [List.length_replicate];simp;omega) (fun s hs=>by rw [List.eq_of_mem_replicate hs];decide) (fun x hx=>by cases hx)
def j1k (w w':World) (r:Ending):Prop:=∃ (x:Wo) (q:Wp) (N:Nat),r=.returned (Zov x q)/\x.good N/\(8<=N/\N<=40)/\(1<=x.w/\x.w<=8)/\WoF x w' (fun b=>w.heap.size<=b) q
theorem zju (x:Wo) (e:Ev):(x.doE e).w=x.w:=by
 unfold Wo.doE
 repeat' split
 all_goals rfl
def vjw:Ev:=⟨1,[],-1,[]⟩
theorem vRC:vjw.le:=⟨⟨by simp [vjw],fun x hx=>by cases hx⟩,by simp [vjw],by simp [vjw]⟩
theorem qT7 (x:Wo) (q:Wp) (F:Nat->Prop) (w:World) (h:WoF x w F q) (ho:x.ok):Calls Tryz.prog 44 #[Zov x q,.agg #[.int .i64 1,.slice none 0 0,.int .i64 (-1),.slice none 0 0]] w fun r w'=>QRt w w' F r (x.doE vjw) :=
 zlY x q vjw none 0 none 0 F w h ho (.inl rfl) (.inl rfl) vRC
end Go.Proofs.YtcdojnnkjeakmaaGreatDoor
namespace Go.Proofs.YtcdojnnkjeakmaaGreatDoor
open Go.RowKit Go.Proofs.YtcdojnnkjeakmaaGreatDoor.nw
theorem k5E (o:Option (Int×Int×Int×ByteArray)):∃ k l m p ok,rpV o=.tuple #[QAw k l m p,.bool ok]:=by
 rcases o with _ | ⟨k,l,m,p⟩
 ·exact ⟨_,_,_,_,_,rfl⟩
 ·exact ⟨_,_,_,_,_,rfl⟩
theorem xfG {x:Wo} (h:x.up=true\/x.S<=0) (e:Ev):(x.doE e).up=true\/(x.doE e).S<=0:=by
 unfold Wo.doE
 repeat' split
 all_goals first | exact h | exact .inl rfl | exact .inr (Int.le_refl 0)
structure FgS (w wx:World) (R:Nat) (a:Option Addr) (n c:Nat) (p:Int) (B:Nat) (x:Wo) (q:Wp):Prop where
 rd:Rdr wx R a n c p
 gr:w.grownBy wx (some R)
 lR:R<w.heap.size
 ga:∀ g o,a=some ⟨g,o,none⟩->0<n->g<w.heap.size
 r2:Row wx w.heap.size [.int .i64 0,.slice none 0 0,.slice none 0 0,.bool false,.int .i64 0,.int .i64 0,.int .i64 0,.int .i64 0,.int .i64 0,.int .i64 0,.int .i64 0,.int .i64 0,.int .i64 0,.slice none 0 0,.slice none 0 0,.slice none 0 0]
 r3:Row wx B (wL x q)
 lB:w.heap.size+1<=B
 wo:WoF x wx (fun b=>w.heap.size+1<=b/\b≠B) q
section
variable {w wx wy:World} {R:Nat} {a:Option Addr} {n c:Nat} {p p':Int} {B:Nat} {x:Wo} {q:Wp}
theorem FgS.below (h:FgS w wx R a n c p B x q) (hb:Below wx.heap.size wx wy):FgS w wy R a n c p B x q :=
 ⟨h.rd.below hb,ZpU h.gr (Qbp _ hb),h.lR,h.ga,h.r2.below hb,h.r3.below hb,h.lB,h.wo.below hb⟩
theorem FgS.pick (h:FgS w wx R a n c p B x q) (hr:Rdr wy R a n c p') (hg:wx.grownBy wy (some R)):FgS w wy R a n c p' B x q:=by
 have h1:=h.lR;have h2:=h.lB;exact ⟨hr,ZpU h.gr hg,h.lR,h.ga,h.r2.grown hg (fun e=>by injection e with e;omega),h.r3.grown hg (fun e=>by injection e with e;omega),h.lB,h.wo.grown hg (fun g e k=>by injection e with e;have:=k.1;omega)⟩
theorem FgS.fin (h:FgS w wx R a n c p B x q) (vs:List Value) (hl:vs.length=16) {y:Wo} {q':Wp} (hy:WoF y wx (fun b=>w.heap.size+1<=b) q') :
  Row (wx.setCells w.heap.size 0 vs) w.heap.size vs/\Rdr (wx.setCells w.heap.size 0 vs) R a n c p/\w.grownBy (wx.setCells w.heap.size 0 vs) (some R)/\WoF y (wx.setCells w.heap.size 0 vs) (fun b=>w.heap.size<=b) q':=by
 have G:=Qvn wx w.heap.size 0 vs;have hb:Below w.heap.size wx (wx.setCells w.heap.size 0 vs):=jJX G h.gr.size (fun g e=>by cases e;exact Nat.le_refl _);have g0:=h.gr;exact ⟨h.r2.sets vs hl,h.rd.keep (N:=w.heap.size) h.lR h.ga hb,⟨hb.os.trans g0.os,hb.tape.trans g0.tape,hb.output.trans g0.output,Nat.le_trans g0.size hb.size,fun i hi hr=>(hb.block i hi).trans (g0.block i hi hr)⟩,(hy.grown G (fun g e k=>by cases e;omega)).mono (fun b _ k=>by omega)⟩
theorem FgS.put (h:FgS w wx R a n c p B x q) {y:Wo} {q':Wp} (hy:WoF y wx (fun b=>w.heap.size+1<=b/\b≠B) q'):FgS w (wx.setCells B 0 (wL y q')) R a n c p B y q':=by
 have h2:=h.lB;have G:=Qvn wx B 0 (wL y q');have hb:Below w.heap.size wx (wx.setCells B 0 (wL y q')):=jJX G h.gr.size (fun g e=>by cases e;omega);have g0:=h.gr;exact ⟨h.rd.keep (N:=w.heap.size) h.lR h.ga hb,⟨hb.os.trans g0.os,hb.tape.trans g0.tape,hb.output.trans g0.output,Nat.le_trans g0.size hb.size,fun i hi hr=>(hb.block i hi).trans (g0.block i hi hr)⟩,h.lR,h.ga,h.r2.grown G (fun e=>by injection e with e;omega),h.r3.sets (wL y q') rfl,h.lB,hy.grown G (fun g e k=>by cases e;exact k.2 rfl)⟩
def FgL (w:World) (R:Nat) (a:Option Addr) (n c:Nat) (p:Int) (B:Nat) (x:Wo) (q:Wp) (iv:Value) (wr:World):Prop:=∃ i:Nat,i<=60/\iv=.int .i64 (i:Int)/\FgS w wr R a n c (p+i) B x q
end
structure FgJ (w wx:World) (R:Nat) (a:Option Addr) (n c:Nat) (p:Int) (B:Nat) (x:Wo) (q:Wp) (X:Nat) (D:Dd) (oa:Option Addr) (oc:Nat) (ob:Option Addr) (oe:Nat) (bb:Nat) (b:List Ch):Prop where
 s:FgS w wx R a n c p B x q
 r:Row wx X [.int .i64 D.C,.int .i64 D.W,.int .i64 D.S,.int .i64 D.L,.int .i64 D.T,.int .i64 D.H,.int .i64 D.F,.int .i64 D.R,.int .i64 D.U,.int .i64 D.O,.slice oa D.rs.length oc,.slice ob D.ops.length oe]
 o:Ops wx ob D.ops
 b:Chs wx (some ⟨bb,0,none⟩) b
theorem FgJ.below {w wx wy:World} {R:Nat} {a:Option Addr} {n c:Nat} {p:Int} {B:Nat} {x:Wo} {q:Wp} {X:Nat} {D:Dd} {oa:Option Addr} {oc:Nat} {ob:Option Addr} {oe:Nat} {bb:Nat} {b:List Ch} (h:FgJ w wx R a n c p B x q X D oa oc ob oe bb b) (hb:Below wx.heap.size wx wy):FgJ w wy R a n c p B x q X D oa oc ob oe bb b :=
 ⟨h.s.below hb,h.r.below hb,h.o.below hb,h.b.below hb⟩
def FgK (w:World) (R:Nat) (a:Option Addr) (n c:Nat) (p:Int) (B:Nat) (x:Wo) (q:Wp) (X:Nat) (D:Dd) (oa:Option Addr) (oc:Nat) (ob:Option Addr) (oe:Nat) (bb:Nat) (b:List Ch) (kv:Value) (wr:World):Prop:=∃ k:Nat,10<=k/\k<=60/\kv=.int .i64 (k:Int)/\FgJ w wr R a n c p B x q X D oa oc ob oe bb b
end Go.Proofs.YtcdojnnkjeakmaaGreatDoor
