import Derived.Test.YtehbpeinnepdcaaGreatDoorPrWoG
import Derived.Test.YtehbpeinnepdcaaGreatDoorPrWdDp
import Derived.Test.YtehbpeinnepdcaaGreatDoorPrWdDo
import Derived.Test.YtehbpeinnepdcaaGreatDoorPrWdDl
import Derived.Test.YtehbpeinnepdcaaGreatDoorPrWdDc
import Derived.Test.YtehbpeinnepdcaaGreatDoorPrWdDk
import Derived.Test.YtehbpeinnepdcaaGreatDoorPrWdDt
import Derived.Test.YtehbpeinnepdcaaGreatDoorPrWdDe
import Derived.Test.YtehbpeinnepdcaaGreatDoorPrWdM
import Derived.Test.YtehbpeinnepdcaaGreatDoorPrRiX
import Derived.Test.YtehbpeinnepdcaaGreatDoorPrWdC
import Derived.Test.YtehbpeinnepdcaaGreatDoorPrSpB
set_option maxHeartbeats 32000000
set_option maxRecDepth 8000
set_option linter.unusedVariables false
set_option linter.unusedSimpArgs false
namespace Go.Proofs.YtehbpeinnepdcaaGreatDoor
open Go.RowKit
def JXu (w w':World) (r:Ending):Prop:=∃ (x:Wo) (q:Wp),r=.returned (Zov x q)/\WoF x w' (fun b=>w.heap.size<=b) q/\x.le 200000/\x.rs.length<=q.cs/\x.ts.length<=q.ct
theorem qFM (n:Int) (ss:List ByteArray) (i:Nat) (hi:i<ss.length):fgL n [] (ss.drop i)=if (Jvc (ss.getD i ByteArray.empty) n).isSome=true then ss.getD i ByteArray.empty else fgL n [] (ss.drop (i+1)):=by
 have e:ss.drop i=ss.getD i ByteArray.empty::ss.drop (i+1):=by
  rw [List.drop_eq_getElem_cons hi];simp [List.getD,hi]
 rw [e]
 cases h:(Jvc (ss.getD i ByteArray.empty) n).isSome with
 | true=>rw [if_pos rfl];exact x0q (by unfold Jlr;rw [h];rfl)
 | false=>rw [if_neg (by simp)];exact J6b (by unfold Jlr;rw [h];rfl)
def Wo.fg (x:Wo):Wo:={ x with ts:=[] }
theorem vVS {x:Wo} (h:XLO x=true):XLO x.fg=true:=by
 unfold XLO at h ⊢;simp only [Bool.and_eq_true] at h ⊢;exact ⟨h.1,h.2.1,h.2.2.1,h.2.2.2.1,by show qCR []=true;decide⟩
theorem JTs {x:Wo} (h:XLO x=true):qV3 x.fg=fgL x.w [] x.ss:=by
 unfold qV3;rw [if_pos (vVS h)];rfl
theorem zgU {x:Wo} {m:Nat} (h:x.le m):x.fg.le m:=⟨h.l1,h.s1,h.l2,h.s2,h.l3,h.s3,h.l4,h.s4,Nat.zero_le _,fun s hs=>by cases hs⟩
theorem kvJ {x:Wo} {w:World} {q:Wp} (h:x.at w q) (t:Option Addr) (c:Nat):x.fg.at w { q with t:=t,ct:=c }:=⟨h.h1,h.h2,h.h3,h.h4,.inl rfl⟩
theorem qLr {x:Wo} {m m':Nat} (h:x.le m) (k:m<=m'):x.le m' :=
 ⟨by have:=h.l1;omega,fun s hs=>by have:=h.s1 s hs;omega,by have:=h.l2;omega,fun s hs=>by have:=h.s2 s hs;omega,by have:=h.l3;omega,fun s hs=>by have:=h.s3 s hs;omega,by have:=h.l4;omega,fun r hr=>⟨by have:=(h.s4 r hr).1;omega,fun s hs=>by have:=(h.s4 r hr).2 s hs;omega⟩,by have:=h.l5;omega,fun s hs=>by have:=h.s5 s hs;omega⟩
theorem xvR (o:Option (Int×Int×Int×ByteArray)):∃ k l m p ok,rpV o=.tuple #[QAw k l m p,.bool ok]/\Hid (o.isSome=ok):=by
 rcases o with _ | ⟨k,l,m,p⟩
 ·exact ⟨_,_,_,_,_,rfl,hid rfl⟩
 ·exact ⟨_,_,_,_,_,rfl,hid rfl⟩
def FfR (v0:World) (n:Int) (ss:List ByteArray) (fv iv:Value) (wr:World):Prop:=∃ i:Nat,i<=ss.length/\iv=.int .i64 ((i:Int)-1)/\fv=.string (fgL n [] (ss.drop i))/\Below v0.heap.size v0 wr
theorem zlY (x:Wo) (q:Wp) (e:Ev) (a:Option Addr) (c:Nat) (f:Option Addr) (d:Nat) (F:Nat->Prop) (w:World) (h:WoF x w F q) (ho:x.ok) (h2:Chs w a e.b) (h3:Ints w f e.fs) (he:e.le) :
  Calls Tryz.prog 45 #[Zov x q,vMH e a c f d] w fun r w'=>QRt w w' F r (x.doE e):=by
 by_cases hK:e.K=5
 ·exact QtQ x q e a c f d F w h ho h2 h3 he hK
 obtain ⟨⟨D,u⟩,aA⟩:∃ y,x.call e=y:=⟨_,rfl⟩
 cases u with
 | false=>exact Z64 x q e a c f d F w h ho h2 h3 he hK D false aA (.inl rfl)
 | true =>
  by_cases hC:D.C=0
  ·by_cases aB:2000<(ZmL x e D).length\/200<(evP x e D).length
   ·exact J29 x q e a c f d F w h ho h2 h3 he hK D aA hC aB
   ·by_cases k2:e.K=2
    ·cases hcb:ZJ5 e D
     ·exact ZqV x q e a c f d F w h ho h2 h3 he hK D aA hC aB hcb k2
     ·exact xXR x q e a c f d F w h ho h2 h3 he hK D aA hC aB hcb k2
    ·cases hcb:ZJ5 e D
     ·exact QcI x q e a c f d F w h ho h2 h3 he hK D aA hC aB hcb k2
     ·exact QHG x q e a c f d F w h ho h2 h3 he hK D aA hC aB hcb k2
  ·exact Z64 x q e a c f d F w h ho h2 h3 he hK D true aA (.inr hC)
end Go.Proofs.YtehbpeinnepdcaaGreatDoor
namespace Go.Proofs.YtehbpeinnepdcaaGreatDoor
open Go.RowKit Go.Proofs.YtehbpeinnepdcaaGreatDoor.nw
theorem xLV {n wd:Int} (hn:8<=n/\n<=200):(yNz n wd).good n.toNat:=by
 have hl:(newSS n).length=n.toNat:=by unfold newSS;rw [if_pos hn,List.length_replicate]
 refine ⟨js8 hn,?_,hl,fun k=>by cases k⟩
 show vlG (newSS n) []=true;unfold newSS;rw [if_pos hn];exact Zof (by rw [List.length_replicate];simp;omega) (fun s hs=>by rw [List.eq_of_mem_replicate hs];decide) (fun x hx=>by cases hx)
def j1k (w w':World) (r:Ending):Prop:=∃ (x:Wo) (q:Wp) (N:Nat),r=.returned (Zov x q)/\x.good N/\(8<=N/\N<=40)/\(1<=x.w/\x.w<=8)/\WoF x w' (fun b=>w.heap.size<=b) q
theorem zju (x:Wo) (e:Ev):(x.doE e).w=x.w:=by
 unfold Wo.doE
 repeat' split
 all_goals rfl
def vjw:Ev:=⟨1,[],-1,[]⟩
theorem vRC:vjw.le:=⟨⟨by simp [vjw],fun x hx=>by cases hx⟩,by simp [vjw],by simp [vjw]⟩
theorem qT7 (x:Wo) (q:Wp) (F:Nat->Prop) (w:World) (h:WoF x w F q) (ho:x.ok):Calls Tryz.prog 45 #[Zov x q,.agg #[.int .i64 1,.slice none 0 0,.int .i64 (-1),.slice none 0 0]] w fun r w'=>QRt w w' F r (x.doE vjw) :=
 zlY x q vjw none 0 none 0 F w h ho (.inl rfl) (.inl rfl) vRC
end Go.Proofs.YtehbpeinnepdcaaGreatDoor
namespace Go.Proofs.YtehbpeinnepdcaaGreatDoor
open Go.RowKit Go.Proofs.YtehbpeinnepdcaaGreatDoor.nw
theorem k5E (o:Option (Int×Int×Int×ByteArray)):∃ k l m p ok,rpV o=.tuple #[QAw k l m p,.bool ok]:=by
 rcases o with _ | ⟨k,l,m,p⟩
 ·exact ⟨_,_,_,_,_,rfl⟩
 ·exact ⟨_,_,_,_,_,rfl⟩
theorem xfG {x:Wo} (h:x.up=true\/x.S<=0) (e:Ev):(x.doE e).up=true\/(x.doE e).S<=0:=by
 unfold Wo.doE
 repeat' split
 all_goals first | exact h | exact .inl rfl | exact .inr (Int.le_refl 0)
structure FgS (w wx:World) (R:Nat) (a:Option Addr) (n c:Nat) (p:Int) (B:Nat) (x:Wo) (q:Wp):Prop where
 rd:Rdr wx R a n c p
 gr:w.grownBy wx (some R)
 lR:R<w.heap.size
 ga:∀ g o,a=some ⟨g,o,none⟩->0<n->g<w.heap.size
 r2:Row wx w.heap.size [.int .i64 0,.slice none 0 0,.slice none 0 0,.bool false,.int .i64 0,.int .i64 0,.int .i64 0,.int .i64 0,.int .i64 0,.int .i64 0,.int .i64 0,.int .i64 0,.int .i64 0,.slice none 0 0,.slice none 0 0,.slice none 0 0]
 r3:Row wx B (wL x q)
 lB:w.heap.size+1<=B
 wo:WoF x wx (fun b=>w.heap.size+1<=b/\b≠B) q
section
variable {w wx wy:World} {R:Nat} {a:Option Addr} {n c:Nat} {p p':Int} {B:Nat} {x:Wo} {q:Wp}
theorem FgS.below (h:FgS w wx R a n c p B x q) (hb:Below wx.heap.size wx wy):FgS w wy R a n c p B x q :=
 ⟨h.rd.below hb,ZpU h.gr (Qbp _ hb),h.lR,h.ga,h.r2.below hb,h.r3.below hb,h.lB,h.wo.below hb⟩
theorem FgS.pick (h:FgS w wx R a n c p B x q) (hr:Rdr wy R a n c p') (hg:wx.grownBy wy (some R)):FgS w wy R a n c p' B x q:=by
 have h1:=h.lR;have h2:=h.lB;exact ⟨hr,ZpU h.gr hg,h.lR,h.ga,h.r2.grown hg (fun e=>by injection e with e;omega),h.r3.grown hg (fun e=>by injection e with e;omega),h.lB,h.wo.grown hg (fun g e k=>by injection e with e;have:=k.1;omega)⟩
theorem FgS.fin (h:FgS w wx R a n c p B x q) (vs:List Value) (hl:vs.length=16) {y:Wo} {q':Wp} (hy:WoF y wx (fun b=>w.heap.size+1<=b) q') :
  Row (wx.setCells w.heap.size 0 vs) w.heap.size vs/\Rdr (wx.setCells w.heap.size 0 vs) R a n c p/\w.grownBy (wx.setCells w.heap.size 0 vs) (some R)/\WoF y (wx.setCells w.heap.size 0 vs) (fun b=>w.heap.size<=b) q':=by
 have G:=Qvn wx w.heap.size 0 vs;have hb:Below w.heap.size wx (wx.setCells w.heap.size 0 vs):=jJX G h.gr.size (fun g e=>by cases e;exact Nat.le_refl _);have g0:=h.gr;exact ⟨h.r2.sets vs hl,h.rd.keep (N:=w.heap.size) h.lR h.ga hb,⟨hb.os.trans g0.os,hb.tape.trans g0.tape,hb.output.trans g0.output,Nat.le_trans g0.size hb.size,fun i hi hr=>(hb.block i hi).trans (g0.block i hi hr)⟩,(hy.grown G (fun g e k=>by cases e;omega)).mono (fun b _ k=>by omega)⟩
theorem FgS.put (h:FgS w wx R a n c p B x q) {y:Wo} {q':Wp} (hy:WoF y wx (fun b=>w.heap.size+1<=b/\b≠B) q'):FgS w (wx.setCells B 0 (wL y q')) R a n c p B y q':=by
 have h2:=h.lB;have G:=Qvn wx B 0 (wL y q');have hb:Below w.heap.size wx (wx.setCells B 0 (wL y q')):=jJX G h.gr.size (fun g e=>by cases e;omega);have g0:=h.gr;exact ⟨h.rd.keep (N:=w.heap.size) h.lR h.ga hb,⟨hb.os.trans g0.os,hb.tape.trans g0.tape,hb.output.trans g0.output,Nat.le_trans g0.size hb.size,fun i hi hr=>(hb.block i hi).trans (g0.block i hi hr)⟩,h.lR,h.ga,h.r2.grown G (fun e=>by injection e with e;omega),h.r3.sets (wL y q') rfl,h.lB,hy.grown G (fun g e k=>by cases e;exact k.2 rfl)⟩
def FgL (w:World) (R:Nat) (a:Option Addr) (n c:Nat) (p:Int) (B:Nat) (x:Wo) (q:Wp) (iv:Value) (wr:World):Prop:=∃ i:Nat,i<=60/\iv=.int .i64 (i:Int)/\FgS w wr R a n c (p+i) B x q
end
structure FgJ (w wx:World) (R:Nat) (a:Option Addr) (n c:Nat) (p:Int) (B:Nat) (x:Wo) (q:Wp) (X:Nat) (D:Dd) (oa:Option Addr) (oc:Nat) (ob:Option Addr) (oe:Nat) (bb:Nat) (b:List Ch):Prop where
 s:FgS w wx R a n c p B x q
 r:Row wx X [.int .i64 D.C,.int .i64 D.W,.int .i64 D.S,.int .i64 D.L,.int .i64 D.T,.int .i64 D.H,.int .i64 D.F,.int .i64 D.R,.int .i64 D.U,.int .i64 D.O,.slice oa D.rs.length oc,.slice ob D.ops.length oe]
 o:Ops wx ob D.ops
 b:Chs wx (some ⟨bb,0,none⟩) b
theorem FgJ.below {w wx wy:World} {R:Nat} {a:Option Addr} {n c:Nat} {p:Int} {B:Nat} {x:Wo} {q:Wp} {X:Nat} {D:Dd} {oa:Option Addr} {oc:Nat} {ob:Option Addr} {oe:Nat} {bb:Nat} {b:List Ch} (h:FgJ w wx R a n c p B x q X D oa oc ob oe bb b) (hb:Below wx.heap.size wx wy):FgJ w wy R a n c p B x q X D oa oc ob oe bb b :=
 ⟨h.s.below hb,h.r.below hb,h.o.below hb,h.b.below hb⟩
def FgK (w:World) (R:Nat) (a:Option Addr) (n c:Nat) (p:Int) (B:Nat) (x:Wo) (q:Wp) (X:Nat) (D:Dd) (oa:Option Addr) (oc:Nat) (ob:Option Addr) (oe:Nat) (bb:Nat) (b:List Ch) (kv:Value) (wr:World):Prop:=∃ k:Nat,10<=k/\k<=60/\kv=.int .i64 (k:Int)/\FgJ w wr R a n c p B x q X D oa oc ob oe bb b
end Go.Proofs.YtehbpeinnepdcaaGreatDoor
namespace Go.Proofs.YtehbpeinnepdcaaGreatDoor
open Go.RowKit
section
theorem vng {w:World} {B:Nat} {e:TypeId} {k:Nat} {a:Option Addr} {m c:Nat} {cs:List Value} (h:w.ownsRow B e k (.slice a m c) m cs):m<=c:=by
 rcases h.2 with ⟨h1,h2⟩ | ⟨g2,cap,aA,h1,h2,h3,h4⟩
 ·rw [h2];exact Nat.zero_le _
 ·cases h1;exact h4.1
@[reducible] def wcp (x:Wo) (q:Wp) (Y Z:Value):List Value:=[.int .i64 x.w,.slice q.a x.ss.length q.c,.slice q.a' x.ws.length q.c',.bool x.up,.int .i64 x.W,.int .i64 x.S,.int .i64 x.L,.int .i64 x.T,.int .i64 x.H,.int .i64 x.F,.int .i64 x.R,.int .i64 x.U,.int .i64 x.O,.slice q.s x.rs.length q.cs,Y,Z]
@[reducible] def wcs (x:Wo) (q:Wp):List Value:=wcp x q (.slice q.p x.P.length q.cp) (.slice q.t x.ts.length q.ct)
structure WsB (w v:World) (R:Nat) (a:Option Addr) (n c:Nat) (p:Int) (B:Nat) (cs:List Value):Prop where
 rd:Rdr v R a n c p
 gr:w.grownBy v (some R)
 lR:R<w.heap.size
 ga:∀ g o,a=some ⟨g,o,none⟩->0<n->g<w.heap.size
 r2:Row v w.heap.size [.int .i64 0,.slice none 0 0,.slice none 0 0,.bool false,.int .i64 0,.int .i64 0,.int .i64 0,.int .i64 0,.int .i64 0,.int .i64 0,.int .i64 0,.int .i64 0,.int .i64 0,.slice none 0 0,.slice none 0 0,.slice none 0 0]
 r3:Row v B cs
 lB:w.heap.size+1<=B
section
variable {w v v':World} {R:Nat} {a:Option Addr} {n c:Nat} {p p':Int} {B:Nat} {cs:List Value}
theorem WsB.below (h:WsB w v R a n c p B cs) (hb:Below v.heap.size v v'):WsB w v' R a n c p B cs :=
 ⟨h.rd.below hb,ZpU h.gr (Qbp _ hb),h.lR,h.ga,h.r2.below hb,h.r3.below hb,h.lB⟩
theorem WsB.pick (h:WsB w v R a n c p B cs) (hr:Rdr v' R a n c p') (hg:v.grownBy v' (some R)):WsB w v' R a n c p' B cs:=by
 have h1:=h.lR;have h2:=h.lB;exact ⟨hr,ZpU h.gr hg,h.lR,h.ga,h.r2.grown hg (fun e=>by injection e with e;omega),h.r3.grown hg (fun e=>by injection e with e;omega),h.lB⟩
theorem WsB.grown {r:Option Nat} (h:WsB w v R a n c p B cs) (hg:v.grownBy v' r) (hr:∀ g,r=some g->w.heap.size+1<=g/\g≠B):WsB w v' R a n c p B cs:=by
 have h2:=h.lB;obtain ⟨q1,q2⟩:=js2 h.rd h.gr h.lR h.ga (jJX hg h.gr.size (fun x e=>by have:=hr x e;omega));exact ⟨q1,q2,h.lR,h.ga,h.r2.grown hg (fun e=>by have:=hr _ e.symm;omega),h.r3.grown hg (fun e=>by have:=hr _ e.symm;omega),h.lB⟩
theorem WsB.put {aA:List Value} (h:WsB w v R a n c p B cs) (hg:v.grownBy v' (some B)) (hr:Row v' B aA):WsB w v' R a n c p B aA:=by
 have h2:=h.lB;obtain ⟨q1,q2⟩:=js2 h.rd h.gr h.lR h.ga (jJX hg h.gr.size (fun x e=>by have e:=Option.some.inj e;omega));exact ⟨q1,q2,h.lR,h.ga,h.r2.grown hg (fun e=>by injection e with e;omega),hr,h.lB⟩
theorem WsB.set (h:WsB w v R a n c p B cs) (i:Nat) (hi:i<cs.length) (u:Value):WsB w (v.setCell ⟨B,i,none⟩ u) R a n c p B (cs.set i u) :=
 h.put (XGx v B i u) (h.r3.set i hi u)
theorem WsB.fin (h:WsB w v R a n c p B cs) (vs:List Value) (hl:vs.length=16):Row (v.setCells w.heap.size 0 vs) w.heap.size vs/\Rdr (v.setCells w.heap.size 0 vs) R a n c p/\w.grownBy (v.setCells w.heap.size 0 vs) (some R)/\v.grownBy (v.setCells w.heap.size 0 vs) (some w.heap.size):=by
 have G:=Qvn v w.heap.size 0 vs;obtain ⟨q1,q2⟩:=js2 h.rd h.gr h.lR h.ga (jJX G h.gr.size (fun x e=>by have e:=Option.some.inj e;omega));exact ⟨h.r2.sets vs hl,q1,q2,G⟩
end
structure WsW (w v:World) (R:Nat) (a:Option Addr) (n c:Nat) (p:Int) (B:Nat) (y:Wo) (q:Wp):Prop where
 b:WsB w v R a n c p B (wcs y q)
 f:WoF y v (fun b=>w.heap.size+1<=b/\b≠B) q
 m:y.le 200000
 cs:y.rs.length<=q.cs
 ct:y.ts.length<=q.ct
def WsE (w:World) (R:Nat) (a:Option Addr) (n c:Nat) (p d:Int) (B:Nat) (wx:World):Prop:=∃ (y:Wo) (q:Wp) (pp:Int),p<=pp/\pp<=p+d/\WsW w wx R a n c pp B y q
section
variable {w v v':World} {R:Nat} {a:Option Addr} {n c:Nat} {p p':Int} {B:Nat} {y:Wo} {q:Wp}
theorem WsW.below (h:WsW w v R a n c p B y q) (hb:Below v.heap.size v v'):WsW w v' R a n c p B y q:=⟨h.b.below hb,h.f.below hb,h.m,h.cs,h.ct⟩
theorem WsW.pick (h:WsW w v R a n c p B y q) (hr:Rdr v' R a n c p') (hg:v.grownBy v' (some R)):WsW w v' R a n c p' B y q :=
 ⟨h.b.pick hr hg,h.f.grown hg (fun g e k=>by cases e;have:=h.b.lR;have:=k.1;omega),h.m,h.cs,h.ct⟩
theorem WsW.put {y':Wo} {q':Wp} (h:WsW w v R a n c p B y q) (hg:v.grownBy v' (some B)) (hr:Row v' B (wcs y' q')) (hf:WoF y' v (fun b=>w.heap.size+1<=b/\b≠B) q') (hm:y'.le 200000) (hs:y'.rs.length<=q'.cs) (ht:y'.ts.length<=q'.ct):WsW w v' R a n c p B y' q' :=
 ⟨h.b.put hg hr,hf.grown hg (fun g e k=>by cases e;exact k.2 rfl),hm,hs,ht⟩
theorem WsW.end (h:WsW w v R a n c p B y q) (v1:World) (e:v1=v.setCells w.heap.size 0 (wcs y q)):Row v1 w.heap.size (wcs y q)/\Rdr v1 R a n c p/\w.grownBy v1 (some R)/\WoF y v1 (fun b=>w.heap.size<=b) q:=by
 subst e;obtain ⟨h1,h2,h3,h4⟩:=h.b.fin (wcs y q) rfl;exact ⟨h1,h2,h3,(h.f.grown h4 (fun g e k=>by cases e;omega)).mono (fun b _ k=>by omega)⟩
end
section
variable {W w w':World} {G:Nat->Prop} {v:Value} {P:List (List Pr)} {j:Nat} {news:List Value}
theorem PcS.grownX {X:Nat} (h:PcS W w G v P j news) (hg:w.grownBy w' (some X)) (h1:¬ G X) (h2:v.ownBlock≠some X):PcS W w' G v P j news:=by
 refine ⟨h.own.kept hg (.inr h2),h.len,fun b k=>⟨(h.low b k).1,Nat.lt_of_lt_of_le (h.low b k).2 hg.size⟩,h.out,fun k hk=>?_⟩;obtain ⟨p,c,k1,k2⟩:=h.ech k hk;exact ⟨p,c,k1,k2.grown hg (fun g e=>by cases e;exact h1)⟩
theorem PcS.more (h:PcS W w G v P P.length news) (rs:List Pr):PcS W w G v (P++[rs]) P.length news :=
 ⟨h.own,h.len,h.low,h.out,fun i hi=>by
  obtain ⟨p,c,k1,k2⟩:=h.ech i hi;have e:(P++[rs]).getD i []=P.getD i []:=by simp [List.getD,List.getElem?_append_left hi]
  rw [e];exact ⟨p,c,k1,k2⟩⟩
end
structure WsP (W w v:World) (R:Nat) (a:Option Addr) (n c:Nat) (p:Int) (B:Nat) (x:Wo) (q:Wp) (G:Nat->Prop) (Y:Value) (P:List (List Pr)) (news:List Value):Prop where
 b:WsB w v R a n c p B (wcp x q Y (.slice q.t x.ts.length q.ct))
 s:PcS W v G Y P P.length news
 r:DepF v G (fun U=>Strs U q.a x.ss/\Wrs U q.a' x.ws/\Prs U q.s x.rs/\Strs U q.t x.ts)
 nB:¬ G B/\Y.ownBlock≠some B
 lW:w.heap.size+1<=W.heap.size
 m:Wo.le { x with P:=P } 200000
 k:x.rs.length<=q.cs/\x.ts.length<=q.ct
structure WsT (W w v:World) (R:Nat) (a:Option Addr) (n c:Nat) (p:Int) (B:Nat) (x:Wo) (q:Wp) (G:Nat->Prop) (Y:Value) (ts:List ByteArray):Prop where
 b:WsB w v R a n c p B (wcp x q (.slice q.p x.P.length q.cp) Y)
 o:v.ownsRow W.heap.size 9 1 Y ts.length (ts.map Value.string)
 low:∀ b,G b->W.heap.size<=b/\b<v.heap.size
 out:∀ b,Y.ownBlock=some b->¬ G b
 r:DepF v G (fun U=>Strs U q.a x.ss/\Wrs U q.a' x.ws/\Prs U q.s x.rs)
 s:PstF v G q.p x.P
 nB:¬ G B/\Y.ownBlock≠some B
 lW:w.heap.size+1<=W.heap.size
 m:Wo.le { x with ts:=ts } 200000
 k:x.rs.length<=q.cs
section
variable {W w v v':World} {R:Nat} {a:Option Addr} {n c:Nat} {p p':Int} {B:Nat} {x:Wo} {q:Wp} {G:Nat->Prop} {Y:Value} {P:List (List Pr)} {news:List Value} {ts:List ByteArray}
theorem WsP.below (h:WsP W w v R a n c p B x q G Y P news) (hb:Below v.heap.size v v'):WsP W w v' R a n c p B x q G Y P news:=⟨h.b.below hb,h.s.below hb,h.r.below hb,h.nB,h.lW,h.m,h.k⟩
theorem WsT.below (h:WsT W w v R a n c p B x q G Y ts) (hb:Below v.heap.size v v'):WsT W w v' R a n c p B x q G Y ts:=⟨h.b.below hb,jcb h.o hb,fun b k=>⟨(h.low b k).1,Nat.lt_of_lt_of_le (h.low b k).2 hb.size⟩,h.out,h.r.below hb,h.s.below hb,h.nB,h.lW,h.m,h.k⟩
theorem WsP.pick (h:WsP W w v R a n c p B x q G Y P news) (hr:Rdr v' R a n c p') (hg:v.grownBy v' (some R)):WsP W w v' R a n c p' B x q G Y P news:=by
 have h1:=h.b.lR;have h2:=h.lW
 have h3:¬ G R:=fun k=>by have:=(h.s.low _ k).1;omega
 exact ⟨h.b.pick hr hg,h.s.grownX hg h3 (fun e=>by have:=(h.s.own.lt _ e).1;omega),h.r.grown hg (fun g e=>by cases e;exact h3),h.nB,h.lW,h.m,h.k⟩
theorem WsT.pick (h:WsT W w v R a n c p B x q G Y ts) (hr:Rdr v' R a n c p') (hg:v.grownBy v' (some R)):WsT W w v' R a n c p' B x q G Y ts:=by
 have h1:=h.b.lR;have h2:=h.lW
 have h3:¬ G R:=fun k=>by have:=(h.low _ k).1;omega
 exact ⟨h.b.pick hr hg,h.o.kept hg (.inr (fun e=>by have:=(h.o.lt _ e).1;omega)),fun b k=>⟨(h.low b k).1,Nat.lt_of_lt_of_le (h.low b k).2 hg.size⟩,h.out,h.r.grown hg (fun g e=>by cases e;exact h3),h.s.grown hg (fun g e=>by cases e;exact h3),h.nB,h.lW,h.m,h.k⟩
theorem WsP.push {g cap L:Nat} {rs:List Pr} {p1:Option Addr} {c1:Nat} (h:WsP W w v R a n c p B x q G Y P news) (hd:DepF v (fun b=>L<=b/\b<v.heap.size) (fun U=>Prs U p1 rs)) (hL:W.heap.size<=L) (hv:∀ b,Y.ownBlock=some b->b<L) (aG:B<L) (hm:P.length+1<=200000/\rs.length<=200000/\∀ s∈rs,s.1.size<=200000/\s.2.size<=200000) (aC:v'.ownsRow W.heap.size 31 1 (.slice (some ⟨g,0,none⟩) (P.length+1) cap) (P.length+1) (news++[.slice p1 rs.length c1])) (hg:v.grownBy v' Y.ownBlock) (aD:Y.ownBlock=some g\/v.heap.size<=g) :
  ∃ G',WsP W w (v'.setCell ⟨B,14,none⟩ (.slice (some ⟨g,0,none⟩) (P.length+1) cap)) R a n c p B x q G' (.slice (some ⟨g,0,none⟩) (P.length+1) cap) (P++[rs]) (news++[.slice p1 rs.length c1]):=by
 have e1:(P++[rs]).getD P.length []=rs:=by simp [List.getD]
 have h0:=(h.s.more rs).push (g:=g) (cap:=cap) (B:=L) (p1:=p1) (c1:=c1) (by rw [e1];exact hd) hL hv (by rw [e1];exact aC) hg aD;rw [e1] at h0
 have aF:∀ k,Y.ownBlock=some k->¬ (G k\/(L<=k/\k<v.heap.size)):=fun k e hh=>by
  rcases hh with hh | hh
  ·exact h.s.out k e hh
  ·have:=hv k e;omega
 have aB:¬ (G B\/(L<=B/\B<v.heap.size)):=fun k=>by rcases k with k | k;exact h.nB.1 k;omega
 have lB:=h.b.r3.lt
 have aE:(Value.slice (some ⟨g,0,none⟩) (P.length+1) cap).ownBlock≠some B:=fun e=>by
  have e':g=B:=by injection e
  subst e';rcases aD with e2 | e2
  ·exact h.nB.2 e2
  ·omega
 have b1:=(h.b.grown hg (fun k e=>⟨Nat.le_trans h.lW (h.s.own.lt _ e).1,fun e2=>h.nB.2 (e2 ▸ e)⟩)).set 14 (by simp) (.slice (some ⟨g,0,none⟩) (P.length+1) cap);have G2:=XGx v' B 14 (.slice (some ⟨g,0,none⟩) (P.length+1) cap);have aA:=h.m;refine ⟨_,b1,?_,((h.r.mono (fun b _ k=>.inl k)).grown hg aF).grown G2 (fun g e=>by cases e;exact aB),⟨aB,aE⟩,h.lW,⟨aA.l1,aA.s1,aA.l2,aA.s2,aA.l3,aA.s3,?_,?_,aA.l5,aA.s5⟩,h.k⟩
 ·have:=h0.grownX G2 aB aE
  rw [show (P++[rs]).length=P.length+1 by simp];exact this
 ·show (P++[rs]).length<=200000
  rw [List.length_append];exact hm.1
 ·intro r hr
  rcases List.mem_append.1 hr with hr | hr
  ·exact aA.s4 r hr
  ·rw [List.mem_singleton.1 hr];exact hm.2
theorem WsP.fin {ya:Option Addr} {m yc:Nat} (h:WsP W w v R a n c p B x q G (.slice ya m yc) P news) (hm:m=P.length):WsW w v R a n c p B { x with P:=P } { q with p:=ya,cp:=yc }:=by
 subst hm;have hs:=h.lW
 have hW:W.heap.size<=v.heap.size\/P=[]:=by
  rcases yUO h.s.own with ⟨h1,h2⟩ | ⟨g,cap,h1,h2⟩
  ·exact .inr (List.eq_nil_of_length_eq_zero h2)
  ·have:=h.s.own.lt g (by rw [h1];rfl);left;omega
 have hF:∀ b,G b->w.heap.size+1<=b/\b≠B:=fun b k=>⟨by have:=(h.s.low b k).1;omega,fun e=>h.nB.1 (e ▸ k)⟩
 refine ⟨h.b,⟨(h.r.map fun _ k=>k.1).mono fun b _ k=>hF b k,(h.r.map fun _ k=>k.2.1).mono fun b _ k=>hF b k,(h.r.map fun _ k=>k.2.2.1).mono fun b _ k=>hF b k,?_,(h.r.map fun _ k=>k.2.2.2).mono fun b _ k=>hF b k⟩,h.m,h.k.1,h.k.2⟩
 by_cases h0:P=[]
 ·exact .inl h0
 ·rcases yUO h.s.own with ⟨h1,h2⟩ | ⟨g,cap,h1,h2⟩
  ·exact absurd (List.eq_nil_of_length_eq_zero h2) h0
  ·cases h1
   have hr:=kX5 h.s.own;have lg:=(h.s.own.lt g rfl).1;refine .inr ⟨g,0,rfl,hr.lt,⟨by omega,fun e=>h.nB.2 (by subst e;rfl)⟩,fun i hi=>?_⟩;obtain ⟨p,c,k1,k2⟩:=h.s.ech i hi;exact ⟨p,c,by rw [Nat.zero_add];exact hr.cell i _ k1,k2.mono (fun b _ k=>hF b k)⟩
theorem WsT.push {g cap:Nat} {s:ByteArray} (h:WsT W w v R a n c p B x q G Y ts) (hm:ts.length+1<=200000/\s.size<=200000) (aB:v'.ownsRow W.heap.size 9 1 (.slice (some ⟨g,0,none⟩) (ts.length+1) cap) (ts.length+1) (ts.map Value.string++[.string s])) (hg:v.grownBy v' Y.ownBlock) (aC:Y.ownBlock=some g\/v.heap.size<=g) :
  WsT W w (v'.setCell ⟨B,15,none⟩ (.slice (some ⟨g,0,none⟩) (ts.length+1) cap)) R a n c p B x q G (.slice (some ⟨g,0,none⟩) (ts.length+1) cap) (ts++[s]):=by
 have lB:=h.b.r3.lt
 have aD:(Value.slice (some ⟨g,0,none⟩) (ts.length+1) cap).ownBlock≠some B:=fun e=>by
  have e':g=B:=by injection e
  subst e';rcases aC with e2 | e2
  ·exact h.nB.2 e2
  ·omega
 have b1:=(h.b.grown hg (fun k e=>⟨Nat.le_trans h.lW (h.o.lt _ e).1,fun e2=>h.nB.2 (e2 ▸ e)⟩)).set 15 (by simp) (.slice (some ⟨g,0,none⟩) (ts.length+1) cap);have G2:=XGx v' B 15 (.slice (some ⟨g,0,none⟩) (ts.length+1) cap);have aA:=h.m;have hz:=hg.size;refine ⟨b1,?_,fun b k=>⟨(h.low b k).1,by rw [World.size_setCell];have:=(h.low b k).2;omega⟩,?_,(h.r.grown hg h.out).grown G2 (fun g e=>by cases e;exact h.nB.1),(h.s.grown hg h.out).grown G2 (fun g e=>by cases e;exact h.nB.1),⟨h.nB.1,aD⟩,h.lW,⟨aA.l1,aA.s1,aA.l2,aA.s2,aA.l3,aA.s3,aA.l4,aA.s4,?_,?_⟩,h.k⟩
 ·rw [show (ts++[s]).length=ts.length+1 by simp,List.map_append]
  exact aB.kept G2 (.inr aD)
 ·intro b e k
  have e':g=b:=by injection e
  subst e';rcases aC with e2 | e2
  ·exact h.out g e2 k
  ·have:=(h.low g k).2;omega
 ·show (ts++[s]).length<=200000
  rw [List.length_append];exact hm.1
 ·intro r hr
  rcases List.mem_append.1 hr with hr | hr
  ·exact aA.s5 r hr
  ·rw [List.mem_singleton.1 hr];exact hm.2
theorem WsT.fin {ya:Option Addr} {m yc:Nat} (h:WsT W w v R a n c p B x q G (.slice ya m yc) ts) (hm:m=ts.length):WsW w v R a n c p B { x with ts:=ts } { q with t:=ya,ct:=yc }:=by
 subst hm;have hs:=h.lW
 have hF:∀ b,G b->w.heap.size+1<=b/\b≠B:=fun b k=>⟨by have:=(h.low b k).1;omega,fun e=>h.nB.1 (e ▸ k)⟩
 refine ⟨h.b,⟨(h.r.map fun _ k=>k.1).mono fun b _ k=>hF b k,(h.r.map fun _ k=>k.2.1).mono fun b _ k=>hF b k,(h.r.map fun _ k=>k.2.2).mono fun b _ k=>hF b k,h.s.mono fun b _ k=>hF b k,?_⟩,h.m,h.k,vng h.o⟩;rcases yUO h.o with ⟨h1,h2⟩ | ⟨g,cap,h1,h2⟩
 ·exact zHg (fun W=>.inl (List.eq_nil_of_length_eq_zero h2))
 ·cases h1
  have lg:=(h.o.lt g rfl).1;have:=(yiG h.o ts.length (Nat.le_refl _)).mono (G:=fun b=>w.heap.size+1<=b/\b≠B) (fun b _ e=>by subst e;exact ⟨by omega,fun e=>h.nB.2 (by subst e;rfl)⟩);rw [List.take_length] at this;exact this
end
theorem Xfr {rs:List Pr} (h:z0q rs=true):rs.length<=200000/\∀ x∈rs,x.1.size<=200000/\x.2.size<=200000:=by
 obtain ⟨h1,h2,h3⟩:=(ZaP rs).1 h;refine ⟨by omega,fun x hx=>?_⟩;obtain ⟨k1,k2⟩:=h2 x hx;unfold kOk at k1;unfold vOk at k2;simp at k1 k2;omega
theorem Q9b {x:Wo} {N:Nat} (h:x.good N):x.le 200000:=by
 have hd:=yTD h.d;exact ⟨by have:=hd.1.1;omega,fun s hs=>by have:=hd.1.2 s hs;omega,by have:=hd.2.1;omega,fun s hs=>by have:=hd.2.2 s hs;omega,(Xfr h.ok.s).1,(Xfr h.ok.s).2,by have:=h.ok.p.1;omega,fun r hr=>Xfr (h.ok.p.2 r hr),by have:=h.ok.t.1;omega,fun s hs=>by have:=h.ok.t.2 s hs;omega⟩
theorem Xij {w:World} {B:Nat} {a:Option Addr} {c:Nat} {rs:List Pr} (h:w.ownsRow B 78 2 (.slice a rs.length c) rs.length (qJS rs)):DepF w (fun b=>B<=b) (fun U=>Prs U a rs) :=
 (xat (F:=fun b=>B<=b) (JOt h) (fun b h1 _=>h1)).map fun U k=>by
  obtain ⟨a',c',e,k2⟩:=yUy k;injection e with e1;rw [e1];exact k2
section
variable {W w v v' v3:World} {R:Nat} {a:Option Addr} {n c:Nat} {p p':Int} {B:Nat} {x:Wo} {q:Wp}
theorem WcO.wsp (h:WcO W v3 x q) (D:WsW w v R a n c p B x q) (hg:v3.grownBy v (some R)) (hW:w.heap.size+1<=W.heap.size) (hB:v3.heap.size<=B):∃ G news,WsP W w v R a n c p B x q G (.slice q.p x.P.length q.cp) x.P news:=by
 obtain ⟨news,ho,hr,he⟩:=h.pp;have hR:R<W.heap.size:=by have:=D.b.lR;omega
 have hz:=hg.size;refine ⟨fun b=>W.heap.size<=b/\b<v3.heap.size/\(Value.slice q.p x.P.length q.cp).ownBlock≠some b,news,D.b,⟨ho.kept hg (.inr (fun e=>by have:=(ho.lt _ e).1;omega)),by have:=ho.1;omega,fun b k=>⟨k.1,by omega⟩,fun b e k=>k.2.2 e,fun i hi=>?_⟩,(hr.mono (fun b hl k=>⟨k.1,hl,k.2⟩)).grown hg (fun g e k=>by cases e;omega),⟨fun k=>by omega,fun e=>by have:=(ho.lt _ e).2;omega⟩,hW,D.m,D.cs,D.ct⟩;obtain ⟨p,c,k1,k2⟩:=he i hi;exact ⟨p,c,k1,(k2.mono (fun b hl k=>⟨k.1,hl,k.2⟩)).grown hg (fun g e k=>by cases e;omega)⟩
theorem WcO.wst (h:WcO W v3 x q) (D:WsW w v R a n c p B x q) (hg:v3.grownBy v (some R)) (hW:w.heap.size+1<=W.heap.size) (hB:v3.heap.size<=B):∃ G,WsT W w v R a n c p B x q G (.slice q.t x.ts.length q.ct) x.ts:=by
 obtain ⟨ho,hr,hs⟩:=h.tt;have hR:R<W.heap.size:=by have:=D.b.lR;omega
 have hz:=hg.size;exact ⟨fun b=>W.heap.size<=b/\b<v3.heap.size/\(Value.slice q.t x.ts.length q.ct).ownBlock≠some b,D.b,ho.kept hg (.inr (fun e=>by have:=(ho.lt _ e).1;omega)),fun b k=>⟨k.1,by omega⟩,fun b e k=>k.2.2 e,(hr.mono (fun b hl k=>⟨k.1,hl,k.2⟩)).grown hg (fun g e k=>by cases e;omega),(hs.mono (fun b hl k=>⟨k.1,hl,k.2⟩)).grown hg (fun g e k=>by cases e;omega),⟨fun k=>by omega,fun e=>by have:=(ho.lt _ e).2;omega⟩,hW,D.m,D.cs⟩
theorem WsW.wid (h:WsW w v R a n c p B x q) (z:Int):WsW w (v.setCell ⟨B,0,none⟩ (.int .i64 z)) R a n c p B { x with w:=z } q :=
 h.put (XGx v B 0 _) (h.b.r3.set 0 (by simp) _) ⟨h.f.h1,h.f.h2,h.f.h3,h.f.h4,h.f.h5⟩ ⟨h.m.l1,h.m.s1,h.m.l2,h.m.s2,h.m.l3,h.m.s3,h.m.l4,h.m.s4,h.m.l5,h.m.s5⟩ h.cs h.ct
theorem WsW.isUp (h:WsW w v R a n c p B x q) (z:Bool):WsW w (v.setCell ⟨B,3,none⟩ (.bool z)) R a n c p B { x with up:=z } q :=
 h.put (XGx v B 3 _) (h.b.r3.set 3 (by simp) _) ⟨h.f.h1,h.f.h2,h.f.h3,h.f.h4,h.f.h5⟩ ⟨h.m.l1,h.m.s1,h.m.l2,h.m.s2,h.m.l3,h.m.s3,h.m.l4,h.m.s4,h.m.l5,h.m.s5⟩ h.cs h.ct
theorem WsW.disk {ss:List ByteArray} {ws:List WrT} {g sc g' aA:Nat} (h:WsW w v R a n c p B x q) (hr:Rdr v' R a n c p') (hg:v.grownBy v' (some R)) (hk:DkLe ss ws) (ho:v'.ownsRow v.heap.size 74 2 (.slice (some ⟨g',0,none⟩) ws.length aA) ws.length (yaV ws)) (hd:DepF v' (fun b=>v.heap.size<=b/\b≠g') (fun W=>Strs W (some ⟨g,0,none⟩) ss)) :
  WsW w ((v'.setCell ⟨B,1,none⟩ (.slice (some ⟨g,0,none⟩) ss.length sc)).setCell ⟨B,2,none⟩ (.slice (some ⟨g',0,none⟩) ws.length aA)) R a n c p' B { x with ss:=ss,ws:=ws } { q with a:=some ⟨g,0,none⟩,c:=sc,a':=some ⟨g',0,none⟩,c':=aA }:=by
 have D:=h.pick hr hg;have l1:=h.b.r3.lt;have l2:=h.b.lB
 exact D.put (ZpU (XGx v' B 1 _) (XGx _ B 2 _)) ((D.b.r3.set 1 (by simp) _).set 2 (by simp) _)
  ⟨hd.mono (fun b _ k=>by omega),(xat (JOt ho) (fun b h1 _=>by omega)).map fun U k=>(JJW k).wrs,D.f.h3,D.f.h4,D.f.h5⟩
  ⟨by have:=hk.1.1;show ss.length<=_;omega,fun s hs=>by have:=hk.1.2 s hs;omega,by have:=hk.2.1;show ws.length<=_;omega,fun s hs=>by have:=hk.2.2 s hs;omega,h.m.l3,h.m.s3,h.m.l4,h.m.s4,h.m.l5,h.m.s5⟩ D.cs D.ct
theorem WsW.sto {W1 S1 L1 T1 H1 F1 Q1 U1 O1:Int} {y:Value} (h:WsW w v R a n c p B x q) (hr:Rdr v' R a n c p') (hg:v.grownBy v' (some R)) (hy:LsY v.heap.size v' (.slice q.s x.rs.length q.cs) y) :
  ∃ x' q',WsW w (v'.setCells B 4 (sL W1 S1 L1 T1 H1 F1 Q1 U1 O1 y)) R a n c p' B x' q':=by
 have D:=h.pick hr hg;have l1:=h.b.r3.lt;have l2:=h.b.lB;have G:=Qvn v' B 4 (sL W1 S1 L1 T1 H1 F1 Q1 U1 O1 y);have hR:=Row.setsMid (pre:=[.int .i64 x.w,.slice q.a x.ss.length q.c,.slice q.a' x.ws.length q.c',.bool x.up]) (cs:=sL x.W x.S x.L x.T x.H x.F x.R x.U x.O (.slice q.s x.rs.length q.cs)) (post:=[.slice q.p x.P.length q.cp,.slice q.t x.ts.length q.ct]) D.b.r3 (sL W1 S1 L1 T1 H1 F1 Q1 U1 O1 y) rfl;rcases hy with rfl | ⟨rs,ho,hl,aA⟩
 ·exact ⟨{ x with W:=W1,S:=S1,L:=L1,T:=T1,H:=H1,F:=F1,R:=Q1,U:=U1,O:=O1 },q,D.put G hR ⟨D.f.h1,D.f.h2,D.f.h3,D.f.h4,D.f.h5⟩ ⟨h.m.l1,h.m.s1,h.m.l2,h.m.s2,h.m.l3,h.m.s3,h.m.l4,h.m.s4,h.m.l5,h.m.s5⟩ D.cs D.ct⟩
 ·obtain ⟨ya,yc,rfl,-⟩:=yUy ho
  exact ⟨{ x with W:=W1,S:=S1,L:=L1,T:=T1,H:=H1,F:=F1,R:=Q1,U:=U1,O:=O1,rs:=rs },{ q with s:=ya,cs:=yc },D.put G hR ⟨D.f.h1,D.f.h2,(Xij ho).mono (fun b _ k=>by omega),D.f.h4,D.f.h5⟩ ⟨h.m.l1,h.m.s1,h.m.l2,h.m.s2,by show rs.length<=_;omega,fun s hs=>by have:=aA s hs;omega,h.m.l4,h.m.s4,h.m.l5,h.m.s5⟩ (vng ho) D.ct⟩
end
def Q0F (W w:World) (R:Nat) (a:Option Addr) (n c:Nat) (p:Int) (B:Nat) (x:Wo) (q:Wp) (N:Nat) (wr:World):Prop:=∃ (G:Nat->Prop) (ya:Option Addr) (yc:Nat) (P:List (List Pr)) (news:List Value),P.length<=N/\WsP W w wr R a n c p B x q G (.slice ya P.length yc) P news
def zyI (W w:World) (R:Nat) (a:Option Addr) (n c:Nat) (p:Int) (B:Nat) (x:Wo) (q:Wp) (N:Nat) (wr:World):Prop:=∃ (G:Nat->Prop) (ya:Option Addr) (yc:Nat) (ts:List ByteArray),ts.length<=N/\WsT W w wr R a n c p B x q G (.slice ya ts.length yc) ts
end
section
theorem yK8 {P:Program} {w:World} (t ty e:TypeId) (i:TypeInfo) (z:Value) (aC:Nat) (ht:P.underlying t=some (.slice e)) (hi:P.info? e=some i) (hz:i.zero=some z) (aA:i.size=1) (aI:i.bytes=aC) (aM:z.cells.size=1)
  (b B:Nat) (u:Value) (h0:w.ownsRow B e 1 (.slice (some ⟨b,0,none⟩) 1 1) 1 [u]) (v:Value) (n:Nat) (news:List Value) (aB:Src P 1 t v n news w) (hn:n<=1048575) (aH:2*(1+n)*aC<=281474976710656) (hB:B<=w.heap.size) :
  ∃ g cap wx,(Builtin.append_ #[t,t] ty #[.slice (some ⟨b,0,none⟩) 1 1,v]).run P w=.ok (.slice (some ⟨g,0,none⟩) (1+n) cap) wx/\wx.ownsRow B e 1 (.slice (some ⟨g,0,none⟩) (1+n) cap) (1+n) (u::news)/\(g=b\/g=w.heap.size)/\Below w.heap.size w wx:=by
 subst aI;rw [<-aA] at aB
 by_cases aL:n=0
 ·subst aL
  have aE:news=[]:=List.eq_nil_of_length_eq_zero (by have:=aB.newsLen;omega);subst aE;have aD:=run_append_room_src (P:=P) w t t ty e i ht hi b 0 1 1 v 0 [] aB (by omega) (by simp) (by simp);exact ⟨_,_,_,aD,h0,.inl rfl,Below.refl _ _⟩
 ·have aG:(Builtin.firstCells i.size 1 (.slice (some ⟨b,0,none⟩) 1 1)).run P w.drew=.ok ([u]:List Value).toArray w.drew:=by
   refine run_firstCells_some w.drew i.size 1 _ 1 1 [u] (by rw [aA];rfl) (fun j x hx=>?_);rw [JoX];exact ((kX5 h0).below (Below.refl _ _).drew).cell j x hx
  have aD:=run_append_grow_src (P:=P) w t t ty e i z ht hi hz (some ⟨b,0,none⟩) 1 1 [u] aG v n news aB (by omega) (by omega) (Nat.le_trans (Nat.mul_le_mul_right _ (nextslicecap_le (by omega))) aH);refine ⟨_,_,_,aD,?_,.inr rfl,(Below.refl _ _).drew.alloc (Nat.le_refl _) _⟩;have aJ:=grownCap_ge w (1+n) 1 e;have aK:=grownCap_le_maxLen w (1+n) 1 e (by unfold maxLen;omega);have aF:news.length=n:=by have:=aB.newsLen;rw [aA] at this;omega
  refine ⟨by simp [aF];omega,.inr ⟨w.heap.size,_,_,rfl,hB,heap_alloc_new w.drew _,aJ,aK,?_,?_⟩⟩
  ·simp [size_zeroCells,aF,aM]
   omega
  ·subst aF
   rw [Nat.add_comm];simp
theorem v0U {P:Program} {w:World} {aF:Array Oper} {aC:List Oper} {o:Oper} {a:Act} {Q:Exit->Act->World->Prop} (aI:o.guard=none) (s x:Operand) (t:TypeId)
  (ho:o.op=.call { callee:=.builtin .append,args:=#[s,x],argTypes:=#[t,t] }) (e:TypeId) (i:TypeInfo) (z:Value) (aA:Nat) (ht:P.underlying t=some (.slice e)) (hi:P.info? e=some i) (hz:i.zero=some z) (aB:i.size=1) (aH:i.bytes=aA) (aJ:z.cells.size=1)
  (b B:Nat) (u:Value) (hs:a.eval s=.slice (some ⟨b,0,none⟩) 1 1) (h0:w.ownsRow B e 1 (.slice (some ⟨b,0,none⟩) 1 1) 1 [u]) (v:Value) (hx:a.eval x=v) (n:Nat) (news:List Value) (aE:Src P 1 t v n news w) (hn:n<=1048575) (aG:2*(1+n)*aA<=281474976710656) (hB:B<=w.heap.size)
  (h:∀ g cap wx,wx.ownsRow B e 1 (.slice (some ⟨g,0,none⟩) (1+n) cap) (1+n) (u::news)->(g=b\/g=w.heap.size)->Below w.heap.size w wx->wpList P aF Q aC (a.put o.dst (.slice (some ⟨g,0,none⟩) (1+n) cap)) wx):wpList P aF Q (o::aC) a w:=by
 refine wpList_plain aI fun K hK=>?_
 obtain ⟨g,cap,wx,aD,h1,h2,h3⟩:=yK8 (P:=P) (w:=w) t o.type e i z aA ht hi hz aB aH aJ b B u h0 v n news aE hn aG hB;unfold Oper.wp;simp [execOp,ho,resolve,invoke,builtin,hs,hx,aD,Result.andThen];exact hK _ _ (h g cap wx h1 h2 h3)
theorem Xo2 {P:Program} {w:World} {aE:Array Oper} {o:Oper} {a:Act} {K:Act->World->Prop} {Q:Exit->Act->World->Prop} {E:Prop} (aH:o.guard=none) (s x:Operand) (t:TypeId)
  (ho:o.op=.call { callee:=.builtin .append,args:=#[s,x],argTypes:=#[t,t] }) (e:TypeId) (i:TypeInfo) (z:Value) (aA:Nat) (ht:P.underlying t=some (.slice e)) (hi:P.info? e=some i) (hz:i.zero=some z) (aB:i.size=1) (aG:i.bytes=aA) (aI:z.cells.size=1)
  (b B:Nat) (u:Value) (hs:a.eval s=.slice (some ⟨b,0,none⟩) 1 1) (h0:w.ownsRow B e 1 (.slice (some ⟨b,0,none⟩) 1 1) 1 [u]) (v:Value) (hx:a.eval x=v) (n:Nat) (news:List Value) (aD:Src P 1 t v n news w) (hn:n<=1048575) (aF:2*(1+n)*aA<=281474976710656) (hB:B<=w.heap.size)
  (h:∀ g cap wx,wx.ownsRow B e 1 (.slice (some ⟨g,0,none⟩) (1+n) cap) (1+n) (u::news)->(g=b\/g=w.heap.size)->Below w.heap.size w wx->K (a.put o.dst (.slice (some ⟨g,0,none⟩) (1+n) cap)) wx) :
  if Region.wanted o (yielded aE a.tmps)=true then Oper.wp P o a w K Q else E:=by
 have hw:Region.wanted o (yielded aE a.tmps)=true:=by simp [Region.wanted,aH]
 rw [if_pos hw];obtain ⟨g,cap,wx,aC,h1,h2,h3⟩:=yK8 (P:=P) (w:=w) t o.type e i z aA ht hi hz aB aG aI b B u h0 v n news aD hn aF hB;unfold Oper.wp;simp [execOp,ho,resolve,invoke,builtin,hs,hx,aC,Result.andThen];exact h g cap wx h1 h2 h3
theorem vzF {w:World} {F:Nat->Prop} {g:Nat} {P:List (List Pr)} {news:List Value} (h:∀ i,i<P.length->∃ p' c',news[i]?=some (.slice p' (P.getD i []).length c')/\DepF w F (fun W=>Prs W p' (P.getD i []))) (hr:Row w g (.slice none 0 0::news)) (hg:F g):PstF w F (some ⟨g,0,none⟩) ([]::P):=by
 refine .inr ⟨g,0,rfl,hr.lt,hg,fun i hi=>?_⟩;rcases i with _ | i
 ·exact ⟨none,0,hr.cell 0 _ rfl,zHg (fun W=>.inl rfl)⟩
 ·obtain ⟨p',c',h3,h4⟩:=h i (by simpa using hi)
  refine ⟨p',c',?_,h4⟩;rw [Nat.zero_add];exact hr.cell (i+1) _ h3
section
variable {w v v':World} {R:Nat} {a:Option Addr} {n c:Nat} {p:Int} {B:Nat} {x:Wo} {q:Wp}
theorem WsW.pre {g cap m lo:Nat} {news:List Value} (D:WsW w v R a n c p B x q) (hl:B<lo) (hb:Below v.heap.size v v') (he:∀ i,i<x.P.length->∃ p' c',news[i]?=some (.slice p' (x.P.getD i []).length c')/\DepF v (fun b=>w.heap.size+1<=b/\b≠B) (fun W=>Prs W p' (x.P.getD i []))) (aA:v'.ownsRow lo 31 1 (.slice (some ⟨g,0,none⟩) m cap) m (.slice none 0 0::news)) (hm:x.P.length+1<=200000) (e:m=x.P.length+1) :
  WsW w (v'.setCell ⟨B,14,none⟩ (.slice (some ⟨g,0,none⟩) m cap)) R a n c p B { x with P:=[]::x.P } { q with p:=some ⟨g,0,none⟩,cp:=cap }:=by
 subst e;have D1:=D.below hb;have l1:=D.b.r3.lt;have l2:=D.b.lB;have lg:=(aA.lt g rfl).1;exact D1.put (XGx v' B 14 _) (D1.b.r3.set 14 (by simp) _) ⟨D1.f.h1,D1.f.h2,D1.f.h3,vzF (fun i hi=>by obtain ⟨p',c',k1,k2⟩:=he i hi;exact ⟨p',c',k1,k2.below hb⟩) (kX5 aA) (by omega),D1.f.h5⟩ ⟨D.m.l1,D.m.s1,D.m.l2,D.m.s2,D.m.l3,D.m.s3,hm,fun r hr=>by rcases List.mem_cons.1 hr with rfl | hr;exact ⟨by simp,by simp⟩;exact D.m.s4 r hr,D.m.l5,D.m.s5⟩ D.cs D.ct
theorem WsW.wr {g cap m lo:Nat} {ts:List ByteArray} (D:WsW w v R a n c p B x q) (hl:B<lo) (hb:Below v.heap.size v v') (aA:v'.ownsRow lo 9 1 (.slice (some ⟨g,0,none⟩) m cap) m (ts.map Value.string)) (hm:ts.length<=200000/\∀ s∈ts,s.size<=200000) (e:m=ts.length) :
  WsW w (v'.setCell ⟨B,15,none⟩ (.slice (some ⟨g,0,none⟩) m cap)) R a n c p B { x with ts:=ts } { q with t:=some ⟨g,0,none⟩,ct:=cap }:=by
 subst e;have D1:=D.below hb;have l1:=D.b.r3.lt;have l2:=D.b.lB;have lg:=(aA.lt g rfl).1;have hs:=(yiG aA ts.length (Nat.le_refl _)).mono (G:=fun b=>w.heap.size+1<=b/\b≠B) (fun b _ e=>by subst e;omega);rw [List.take_length] at hs;exact D1.put (XGx v' B 15 _) (D1.b.r3.set 15 (by simp) _) ⟨D1.f.h1,D1.f.h2,D1.f.h3,D1.f.h4,hs⟩ ⟨D.m.l1,D.m.s1,D.m.l2,D.m.s2,D.m.l3,D.m.s3,D.m.l4,D.m.s4,hm.1,hm.2⟩ D.cs (vng aA)
end
def xEP (w:World) (R:Nat) (a:Option Addr) (n c:Nat) (p:Int) (B M:Nat) (wr:World):Prop:=∃ (x:Wo) (q:Wp),x.P.length<=M/\WsW w wr R a n c p B x q
def Xlc (w:World) (R:Nat) (a:Option Addr) (n c:Nat) (p:Int) (B M:Nat) (wr:World):Prop:=∃ (x:Wo) (q:Wp),x.ts.length<=M/\WsW w wr R a n c p B x q
end
section
theorem zLD {P:Program} {w:World} {aM:Array Oper} {o:Oper} {a:Act} {K:Act->World->Prop} {Q:Exit->Act->World->Prop} {E:Prop} (aH:o.guard=none) (s x:Operand) (t:TypeId)
  (ho:o.op=.call { callee:=.builtin .append,args:=#[s,x],argTypes:=#[t,t] }) (base:Nat) (e:TypeId) (i:TypeInfo) (z:Value) (aA:Nat) (ht:P.underlying t=some (.slice e)) (hi:P.info? e=some i) (hz:i.zero=some z) (aB:i.size=1) (aK:i.bytes=aA) (aL:z.cells.size=1)
  (b n cap:Nat) (aE:List Value) (hs:a.eval s=.slice (some ⟨b,0,none⟩) n cap) (aD:w.ownsRow base e 1 (.slice (some ⟨b,0,none⟩) n cap) n aE) (sa:Option Addr) (m c:Nat) (news:List Value) (hx:a.eval x=.slice sa m c) (hl:news.length=m) (aJ:0<m->∃ ad,sa=some ad/\∀ j u,news[j]?=some u->w.cell? (ad.add j)=some u) (h1:∀ u∈news,u.oneCell'=true) (aI:n+m<=maxLen) (aC:(n+m)*aA<=140737488355328) (aF:base<=w.heap.size)
  (h:∀ g cap w',w'.ownsRow base e 1 (.slice (some ⟨g,0,none⟩) (n+m) cap) (n+m) (aE++news)->w.grownBy w' (some b)->K (a.put o.dst (.slice (some ⟨g,0,none⟩) (n+m) cap)) w') :
  if Region.wanted o (yielded aM a.tmps)=true then Oper.wp P o a w K Q else E:=by
 by_cases hm:m=0
 ·subst hm
  have aG:news=[]:=List.eq_nil_of_length_eq_zero hl;subst aG;have h0:=h b cap w (by rw [List.append_nil];exact aD) (World.grownBy.refl _ _);refine kmk aH s x t ho e i 1 ht hi aB b n cap (vng aD) hs _ hx ?_ h0
  cases sa with
  | none=>exact Src.ofNil w ht c
  | some y=>exact Src.ofSlice w ht y 0 c [] (by simp) (by simp) (by simp)
 ·obtain ⟨ad,rfl,hc⟩:=aJ (by omega)
  exact step_append_lies w aH s x t ho base e i z 1 aA ht hi hz aB aK aL (by omega) _ n aE hs aD ad m c news hx (by omega) hc h1 (by omega) aI aC aF _ rfl (fun g cap w' k1 k2 k3 k4=>h g cap w' k1 k2)
theorem jhx {P:Program} {w:World} {a:Option Addr} {ss:List ByteArray} (h:Strs w a ss) (t e:TypeId) (ht:P.underlying t=some (.slice e)) (k c:Nat) (hk:k<=ss.length):Src P 1 t (.slice a k c) k ((ss.take k).map Value.string) w:=by
 have:=src_strs (P:=P) (h.takeD k) t e ht c;rw [List.length_take,Nat.min_eq_left hk] at this;exact this
theorem kJp {w:World} {b o:Nat} {ss:List ByteArray} (h:Strs w (some ⟨b,o,none⟩) ss) (j:Nat) (u:Value) (hu:(ss.map Value.string)[j]?=some u):w.cell? ⟨b,o+j,none⟩=some u:=by
 rcases h with h | ⟨b',o',h1,h2,h3⟩
 ·subst h;simp at hu
 ·cases h1
  rw [List.getElem?_map] at hu
  cases e:ss[j]? with
  | none=>rw [e] at hu;cases hu
  | some s =>
   rw [e] at hu
   cases hu
   obtain ⟨hj,e2⟩:=List.getElem?_eq_some_iff.1 e;rw [h3 j hj];simp [List.getD,e]
structure DfS (w v:World) (B lo:Nat) (x:Wo) (q:Wp):Prop where
 e:Below w.heap.size w v
 r2:Row v w.heap.size [.int .i64 0,.slice none 0 0,.slice none 0 0,.bool false,.int .i64 0,.int .i64 0,.int .i64 0,.int .i64 0,.int .i64 0,.int .i64 0,.int .i64 0,.int .i64 0,.int .i64 0,.slice none 0 0,.slice none 0 0,.slice none 0 0]
 r4:Row v B (wcs x q)
 f:WoF x v (fun b=>lo<=b/\b≠B) q
 m:x.le 200000
 cs:x.rs.length<=q.cs
 ct:x.ts.length<=q.ct
 lo:w.heap.size<lo/\lo<=B
section
variable {w v v':World} {B lo:Nat} {x:Wo} {q:Wp}
theorem DfS.below (h:DfS w v B lo x q) (hb:Below v.heap.size v v'):DfS w v' B lo x q:=⟨h.e.trans (hb.mono h.e.size),h.r2.below hb,h.r4.below hb,h.f.below hb,h.m,h.cs,h.ct,h.lo⟩
theorem DfS.pick {R:Nat} (h:DfS w v B lo x q) (hg:v.grownBy v' (some R)) (hR:w.heap.size<R/\R<lo):DfS w v' B lo x q:=by
 have hl:=h.lo;exact ⟨h.e.trans (jJX hg h.e.size (fun x e=>by have e:=Option.some.inj e;omega)),h.r2.grown hg (fun e=>by injection e with e;omega),h.r4.grown hg (fun e=>by injection e with e;omega),h.f.grown hg (fun g e k=>by cases e;omega),h.m,h.cs,h.ct,h.lo⟩
theorem DfS.wr {g cap m l2:Nat} {ts:List ByteArray} (D:DfS w v B lo x q) (hl:B<l2) (aA:v.ownsRow l2 9 1 (.slice (some ⟨g,0,none⟩) m cap) m (ts.map Value.string)) (hm:ts.length<=200000/\∀ s∈ts,s.size<=200000) (e:m=ts.length) :
  DfS w (v.setCell ⟨B,15,none⟩ (.slice (some ⟨g,0,none⟩) m cap)) B lo { x with ts:=ts } { q with t:=some ⟨g,0,none⟩,ct:=cap }:=by
 subst e;have h1:=D.lo;have lg:=(aA.lt g rfl).1;have hs:=(yiG aA ts.length (Nat.le_refl _)).mono (G:=fun b=>lo<=b/\b≠B) (fun b _ e=>by subst e;omega);rw [List.take_length] at hs;have G:=XGx v B 15 (.slice (some ⟨g,0,none⟩) ts.length cap);exact ⟨D.e.trans (jJX G D.e.size (fun x e=>by have e:=Option.some.inj e;omega)),D.r2.grown G (fun e=>by injection e with e;omega),D.r4.set 15 (by simp) _,(WoF.grown (x:={ x with ts:=ts }) (q:={ q with t:=some ⟨g,0,none⟩,ct:=cap }) ⟨D.f.h1,D.f.h2,D.f.h3,D.f.h4,hs⟩ G (fun g e k=>by cases e;exact k.2 rfl)),⟨D.m.l1,D.m.s1,D.m.l2,D.m.s2,D.m.l3,D.m.s3,D.m.l4,D.m.s4,hm.1,hm.2⟩,D.cs,vng aA,D.lo⟩
theorem DfS.fin (h:DfS w v B lo x q) (v1:World) (e:v1=v.setCells w.heap.size 0 (wcs x q)):Row v1 w.heap.size (wcs x q)/\Below w.heap.size w v1/\WoF x v1 (fun b=>w.heap.size<=b) q:=by
 subst e;have hl:=h.lo;have G:=Qvn v w.heap.size 0 (wcs x q);exact ⟨h.r2.sets _ rfl,h.e.trans (jJX G h.e.size (fun x e=>by have e:=Option.some.inj e;omega)),(h.f.grown G (fun g e k=>by cases e;omega)).mono (fun b _ k=>by omega)⟩
end
def DfB (w:World) (R:Nat) (a:Option Addr) (n c:Nat) (B lo:Nat) (x:Wo) (q:Wp) (bv:Value) (wx:World):Prop:=∃ (b:Bool) (pp:Int),bv=.bool b/\(b=true->0<x.ts.length)/\(0<=pp/\pp<=31000)/\Rdr wx R a n c pp/\DfS w wx B lo x q
end
theorem XcT (a:Option Addr) (n c:Nat):∀ u∈[Value.slice a n c],u.oneCell'=true:=by intro u hu;simp at hu;subst hu;rfl
theorem vDd (R:Nat) (a:Option Addr) (n c:Nat) (p:Int) (x:Wo) (q:Wp) (N:Nat) (w:World) (h:Rdr w R a n c p) (hp:p<99700000) (hx:x.at w q) (hG:x.good N) (hN:8<=N/\N<=40):Calls Tryz.prog 25 #[.pointer (some ⟨R,0,none⟩),Zov x q] w fun r w'=>JXu w w' r/\Zlg w R a n c p 9040 w':=by
 have p0:=h.p0;have lR:=h.lts.1;have ga:=h.lts.2;have HG:=hid hG;obtain ⟨i0,bI,bJ,bQ,bU⟩:=yWN vB4;have HI:=hid (And.intro bI (And.intro bJ (And.intro bQ bU)));clear bI bJ bQ bU;obtain ⟨i1,bI,bJ,bQ,bU⟩:=vHq q7E;have HJ:=hid (And.intro bI (And.intro bJ (And.intro bQ bU)));clear bI bJ bQ bU hG;unfold Zov;go_enter Tryz.func25,Tryz.ntmps25;go_upto_region 1 with fail;generalize aT:w.alloc _=v1;obtain ⟨aZ,bV,b3⟩:=bx1 aT;clear aT;generalize aU:v1.alloc _=v2;obtain ⟨bC,cL,b4⟩:=bx1 aU;clear aU;have hb:=aZ.trans (bC.mono aZ.size);have r3:=(b3.below bC).now;have CC:=hid (kag x q v2 (hx.below hb) HG.out.ok.le);unfold Zov at CC;refine wp_region_lit ?_;refine wpList_load_mid rfl 36 _ rfl w.heap.size 0 rfl (wL x q) _ r3.range Tryz.underlying36 rfl ZAx ?_;simp only [PS];go_wp2_with fail;refine CC.out.mono ?_;rintro e v3 ⟨q4,g,g',rfl,FC,dZ,cH,dU,dV,dM,bG,cQ⟩;have aR:=hid cQ;clear dZ cH dU dV dM cQ CC r3 b3 hx g g';unfold Zov;go_upto_region 2 with fail
 generalize aV:v3.alloc _=v4;obtain ⟨bH,cM,b5⟩:=bx1 aV;clear aV;have s3:=bG.size;obtain ⟨B,bY⟩:∃ k,k=v3.heap.size:=⟨_,rfl⟩;have b8:=bC.trans ((bG.trans (bH.mono bG.size)).mono bC.size)
 have D:WsW v1 v4 R a n c p B x q4:=by
  refine ⟨⟨(h.below aZ).below b8,Qbp _ b8,by omega,fun g o e k=>by have:=ga g o e k;omega,((b4.below bG).below bH).now,bY ▸ b5.now,by omega⟩,(FC.mono (fun b hl k=>by omega)).below bH,Q9b HG.out,aR.out.cs,vng aR.out.tt.1⟩
 have G0:v3.grownBy v4 (some R):=Qbp _ bH;have lW:v1.heap.size+1<=v2.heap.size:=by omega
 have cO:v3.heap.size<=B:=by omega
 have eP:w.heap.size<v1.heap.size:=by omega
 have eQ:v2.heap.size<=B:=by omega
 rw [<-bY,<-bV];have cT:Hid (Below w.heap.size w v1):=hid aZ;clear hb aZ bC bG bH b8 b4 b5 FC h ga lR bV cL cM s3 bY;generalize Value.agg _=A0;generalize Value.agg _=A1;go_wp2_with fail;refine (ZfV R a n c p 8 _ D.b.rd (by omega)).mono ?_;rintro e v5 ⟨⟨t,rfl,t0,t1⟩,hr,hg⟩;replace D:=D.pick hr hg;replace G0:=ZpU G0 hg;have bW:v2.heap.size<=v5.heap.size:=by have:=hg.size;have:=D.b.r3.lt;omega
 clear hr hg;have HP:=hid (aR.out.wsp D G0 lW cO);have HT:=hid (aR.out.wst D G0 lW cO);clear aR G0;go_upto_block 0 with fail;go_cut [6,7] from 12 to 89 (fun _ _ wx=>WsE v1 R a n c (p+1) 9030 B wx)
 case rest =>
  clear D HP HT;obtain ⟨y,qy,pp,q0,q1,D⟩:=hcut
  rename World=>wx
  go_upto_region 22 with fail;refine wp_region_lit ?_;refine wpList_load_mid rfl 36 _ rfl B 0 rfl (wL y qy) _ D.b.r3.range Tryz.underlying36 rfl ZAx ?_;simp only [PS];refine wpList_store_mid rfl 36 _ _ rfl v1.heap.size 0 (wA y qy) rfl rfl (D.b.r2.there rfl) ZAx (by kernel_rfl) ?_
  try simp only [PS]
  obtain ⟨y8,aL⟩:∃ y9,y9=wx.setCells v1.heap.size 0 (wL y qy):=⟨_,rfl⟩;obtain ⟨r8,eB,dL,F8⟩:=D.end y8 aL;rw [<-aL];have dR:=D.m;have dK:=D.cs;have eD:=D.ct;clear aL D
  try go_wp2
  obtain ⟨z0,z1,z2,z3,z4,z5,z6,z7,z8,z9,eI,eJ,eK,eL,eM,eN,zl⟩:=c16 r8;exact bodyPost_ret (v:=.agg (wA y qy)) (by simp [results,Tryz.results25,go_sem,z0,z1,z2,z3,z4,z5,z6,z7,z8,z9,eI,eJ,eK,eL,eM,eN]) rfl ⟨⟨y,qy,rfl,F8.mono (fun b _ k=>by omega),dR,dK,eD⟩,⟨pp,by omega,by omega,eB⟩,ZpU (Qbp _ cT.out) dL⟩
 case first =>
 by_cases h0:t=0
 ·subst h0
  clear HP;clear HT;go_wp2_with fail;refine (ZfV R a n c (p+1) 11 _ D.b.rd (by omega)).mono ?_;rintro e v6 ⟨⟨u,rfl,u0,u1⟩,hr,hg⟩;replace D:=D.pick hr hg;clear hr hg;have eO:IntKind.i64.wrap (u-1)=u-1:=vRg _ (by omega) (by omega);have HE:=hid (D.wid (u-1));have c0:=D.b.r3.cell 0 _ rfl;have f0:=D.b.r3.froz 0 (by simp);have cl:=D.b.r3.lt;go_wp2_with fail;go_meet;exact ⟨_,_,p+1+1,by omega,by omega,HE.out⟩
 by_cases h1:t=1
 ·subst h1
  clear HP;clear HT;have CD:=hid (yFR R a n c (p+1) q4.a x.ss q4.c q4.a' x.ws q4.c' v5 D.b.rd (by omega) D.f.h1.now D.f.h2.now (yTD HG.out.d) (by rw [HG.out.n];exact hN) (by have:=(q67 HG.out.d).1;omega));unfold Zoj at CD;have c1:=D.b.r3.cell 1 _ rfl;have c2:=D.b.r3.cell 2 _ rfl;have cl:=D.b.r3.lt;go_wp2_with fail;clear c1 c2 cl;refine CD.out.mono ?_;rintro e v6 ⟨⟨ss,ws,g,sc,g',eR,rfl,hk,ho,hd⟩,⟨pp,q0,q1,hr⟩,hg⟩;have HE:=hid (D.disk (sc:=sc) hr hg hk ho hd);replace D:=D.pick hr hg;clear hr hg hk ho hd CD;unfold Zoj;have c1:=D.b.r3.cell 1 _ rfl;have c2:=D.b.r3.cell 2 _ rfl;have f1:=D.b.r3.froz 1 (by simp);have f2:=D.b.r3.froz 2 (by simp);have cl:=D.b.r3.lt;go_wp2_with fail;go_meet;exact ⟨_,_,pp,by omega,by omega,HE.out⟩
 by_cases h2:t=2
 ·subst h2
  clear HP;clear HT;have HE:=hid (D.isUp (!x.up));have c3:=D.b.r3.cell 3 _ rfl;have f3:=D.b.r3.froz 3 (by simp);have cl:=D.b.r3.lt;go_wp2_with fail;go_meet;exact ⟨_,_,p+1,by omega,by omega,HE.out⟩
 by_cases h3:t=3
 ·subst h3
  clear HP;clear HT;have c4:=D.b.r3.cell 4 _ rfl;have c5:=D.b.r3.cell 5 _ rfl;have c6:=D.b.r3.cell 6 _ rfl;have c7:=D.b.r3.cell 7 _ rfl;have c8:=D.b.r3.cell 8 _ rfl;have c9:=D.b.r3.cell 9 _ rfl;have c10:=D.b.r3.cell 10 _ rfl;have cU:=D.b.r3.cell 11 _ rfl;have c12:=D.b.r3.cell 12 _ rfl;have cV:=D.b.r3.cell 13 _ rfl;have cl:=D.b.r3.lt;go_wp2_with fail;clear c4 c5 c6 c7 c8 c9 c10 cU c12 cV cl;refine (xsW R a n c (p+1) x.W x.S x.L x.T x.H x.F x.R x.U x.O q4.s x.rs.length q4.cs _ D.b.rd (by omega)).mono ?_;rintro e v6 ⟨⟨W1,S1,L1,T1,H1,F1,Q1,U1,O1,y,rfl,hy⟩,⟨pp,q0,q1,hr⟩,hg⟩;obtain ⟨x',q',E⟩:=D.sto (W1:=W1) (S1:=S1) (L1:=L1) (T1:=T1) (H1:=H1) (F1:=F1) (Q1:=Q1) (U1:=U1) (O1:=O1) hr hg hy;replace D:=D.pick hr hg
  obtain ⟨ya,yk,yc,rfl⟩:∃ a k c,y=.slice a k c:=by
   rcases hy with rfl | ⟨rs,ho,_⟩
   ·exact ⟨_,_,_,rfl⟩
   ·rcases yUO ho with ⟨e,_⟩ | ⟨g,cap,e,_⟩<;>exact ⟨_,_,_,e⟩
  clear hr hg hy;have HE:=hid E;clear E;have cl:=D.b.r3.lt
  try simp only [PS]
  refine ‹∀ (a:Act) (w:World),wpList _ _ _ _ a w->_› _ _ ?_
  refine jAy rfl _ _ _ rfl (.pointer (some ⟨B,4,none⟩)) (by go_simp) ?_;simp only [PS];refine wpList_store_mid rfl 33 _ _ rfl B 4 #[.int .i64 W1,.int .i64 S1,.int .i64 L1,.int .i64 T1,.int .i64 H1,.int .i64 F1,.int .i64 Q1,.int .i64 U1,.int .i64 O1,.slice ya yk yc] rfl rfl (Row.thereMid (pre:=[.int .i64 x.w,.slice q4.a x.ss.length q4.c,.slice q4.a' x.ws.length q4.c',.bool x.up]) (cs:=[.int .i64 x.W,.int .i64 x.S,.int .i64 x.L,.int .i64 x.T,.int .i64 x.H,.int .i64 x.F,.int .i64 x.R,.int .i64 x.U,.int .i64 x.O,.slice q4.s x.rs.length q4.cs]) (post:=[.slice q4.p x.P.length q4.cp,.slice q4.t x.ts.length q4.ct]) D.b.r3 rfl) xdC (by kernel_rfl) ?_
  try simp only [PS]
  generalize aK:v6.setCells _ _ _=y6 at HE ⊢;clear aK cl;go_wp2_with fail;go_meet;exact ⟨_,_,pp,by omega,by omega,HE.out⟩
 by_cases h4:t=4
 ·subst h4
  clear HT;obtain ⟨G,news,E⟩:=HP.out;clear HP;have dO:=HG.out.ok.p.1;have cW:=D.b.r3.cell 14 _ rfl;have cl:=D.b.r3.lt;go_upto_region 13 with fail;clear cW cl D;have dD:=(E.below (Below.refl v5.heap.size v5).drew).b.r3.cell 14 _ rfl;refine yO4 (7) (S:=fun w'=>w'.cell? ⟨B,14,none⟩=some (.slice q4.p x.P.length q4.cp)) (by kernel_rfl) (dD) (fun aH=>?_);refine TYT 0 (.pointer (some ⟨B,14,none⟩)) rfl aH (TYT 1 (.slice q4.p x.P.length q4.cp) rfl aH (TYT 2 (.pointer (some ⟨R,0,none⟩)) rfl aH ?_));simp only [PS];refine RDT 3 rfl (fun Kq aB=>?_);obtain ⟨yb,aC⟩:∃ y,y=v5.drew:=⟨_,rfl⟩;rw [<-aC];have EB:=E.below (show Below v5.heap.size v5 yb by rw [aC];exact (Below.refl _ _).drew);have cJ:v2.heap.size<=yb.heap.size:=by rw [aC];exact bW
  clear aC;refine XRf (by rfl) _ _ (by go_simp) (xP2 R a n c (p+1) _ EB.b.rd (by omega)) ?_;rintro e y3 ⟨⟨y,rs,rfl,ho,hl,dY⟩,⟨qq,q0,q1,hr⟩,hg⟩;refine ⟨_,rfl,?_⟩;have E3:=EB.pick hr hg;have l3:=hg.size;obtain ⟨ya,yc,rfl,-⟩:=yUy ho;clear hr hg;refine aB.out _ _ (E3.b.r3.cell 14 _ rfl) (fun aW=>?_)
  try simp only [PS]
  refine RDT 4 rfl (fun Kq aB=>?_);go_simp;have E4:=E3.below (quc y3 (.cells #[.slice ya rs.length yc] 31));replace ho:=jcb ho (quc y3 (.cells #[.slice ya rs.length yc] 31));refine aB.out _ _ (E4.b.r3.cell 14 _ rfl) (fun aY=>?_)
  try simp only [PS]
  refine RDT 5 rfl (fun Kq aB=>?_);refine SAL _ (by rfl) _ _ _ (by rfl) v2.heap.size Tryz.underlying34 HJ.out rfl (by omega) (.slice q4.p x.P.length q4.cp) x.P.length _ (by rfl) E4.s.own ⟨y3.heap.size,0,none⟩ 1 1 [.slice ya rs.length yc] (by rfl) rfl (World.news_of_block (heap_alloc_new y3 _)) (XcT _ _ _) (by simp;omega) (y3.heap.size+1) (by simp) ?_;intro kk cap yA aD aA aF aI;obtain ⟨G9,E9⟩:=E4.push (L:=yb.heap.size) ((Xij ho).mono (fun b hl k=>⟨k,hl⟩)) cJ (fun b e=>(EB.s.own.lt _ e).2) EB.b.r3.lt ⟨by omega,by omega,fun s hs=>by have:=dY s hs;omega⟩ aD aA (aF.imp id (fun e=>by rw [e];simp));have rA:=E4.b.r3.grown aA (fun e=>E4.nB.2 e.symm);clear aD aA aF;refine aB.out _ _ (rA.cell 14 _ rfl) (fun aG=>?_)
  try simp only [PS]
  refine TYT 6 (.pointer (some ⟨B,14,none⟩)) rfl aG ?_;simp only [PS];refine kPc (rs:=[7]) (by kernel_rfl) (by simp) ?_;refine AllReadyT.last rfl (fun Kq aB=>?_);have l0:=rA.cell 14 _ rfl;have l1:=rA.froz 14 (by simp);have l2:=rA.lt;go_simp;clear l0 l1 l2;refine aB.out _ _ trivial (fun _=>?_)
  try simp only [PS]
  refine kgn (by kernel_rfl) ?_ _;have HE:=hid (E9.fin (by simp));clear E9 rA;generalize aE:World.setCell _ _ _=yC at HE ⊢;clear aE;go_wp2_with fail;go_meet;exact ⟨_,_,qq,by omega,by omega,HE.out⟩
 by_cases h5:t=5
 ·subst h5
  clear HT;go_wp2_with fail;refine (ZfV R a n c (p+1) 2 _ D.b.rd (by omega)).mono ?_;rintro e v6 ⟨⟨z,rfl,z0,z1⟩,hr,hg⟩;obtain ⟨G,news,E⟩:=HP.out;clear HP;have dO:=HG.out.ok.p.1;replace E:=E.pick hr hg;have eH:v2.heap.size<=v6.heap.size:=Nat.le_trans bW hg.size;clear hr hg D;obtain ⟨M,hM⟩:∃ N:Nat,(200:Int)+z=(N:Int):=⟨(200+z).toNat,by omega⟩;have eF:IntKind.i64.wrap ((200:Int)+z)=(M:Int):=by rw [hM];exact vRg _ (by omega) (by omega)
  have dH:M<=201:=by omega
  have dI:200<=M:=by omega
  have cI:IntKind.i64.wrap (M:Int)=(M:Int):=vRg _ (by omega) (by omega);have c0:=E.b.r3.cell 14 _ rfl;have cl:=E.b.r3.lt;go_wp2_with fail;clear c0 cl;go_loopw [] (fun wr=>Q0F v2 v1 R a n c (p+1+1) B x q4 M wr) (fun wr=>400-kki (wr.cell? ⟨B,14,none⟩))
  case atStart=>exact ⟨G,_,_,_,news,by omega,E⟩
  case round =>
   obtain ⟨G1,ya,yc,Q,ns,hQ,E1⟩:=hrel;clear E;have cS:v2.heap.size<=wr.heap.size:=by have:=E1.b.r3.lt;omega
   by_cases dN:Q.length<M
   ·have aM:(Q.length:Int)<(M:Int):=by omega
    have c0:=E1.b.r3.cell 14 _ rfl;have cl:=E1.b.r3.lt;have aP:=hid (E1.below (quc wr (.cells #[.slice none 0 0] 31)));have cB:=cl
    go_wp2_with (first | (at_builtin;refine WAL _ rfl _ _ 34 rfl v2.heap.size Tryz.underlying34 HJ.out rfl (by omega) _ Q.length _ rfl aP.out.s.own ⟨wr.heap.size,0,none⟩ 1 1 [.slice none 0 0] rfl rfl (World.news_of_block (heap_alloc_new wr _)) (XcT _ _ _) (by simp;omega) (wr.heap.size+1) (by simp) ?_;intro kk cap yA aD aA aF aI;obtain ⟨G9,E9⟩:=aP.out.push (L:=wr.heap.size+1) (rs:=[]) (p1:=none) (c1:=0) (zHg (fun W=>.inl rfl)) (by omega) (fun b e=>by have:=(aP.out.s.own.lt _ e).2;simpa using this) (by omega) ⟨by omega,by simp,by simp⟩ aD aA (aF.imp id (fun e=>by rw [e];simp));have rA:=aP.out.b.r3.grown aA (fun e=>aP.out.nB.2 e.symm);have l0:=rA.cell 14 _ rfl;have l1:=rA.froz 14 (by simp);have l2:=rA.lt;have cN:=hid E9;clear aD aA aF E9 rA))
    have E2:=cN.out;clear cN aP l0 l1 l2;generalize aE:World.setCell _ _ _=yC at E2 ⊢;clear aE c0 cl cB;obtain ⟨Q2,e2⟩:∃ l:List (List Pr),l=Q++[[]]:=⟨_,rfl⟩;have cF:Q2.length=Q.length+1:=by rw [e2];simp
    rw [<-e2,<-cF] at E2;clear e2;have aN:=XX0 (E1.b.r3.cell 14 _ rfl);have aO:=XX0 (E2.b.r3.cell 14 _ rfl);go_roundw
    case rel=>exact ⟨_,_,_,Q2,_,by omega,E2⟩
    case measure=>(try rw [aN,aO]);omega
   ·have aM:¬ (Q.length:Int)<(M:Int):=by omega
    have HE:=hid (E1.fin rfl);have c0:=E1.b.r3.cell 14 _ rfl;have cl:=E1.b.r3.lt;clear E1;go_wp2_with fail;go_meet;exact ⟨_,_,p+1+1,by omega,by omega,HE.out⟩
 by_cases h6:t=6
 ·subst h6
  clear HP;go_wp2_with fail;refine (ZfV R a n c (p+1) 2 _ D.b.rd (by omega)).mono ?_;rintro e v6 ⟨⟨z,rfl,z0,z1⟩,hr,hg⟩;obtain ⟨G,E⟩:=HT.out;clear HT;have dQ:=HG.out.ok.t.1;replace E:=E.pick hr hg;have eH:v2.heap.size<=v6.heap.size:=Nat.le_trans bW hg.size;clear hr hg D;obtain ⟨M,hM⟩:∃ N:Nat,(2000:Int)+z=(N:Int):=⟨(2000+z).toNat,by omega⟩;have eF:IntKind.i64.wrap ((2000:Int)+z)=(M:Int):=by rw [hM];exact vRg _ (by omega) (by omega)
  have dH:M<=2001:=by omega
  have dI:2000<=M:=by omega
  have cI:IntKind.i64.wrap (M:Int)=(M:Int):=vRg _ (by omega) (by omega);have c0:=E.b.r3.cell 15 _ rfl;have cl:=E.b.r3.lt;go_wp2_with fail;clear c0 cl;go_loopw [] (fun wr=>zyI v2 v1 R a n c (p+1+1) B x q4 M wr) (fun wr=>4000-kki (wr.cell? ⟨B,15,none⟩))
  case atStart=>exact ⟨G,_,_,_,by omega,E⟩
  case round =>
   obtain ⟨G1,ya,yc,Q,hQ,E1⟩:=hrel;clear E;have cS:v2.heap.size<=wr.heap.size:=by have:=E1.b.r3.lt;omega
   by_cases dN:Q.length<M
   ·have aM:(Q.length:Int)<(M:Int):=by omega
    have c0:=E1.b.r3.cell 15 _ rfl;have cl:=E1.b.r3.lt;go_upto_region 21 with fail;clear c0 cl;have dD:=(E1.below (Below.refl wr.heap.size wr).drew).b.r3.cell 15 _ rfl;refine yO4 (6) (S:=fun w'=>w'.cell? ⟨B,15,none⟩=some (.slice ya Q.length yc)) (by kernel_rfl) (dD) (fun aH=>?_);refine TYT 0 (.pointer (some ⟨B,15,none⟩)) rfl aH (TYT 1 (.slice ya Q.length yc) rfl aH ?_);simp only [PS];refine RDT 2 rfl (fun Kq aB=>?_);obtain ⟨yb,aC⟩:∃ y,y=wr.drew:=⟨_,rfl⟩;rw [<-aC];have EB:=E1.below (show Below wr.heap.size wr yb by rw [aC];exact (Below.refl _ _).drew);have cJ:v2.heap.size<=yb.heap.size:=by rw [aC];exact cS
    clear aC;refine XRf (by rfl) 26 #[] (by go_simp) (zeros_s _) ?_;rintro e y2 ⟨rfl,aQ⟩;refine ⟨_,rfl,?_⟩;have E3:=EB.below aQ;have l2:=aQ.size;clear aQ;refine aB.out _ _ (E3.b.r3.cell 15 _ rfl) (fun aW=>?_)
    try simp only [PS]
    refine RDT 3 rfl (fun Kq aB=>?_);go_simp;have E4:=E3.below (quc y2 (.cells #[.string zeros] 9));refine aB.out _ _ (E4.b.r3.cell 15 _ rfl) (fun aY=>?_)
    try simp only [PS]
    refine RDT 4 rfl (fun Kq aB=>?_);refine SAL _ (by rfl) _ _ _ (by rfl) v2.heap.size Tryz.underlying23 HI.out rfl (by omega) (.slice ya Q.length yc) Q.length _ (by rfl) E4.o ⟨y2.heap.size,0,none⟩ 1 1 [.string zeros] (by rfl) rfl (World.news_of_block (heap_alloc_new y2 _)) (xeS _) (by simp;omega) (y2.heap.size+1) (by simp) ?_;intro kk cap yA aD aA aF aI;have E9:=E4.push ⟨by omega,by have:=Qt0;omega⟩ aD aA (aF.imp id (fun e=>by rw [e];simp));have rA:=E4.b.r3.grown aA (fun e=>E4.nB.2 e.symm);clear aD aA aF;refine aB.out _ _ (rA.cell 15 _ rfl) (fun aG=>?_)
    try simp only [PS]
    refine TYT 5 (.pointer (some ⟨B,15,none⟩)) rfl aG ?_;simp only [PS];refine kPc (rs:=[6]) (by kernel_rfl) (by simp) ?_;refine AllReadyT.last rfl (fun Kq aB=>?_);have l0:=rA.cell 15 _ rfl;have l1:=rA.froz 15 (by simp);have l2:=rA.lt;go_simp;clear l0 l1 l2;refine aB.out _ _ trivial (fun _=>?_)
    try simp only [PS]
    refine kgn (by kernel_rfl) ?_ _;clear rA;generalize aE:World.setCell _ _ _=yC at E9 ⊢;clear aE;obtain ⟨Q2,e2⟩:∃ l:List ByteArray,l=Q++[zeros]:=⟨_,rfl⟩;have cF:Q2.length=Q.length+1:=by rw [e2];simp
    rw [<-e2,<-cF] at E9;clear e2;have aN:=XX0 (E1.b.r3.cell 15 _ rfl);have aO:=XX0 (E9.b.r3.cell 15 _ rfl);go_wp2_with fail;go_roundw
    case rel=>exact ⟨_,_,_,Q2,by omega,E9⟩
    case measure=>(try rw [aN,aO]);omega
   ·have aM:¬ (Q.length:Int)<(M:Int):=by omega
    have HE:=hid (E1.fin rfl);have c0:=E1.b.r3.cell 15 _ rfl;have cl:=E1.b.r3.lt;clear E1;go_wp2_with fail;go_meet;exact ⟨_,_,p+1+1,by omega,by omega,HE.out⟩
 clear HP;obtain ⟨G,E⟩:=HT.out;clear HT;have dQ:=HG.out.ok.t.1;have cY:=D.b.r3.cell 15 _ rfl;have cl:=D.b.r3.lt;go_upto_region 3 with fail;clear cY cl D;have dD:=(E.below (Below.refl v5.heap.size v5).drew).b.r3.cell 15 _ rfl;refine yO4 (11) (S:=fun w'=>w'.cell? ⟨B,15,none⟩=some (.slice q4.t x.ts.length q4.ct)) (by kernel_rfl) (dD) (fun aH=>?_);refine TYT 0 (.pointer (some ⟨B,15,none⟩)) rfl aH (TYT 1 (.slice q4.t x.ts.length q4.ct) rfl aH (TYT 4 (.pointer (some ⟨R,0,none⟩)) rfl aH ?_));simp only [PS];refine RDT 2 rfl (fun Kq aB=>?_);obtain ⟨yb,aC⟩:∃ y,y=v5.drew:=⟨_,rfl⟩;rw [<-aC];have EB:=E.below (show Below v5.heap.size v5 yb by rw [aC];exact (Below.refl _ _).drew);have cJ:v2.heap.size<=yb.heap.size:=by rw [aC];exact bW
 clear aC;refine XRf (by rfl) 26 #[] (by go_simp) (zeros_s _) ?_;rintro e y2 ⟨rfl,aQ⟩;refine ⟨_,rfl,?_⟩;have E2:=EB.below aQ;clear aQ;refine aB.out _ _ (E2.b.r3.cell 15 _ rfl) (fun aW=>?_)
 try simp only [PS]
 refine kPc (rs:=[3,5]) (by kernel_rfl) (by simp) ?_;refine AllReadyT.cons rfl (fun Kq aB=>?_) (AllReadyT.cons rfl (fun Kq aB=>?_) AllReadyT.nil)
 ·go_simp
  have b7:R<y2.heap.size:=ykG E2.b.rd.pc;generalize aK:y2.alloc _=y3;obtain ⟨hb,cK,b1⟩:=bx1 aK;have E3:=E2.below hb;obtain ⟨X,aS⟩:∃ k,k=y2.heap.size:=⟨_,rfl⟩;have dJ:X≠R:=by omega
  rw [<-aS] at b1 ⊢;have rX:=b1.now;clear hb b1 cK aS b7 aK;refine aB.out _ _ (E3.b.r3.cell 15 _ rfl) (fun aY=>?_)
  try simp only [PS]
  refine RDT 5 rfl (fun Kq aB=>?_);refine XRf (by rfl) _ _ (by go_simp) (ZfV R a n c (p+1) 2 _ E3.b.rd (by omega)) ?_;rintro e y5 ⟨⟨m',rfl,m0,m1⟩,hr,hg⟩;refine ⟨_,rfl,?_⟩;have E5:=E3.pick hr hg;replace rX:=rX.grown hg (fun e=>by injection e with e;omega);obtain ⟨m,rfl⟩:∃ m:Nat,m'=(m:Int):=⟨m'.toNat,by omega⟩;have hm:m<2:=by omega
  clear hr hg m0 m1;refine aB.out _ _ (E5.b.r3.cell 15 _ rfl) (fun aG=>?_)
  try simp only [PS]
  refine RDT 6 rfl (fun Kq aB=>?_);have aN:(m:Int)<2:=by omega
  have aO:¬ ((2:Int)<=(m:Int)):=by omega
  have cE:=rX.lt;go_simp;clear aN aO cE;refine aB.out _ _ aG (fun _=>?_)
  try simp only [PS]
  refine RDT 7 rfl (fun Kq aB=>?_)
  obtain ⟨s,cC,eC⟩:∃ s:ByteArray,y5.cell? ⟨X,m,none⟩=some (.string s)/\s.size<=64:=by
   have:m=0\/m=1:=by omega
   rcases this with rfl | rfl
   ·exact ⟨_,rX.cell 0 _ rfl,by decide⟩
   ·exact ⟨_,rX.cell 1 _ rfl,Qt0⟩
  go_simp;clear cC;refine aB.out _ _ aG (fun _=>?_)
  try simp only [PS]
  refine RDT 8 rfl (fun Kq aB=>?_);go_simp;have eG:v2.heap.size<=y5.heap.size:=by have:=E5.b.r3.lt;omega
  have E8:=E5.below (quc y5 (.cells #[.string s] 9));refine aB.out _ _ (E8.b.r3.cell 15 _ rfl) (fun cZ=>?_)
  try simp only [PS]
  refine RDT 9 rfl (fun Kq aB=>?_);refine SAL _ (by rfl) _ _ _ (by rfl) v2.heap.size Tryz.underlying23 HI.out rfl (by omega) (.slice q4.t x.ts.length q4.ct) x.ts.length _ (by rfl) E8.o ⟨y5.heap.size,0,none⟩ 1 1 [.string s] (by rfl) rfl (World.news_of_block (heap_alloc_new y5 _)) (xeS _) (by simp;omega) (y5.heap.size+1) (by simp) ?_;intro kk cap yA aD aA aF aI;have E9:=E8.push ⟨by omega,by omega⟩ aD aA (aF.imp id (fun e=>by rw [e];simp));have rA:=E8.b.r3.grown aA (fun e=>E8.nB.2 e.symm);clear aD aA aF;refine aB.out _ _ (rA.cell 15 _ rfl) (fun bZ=>?_)
  try simp only [PS]
  refine TYT 10 (.pointer (some ⟨B,15,none⟩)) rfl bZ ?_;simp only [PS];refine kPc (rs:=[11]) (by kernel_rfl) (by simp) ?_;refine AllReadyT.last rfl (fun Kq aB=>?_);have l0:=rA.cell 15 _ rfl;have l1:=rA.froz 15 (by simp);have l2:=rA.lt;go_simp;clear l0 l1 l2;refine aB.out _ _ trivial (fun _=>?_)
  try simp only [PS]
  refine kgn (by kernel_rfl) ?_ _;have HE:=hid (E9.fin (by simp));clear E9 rA;generalize aE:World.setCell _ _ _=yC at HE ⊢;clear aE;go_wp2_with fail;go_meet;exact ⟨_,_,p+1+1,by omega,by omega,HE.out⟩
 ·refine XRf (by rfl) _ _ (by go_simp) (ZfV R a n c (p+1) 2 _ E2.b.rd (by omega)) ?_
  rintro e y5 ⟨⟨m',rfl,m0,m1⟩,hr,hg⟩;refine ⟨_,rfl,?_⟩;have E5:=E2.pick hr hg;obtain ⟨m,rfl⟩:∃ m:Nat,m'=(m:Int):=⟨m'.toNat,by omega⟩;have hm:m<2:=by omega
  clear hr hg m0 m1;refine aB.out _ _ (E5.b.r3.cell 15 _ rfl) (fun dE=>?_)
  try simp only [PS]
  refine RDT 3 rfl (fun Kq aB=>?_);go_simp;have b7:R<y5.heap.size:=ykG E5.b.rd.pc;generalize aK:y5.alloc _=y3;obtain ⟨hb,cK,b1⟩:=bx1 aK;have E3:=E5.below hb;obtain ⟨X,aS⟩:∃ k,k=y5.heap.size:=⟨_,rfl⟩;have dJ:X≠R:=by omega
  rw [<-aS] at b1 ⊢;have rX:=b1.now;clear hb b1 cK aS b7 aK;refine aB.out _ _ (E3.b.r3.cell 15 _ rfl) (fun aJ=>?_)
  try simp only [PS]
  refine RDT 6 rfl (fun Kq aB=>?_);have aN:(m:Int)<2:=by omega
  have aO:¬ ((2:Int)<=(m:Int)):=by omega
  have cE:=rX.lt;go_simp;clear aN aO cE;refine aB.out _ _ aJ (fun _=>?_)
  try simp only [PS]
  refine RDT 7 rfl (fun Kq aB=>?_)
  obtain ⟨s,cC,eC⟩:∃ s:ByteArray,y3.cell? ⟨X,m,none⟩=some (.string s)/\s.size<=64:=by
   have:m=0\/m=1:=by omega
   rcases this with rfl | rfl
   ·exact ⟨_,rX.cell 0 _ rfl,by decide⟩
   ·exact ⟨_,rX.cell 1 _ rfl,Qt0⟩
  go_simp;clear cC;refine aB.out _ _ aJ (fun _=>?_)
  try simp only [PS]
  refine RDT 8 rfl (fun Kq aB=>?_);go_simp;have eG:v2.heap.size<=y3.heap.size:=by have:=E3.b.r3.lt;omega
  have E8:=E3.below (quc y3 (.cells #[.string s] 9));refine aB.out _ _ (E8.b.r3.cell 15 _ rfl) (fun cP=>?_)
  try simp only [PS]
  refine RDT 9 rfl (fun Kq aB=>?_);refine SAL _ (by rfl) _ _ _ (by rfl) v2.heap.size Tryz.underlying23 HI.out rfl (by omega) (.slice q4.t x.ts.length q4.ct) x.ts.length _ (by rfl) E8.o ⟨y3.heap.size,0,none⟩ 1 1 [.string s] (by rfl) rfl (World.news_of_block (heap_alloc_new y3 _)) (xeS _) (by simp;omega) (y3.heap.size+1) (by simp) ?_;intro kk cap yA aD aA aF aI;have E9:=E8.push ⟨by omega,by omega⟩ aD aA (aF.imp id (fun e=>by rw [e];simp));have rA:=E8.b.r3.grown aA (fun e=>E8.nB.2 e.symm);clear aD aA aF;refine aB.out _ _ (rA.cell 15 _ rfl) (fun aX=>?_)
  try simp only [PS]
  refine TYT 10 (.pointer (some ⟨B,15,none⟩)) rfl aX ?_;simp only [PS];refine kPc (rs:=[11]) (by kernel_rfl) (by simp) ?_;refine AllReadyT.last rfl (fun Kq aB=>?_);have l0:=rA.cell 15 _ rfl;have l1:=rA.froz 15 (by simp);have l2:=rA.lt;go_simp;clear l0 l1 l2;refine aB.out _ _ trivial (fun _=>?_)
  try simp only [PS]
  refine kgn (by kernel_rfl) ?_ _;have HE:=hid (E9.fin (by simp));clear E9 rA;generalize aE:World.setCell _ _ _=yC at HE ⊢;clear aE;go_wp2_with fail;go_meet;exact ⟨_,_,p+1+1,by omega,by omega,HE.out⟩
end Go.Proofs.YtehbpeinnepdcaaGreatDoor
