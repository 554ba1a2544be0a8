import Derived.Test.YtcdojnnkjeakmaaGreatDoorPrG48
set_option maxHeartbeats 16000000
namespace Go.Proofs.YtcdojnnkjeakmaaGreatDoor
open Go.RowKit
set_option maxRecDepth 8000
set_option linter.unusedVariables false
set_option linter.unusedSimpArgs false
structure Wo where
 w:Int
 ss:List ByteArray
 ws:List (Int×ByteArray)
 up:Bool
 W:Int
 S:Int
 L:Int
 T:Int
 H:Int
 F:Int
 R:Int
 U:Int
 O:Int
 rs:List (ByteArray×ByteArray)
 P:List (List (ByteArray×ByteArray))
 ts:List ByteArray
structure Wp where
 a:Option Addr
 c:Nat
 a':Option Addr
 c':Nat
 s:Option Addr
 cs:Nat
 p:Option Addr
 cp:Nat
 t:Option Addr
 ct:Nat
def Zov (x:Wo) (q:Wp):Value:=.agg #[.int .i64 x.w,.slice q.a x.ss.length q.c,.slice q.a' x.ws.length q.c',.bool x.up,.int .i64 x.W,.int .i64 x.S,.int .i64 x.L,.int .i64 x.T,.int .i64 x.H,.int .i64 x.F,.int .i64 x.R,.int .i64 x.U,.int .i64 x.O,.slice q.s x.rs.length q.cs,.slice q.p x.P.length q.cp,.slice q.t x.ts.length q.ct]
structure Wo.at (x:Wo) (w:World) (q:Wp):Prop where
 h1:Strs w q.a x.ss
 h2:Wrs w q.a' x.ws
 h3:Prs w q.s x.rs
 h4:Pst w q.p x.P
 h5:Strs w q.t x.ts
theorem Wo.at.below {x:Wo} {w w':World} {q:Wp} (h:x.at w q) (hb:Below w.heap.size w w'):x.at w' q:=⟨h.h1.below hb,h.h2.below hb,h.h3.below hb,h.h4.below hb,h.h5.below hb⟩
structure Wo.le (x:Wo) (m:Nat):Prop where
 l1:x.ss.length<=m
 s1:∀ s∈x.ss,s.size<=m
 l2:x.ws.length<=m
 s2:∀ s∈x.ws,s.2.size<=m
 l3:x.rs.length<=m
 s3:∀ s∈x.rs,s.1.size<=m/\s.2.size<=m
 l4:x.P.length<=m
 s4:∀ rs∈x.P,rs.length<=m/\∀ s∈rs,s.1.size<=m/\s.2.size<=m
 l5:x.ts.length<=m
 s5:∀ s∈x.ts,s.size<=m
theorem OwnP.other {w:World} {g k:Nat} {P:List (List (ByteArray×ByteArray))} {gs:Nat->Nat} (h:OwnP w g P gs k) (p:Addr) (hp:p.block<g) (v:Value):OwnP (w.setCell p v) g P gs k :=
 ⟨h.row.other p (by omega) v,fun i hi=>⟨(h.st i hi).1.other p (by have:=(h.st i hi).2;omega) v,(h.st i hi).2⟩,h.asc⟩
structure OwnW (x:Wo) (w:World) (base g1 g2 g3 g4 g5:Nat) (gs:Nat->Nat):Prop where
 r1:Row w g1 (x.ss.map Value.string)
 r2:Row w g2 (yaV x.ws)
 r3:Row w g3 (qJS x.rs)
 r4:OwnP w g4 x.P gs x.P.length
 r5:Row w g5 (x.ts.map Value.string)
 b1:base<=g1
 b2:base<=g2
 n12:g1≠g2
 o13:g1<g3
 o23:g2<g3
 o34:g3<g4
 o45:g4<g5
 ogs:∀ i,i<x.P.length->gs i<g5
abbrev xg0 (x:Wo) (g1 g2 g3 g4 g5:Nat):Wp:=⟨some ⟨g1,0,none⟩,x.ss.length,some ⟨g2,0,none⟩,x.ws.length,some ⟨g3,0,none⟩,x.rs.length,some ⟨g4,0,none⟩,x.P.length,some ⟨g5,0,none⟩,x.ts.length⟩
theorem OwnW.below {x:Wo} {w w':World} {base g1 g2 g3 g4 g5:Nat} {gs:Nat->Nat} (h:OwnW x w base g1 g2 g3 g4 g5 gs) (hb:Below w.heap.size w w'):OwnW x w' base g1 g2 g3 g4 g5 gs :=
 ⟨h.r1.below hb,h.r2.below hb,h.r3.below hb,h.r4.below hb,h.r5.below hb,h.b1,h.b2,h.n12,h.o13,h.o23,h.o34,h.o45,h.ogs⟩
theorem OwnW.at {x:Wo} {w:World} {base g1 g2 g3 g4 g5:Nat} {gs:Nat->Nat} (h:OwnW x w base g1 g2 g3 g4 g5 gs):x.at w (xg0 x g1 g2 g3 g4 g5) :=
 ⟨h.r1.strs,h.r2.wrs,h.r3.prs,h.r4.pst,h.r5.strs⟩
end Go.Proofs.YtcdojnnkjeakmaaGreatDoor
