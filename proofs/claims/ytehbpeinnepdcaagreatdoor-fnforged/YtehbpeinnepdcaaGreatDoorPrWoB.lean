import Derived.Test.YtehbpeinnepdcaaGreatDoorPrVStI
set_option maxHeartbeats 16000000
namespace Go.Proofs.YtehbpeinnepdcaaGreatDoor
open Go.RowKit
set_option maxRecDepth 8000
set_option linter.unusedVariables false
set_option linter.unusedSimpArgs false
theorem Qd8 (w:World) (A:Array Value) (t:TypeId) (g:Nat) (hg:g=w.heap.size):Row (w.alloc (.cells A t)) g A.toList:=by subst hg;exact xER w A t
structure Wo where
 w:Int
 ss:List ByteArray
 ws:List (Int×ByteArray)
 up:Bool
 W:Int
 S:Int
 L:Int
 T:Int
 H:Int
 F:Int
 R:Int
 U:Int
 O:Int
 rs:List (ByteArray×ByteArray)
 P:List (List (ByteArray×ByteArray))
 ts:List ByteArray
structure Wp where
 a:Option Addr
 c:Nat
 a':Option Addr
 c':Nat
 s:Option Addr
 cs:Nat
 p:Option Addr
 cp:Nat
 t:Option Addr
 ct:Nat
def Zov (x:Wo) (q:Wp):Value:=.agg #[.int .i64 x.w,.slice q.a x.ss.length q.c,.slice q.a' x.ws.length q.c',.bool x.up,.int .i64 x.W,.int .i64 x.S,.int .i64 x.L,.int .i64 x.T,.int .i64 x.H,.int .i64 x.F,.int .i64 x.R,.int .i64 x.U,.int .i64 x.O,.slice q.s x.rs.length q.cs,.slice q.p x.P.length q.cp,.slice q.t x.ts.length q.ct]
structure Wo.at (x:Wo) (w:World) (q:Wp):Prop where
 h1:Strs w q.a x.ss
 h2:Wrs w q.a' x.ws
 h3:Prs w q.s x.rs
 h4:Pst w q.p x.P
 h5:Strs w q.t x.ts
theorem Wo.at.below {x:Wo} {w w':World} {q:Wp} (h:x.at w q) (hb:Below w.heap.size w w'):x.at w' q:=⟨h.h1.below hb,h.h2.below hb,h.h3.below hb,h.h4.below hb,h.h5.below hb⟩
structure Wo.le (x:Wo) (m:Nat):Prop where
 l1:x.ss.length<=m
 s1:∀ s∈x.ss,s.size<=m
 l2:x.ws.length<=m
 s2:∀ s∈x.ws,s.2.size<=m
 l3:x.rs.length<=m
 s3:∀ s∈x.rs,s.1.size<=m/\s.2.size<=m
 l4:x.P.length<=m
 s4:∀ rs∈x.P,rs.length<=m/\∀ s∈rs,s.1.size<=m/\s.2.size<=m
 l5:x.ts.length<=m
 s5:∀ s∈x.ts,s.size<=m
end Go.Proofs.YtehbpeinnepdcaaGreatDoor
