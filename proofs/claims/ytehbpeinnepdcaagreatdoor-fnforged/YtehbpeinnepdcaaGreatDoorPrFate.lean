import Derived.Test.YtehbpeinnepdcaaGreatDoorPrG40
set_option maxHeartbeats 16000000
namespace Go.Proofs.YtehbpeinnepdcaaGreatDoor
open Go.RowKit
set_option maxRecDepth 4000
set_option linter.unusedVariables false
def Ints (w:World) (a:Option Addr) (zs:List Int):Prop :=
 zs=[]\/∃ b o,a=some ⟨b,o,none⟩/\b<w.heap.size/\∀ i,i<zs.length->w.cell? ⟨b,o+i,none⟩=some (.int .i64 (zs.getD i 0))
theorem Ints.below {w w':World} {a:Option Addr} {zs:List Int} (h:Ints w a zs) (hb:Below w.heap.size w w'):Ints w' a zs:=by
 rcases h with h | ⟨b,o,h1,h2,h3⟩
 ·exact .inl h
 ·exact .inr ⟨b,o,h1,Nat.lt_of_lt_of_le h2 hb.size,fun i hi=>(hb.cell (p:=⟨b,o+i,none⟩) h2).trans (h3 i hi)⟩
theorem Ints.at {w:World} {a:Option Addr} {zs:List Int} (h:Ints w a zs) {k:Nat} (hk:k<zs.length):∃ b o z,a=some ⟨b,o,none⟩/\b<w.heap.size/\w.cell? ⟨b,o+k,none⟩=some (.int .i64 z)/\Hid (z=zs.getD k 0):=by
 rcases h with h | ⟨b,o,h1,h2,h3⟩
 ·subst h;simp at hk
 ·exact ⟨b,o,_,h1,h2,h3 k hk,hid rfl⟩
def fate (zs:List Int) (i:Nat):Nat:=if i<zs.length then (if zs.getD i 0<0 then 0 else if 64<zs.getD i 0 then 64 else (zs.getD i 0).toNat) else 0
theorem zrd (zs:List Int) (i:Nat):fate zs i<=64:=by unfold fate;split<;>(try split)<;>(try split)<;>omega
end Go.Proofs.YtehbpeinnepdcaaGreatDoor
