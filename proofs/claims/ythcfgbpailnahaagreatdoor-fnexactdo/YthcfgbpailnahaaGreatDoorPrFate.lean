import Derived.Test.YthcfgbpailnahaaGreatDoorPrG28
set_option maxHeartbeats 16000000
namespace Go.Proofs.YthcfgbpailnahaaGreatDoor
open Tryz
open Go.RowKit
set_option maxRecDepth 4000
set_option linter.all false
def Ints(w:World)(a:Option Addr)(zs:List Int):Prop :=zs=[]\/∃b o,a=some ⟨b,o,none⟩/\b<w.heap.size/\∀i,i<zs.length->w.cell? ⟨b,o+i,none⟩=some (.int .i64 (zs.getD i 0))
def Ints.I{w w':World}{a:Option Addr}{zs:List Int}(h:Ints w a zs)(hb:Below w.heap.size w w'):Ints w' a zs:=by
 rcases h with h|⟨b,o,h1,h2,h3⟩
 ·exact .inl h
 exact .inr ⟨b,o,h1,AD h2 hb.size,λi hi=>(hb.cell (p:=⟨b,o+i,none⟩) h2).j (h3 i hi)⟩
def Ints.at{w:World}{a:Option Addr}{zs:List Int}(h:Ints w a zs){k:Nat}(hk:k<zs.length):∃b o z,a=some ⟨b,o,none⟩/\b<w.heap.size/\w.cell? ⟨b,o+k,none⟩=some (.int .i64 z)/\Hid (z=zs.getD k 0):=by
 rcases h with h|⟨b,o,h1,h2,h3⟩
 ·subst h;simp at hk
 exact⟨b,o,_,h1,h2,h3 k hk,LE rfl⟩
def yAP(zs:List Int)(i:Nat):Nat:=if i<zs.length then (if zs.getD i 0<0 then 0 else if 64<zs.getD i 0 then 64 else (zs.getD i 0).toNat) else 0
def rf(zs:List Int)(i:Nat):yAP zs i<=64:=by unfold yAP;split<;>(try split)<;>(try split)<;>omega
def Ge(a:Option Addr)(zs:List Int)(c i:Nat)(w:World)(h:Ints w a zs)(hl:zs.length<=1048576)(hi:i<=1048576):Calls prog 186 #[.slice a zs.length c,.int .i64 (i:Int)] w λe w'=>e=.returned (.int .i64 (yAP zs i:Int))/\w'=w:=by
 by_cases aB:i<zs.length
 ·obtain⟨b,o,z,rfl,hb,hc,HZ⟩:=h.at aB
  have hF:Hid ((yAP zs i:Int)=if z<0 then 0 else if 64<z then 64 else z):=by
   show _=_;unfold yAP;rw[AK aB,<-HZ.o]
   split
   ·rfl
   split
   ·rfl
   omega
  have aC:¬((zs.length:Int)<=(i:Int)):=by omega
  by_cases h1:z<0
  focus
   have aA:=LE (hF.o.j (AK h1));clear hF
  rotate_left
  focus
   by_cases h2:64<z
   focus
    have aA:=LE (hF.o.j ((AE h1).j (AK h2)));clear hF
   rotate_left
   focus
    have aA:=LE (hF.o.j ((AE h1).j (AE h2)));have h3:0<=z:=by omega
    have h4:z<=64:=by omega
    clear hF h1 h2
   rotate_left
  rotate_left 2
  all_goals
   go_enter func186,ntmps186;go_wp2;go_ret;exact⟨MU aA.o.symm,rfl⟩
 have aC:(zs.length:Int)<=(i:Int):=by omega
 go_enter func186,ntmps186;go_wp2;go_ret;exact⟨MU (by unfold yAP;rw[AE aB];rfl),rfl⟩
