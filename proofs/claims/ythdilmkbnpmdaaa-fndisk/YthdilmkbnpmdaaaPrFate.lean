import Derived.Test.YthdilmkbnpmdaaaPrG50
set_option maxHeartbeats 16000000
namespace Go.Proofs.Ythdilmkbnpmdaaa
open Go.RowKit
set_option maxRecDepth 4000
set_option linter.unusedVariables false
def Ints (w:World) (a:Option Addr) (zs:List Int):Prop :=
 zs=[]\/∃ b o,a=some ⟨b,o,none⟩/\b<w.heap.size/\∀ i,i<zs.length->w.cell? ⟨b,o+i,none⟩=some (.int .i64 (zs.getD i 0))
theorem Ints.below {w w':World} {a:Option Addr} {zs:List Int} (h:Ints w a zs) (hb:Below w.heap.size w w'):Ints w' a zs:=by
 rcases h with h | ⟨b,o,h1,h2,h3⟩
 ·exact .inl h
 ·exact .inr ⟨b,o,h1,Nat.lt_of_lt_of_le h2 hb.size,fun i hi=>(hb.cell (p:=⟨b,o+i,none⟩) h2).trans (h3 i hi)⟩
theorem Ints.at {w:World} {a:Option Addr} {zs:List Int} (h:Ints w a zs) {k:Nat} (hk:k<zs.length):∃ b o z,a=some ⟨b,o,none⟩/\b<w.heap.size/\w.cell? ⟨b,o+k,none⟩=some (.int .i64 z)/\Hid (z=zs.getD k 0):=by
 rcases h with h | ⟨b,o,h1,h2,h3⟩
 ·subst h;simp at hk
 ·exact ⟨b,o,_,h1,h2,h3 k hk,hid rfl⟩
def fate (zs:List Int) (i:Nat):Nat:=if i<zs.length then (if zs.getD i 0<0 then 0 else if 64<zs.getD i 0 then 64 else (zs.getD i 0).toNat) else 0
theorem fate_le (zs:List Int) (i:Nat):fate zs i<=64:=by unfold fate;split<;>(try split)<;>(try split)<;>omega
theorem fate_i (a:Option Addr) (zs:List Int) (c i:Nat) (w:World) (h:Ints w a zs) (hl:zs.length<=1048576) (hi:i<=1048576) :
  Calls Try.prog 27 #[.slice a zs.length c,.int .i64 (i:Int)] w fun e w'=>e=.returned (.int .i64 (fate zs i:Int))/\w'=w:=by
 by_cases hlt:i<zs.length
 ·obtain ⟨b,o,z,rfl,hb,hc,HZ⟩:=h.at hlt
  have hF:Hid ((fate zs i:Int)=if z<0 then 0 else if 64<z then 64 else z):=by
   show _=_
   unfold fate
   rw [if_pos hlt,<-HZ.out]
   split
   ·rfl
   ·split
    ·rfl
    ·omega
  have hlt':¬ ((zs.length:Int)<=(i:Int)):=by omega
  by_cases h1:z<0
  ·have hF1:=hid (hF.out.trans (if_pos h1))
   clear hF
   go_enter Try.func27,Try.ntmps27
   go_wp2
   go_ret
   exact ⟨ret_int hF1.out.symm,rfl⟩
  ·by_cases h2:64<z
   ·have hF1:=hid (hF.out.trans ((if_neg h1).trans (if_pos h2)))
    clear hF
    go_enter Try.func27,Try.ntmps27
    go_wp2
    go_ret
    exact ⟨ret_int hF1.out.symm,rfl⟩
   ·have hF1:=hid (hF.out.trans ((if_neg h1).trans (if_neg h2)))
    have h3:0<=z:=by omega
    have h4:z<=64:=by omega
    clear hF h1 h2
    go_enter Try.func27,Try.ntmps27
    go_wp2
    go_ret
    exact ⟨ret_int hF1.out.symm,rfl⟩
 ·have hlt':(zs.length:Int)<=(i:Int):=by omega
  go_enter Try.func27,Try.ntmps27
  go_wp2
  go_ret
  exact ⟨ret_int (by unfold fate;rw [if_neg hlt];rfl),rfl⟩
end Go.Proofs.Ythdilmkbnpmdaaa
