import Derived.Test.YtmlejnbjclkdjaaGreatDoorPrG45
set_option maxHeartbeats 16000000
namespace Go.Proofs.YtmlejnbjclkdjaaGreatDoor
open Tryz
open Go.RowKit
set_option maxRecDepth 4000
set_option linter.all false
def Ints(w:Nb)(a:M6)(c:List Int):Prop :=c=[]\/∃b o,a=Mw b o/\b<w.heap.size/\∀i,i<c.length->w.cell? ⟨b,o+i,none⟩=some (.int .i64 (c.getD i 0))
theorem Ints.I{w e:Nb}{a:M6}{f:List Int}(h:Ints w a f)(d:Below w.heap.size w e):Ints e a f:=by
 rcases h with h|⟨b,o,g,c,j⟩
 ·exact .inl h
 exact .inr ⟨b,o,g,AD c d.size,λi k=>(d.cell (p:=⟨b,o+i,none⟩) c).j (j i k)⟩
theorem Ints.at{w:Nb}{a:M6}{c:List Int}(h:Ints w a c){k:Nat}(d:k<c.length):∃b o z,a=Mw b o/\b<w.heap.size/\w.cell? ⟨b,o+k,none⟩=some (.int .i64 z)/\Hid (z=c.getD k 0):=by
 rcases h with h|⟨b,o,e,f,g⟩
 ·subst h;simp at d
 exact⟨b,o,_,e,f,g k d,Z rfl⟩
def fate(a:List Int)(i:Nat):Nat:=if i<a.length then (if a.getD i 0<0 then 0 else if 64<a.getD i 0 then 64 else (a.getD i 0).toNat) else 0
theorem zd(a:List Int)(i:Nat):fate a i<=64:=by unfold fate;split<;>(try split)<;>(try split)<;>omega
theorem Kh(a:M6)(d:List Int)(c i:Nat)(w:Nb)(h:Ints w a d)(s:d.length<=1048576)(r:i<=1048576):Calls prog 172 #[.slice a d.length c,.int .i64 (i:Int)] w λe b=>e=M3 (.int .i64 (fate d i:Int))/\b=w:=by
 by_cases g:i<d.length
 ·obtain⟨b,o,z,rfl,p,q,k⟩:=h.at g
  have hF:Hid ((fate d i:Int)=if z<0 then 0 else if 64<z then 64 else z):=by
   show _=_;unfold fate;rw[AE g,<-k.l]
   split
   ·rfl
   split
   ·rfl
   omega
  have l:¬((d.length:Int)<=(i:Int)):=ω
  by_cases e:z<0
  focus
   have f:=Z (hF.l.j (AE e));clear hF
  rotate_left
  focus
   by_cases j:64<z
   focus
    have f:=Z (hF.l.j ((AG e).j (AE j)));clear hF
   rotate_left
   focus
    have f:=Z (hF.l.j ((AG e).j (AG j)));have m:0<=z:=ω
    have n:z<=64:=ω
    clear hF e j
   rotate_left
  rotate_left 2
  all_goals
   go_enter func172,ntmps172;go_wp2;go_ret;exact⟨zp f.l.symm,rfl⟩
 have l:(d.length:Int)<=(i:Int):=ω
 go_enter func172,ntmps172;go_wp2;go_ret;exact⟨zp (by unfold fate;rw[AG g];rfl),rfl⟩
