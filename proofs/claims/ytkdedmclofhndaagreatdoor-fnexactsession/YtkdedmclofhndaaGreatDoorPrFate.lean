import Derived.Test.YtkdedmclofhndaaGreatDoorPrG38
set_option maxHeartbeats 16000000
namespace Go.Proofs.YtkdedmclofhndaaGreatDoor
open Tryz
open Go.RowKit
set_option maxRecDepth 4000
set_option linter.all false
def Ints(w:xV)(a:xA)(c:List Int):Prop :=c=[]\/∃b o,a=zY b o/\b<w.heap.size/\∀i,i<c.length->w.cell? (yA b (o+i))=some (Z (c.getD i 0))
theorem Ints.I{w e:xV}{a:xA}{f:List Int}(h:Ints w a f)(d:yX w e):Ints e a f:=by
 rcases h with h|⟨b,o,g,c,j⟩
 ·exact .inl h
 exact .inr ⟨b,o,g,AC c d.size,λi k=>(d.cell (p:=(yA b (o+i))) c).E (j i k)⟩
theorem Ints.at{w:xV}{a:xA}{c:List Int}(h:Ints w a c){k:Nat}(d:k<c.length):∃b o z,a=zY b o/\b<w.heap.size/\w.cell? (yA b (o+k))=some (Z z)/\Hid (z=c.getD k 0):=by
 rcases h with h|⟨b,o,e,f,g⟩
 ·subst h;simp at d
 exact⟨b,o,_,e,f,g k d,Y rfl⟩
def yAP(a:List Int)(i:Nat):Nat:=if i<a.length then (if a.getD i 0<0 then 0 else if 64<a.getD i 0 then 64 else (a.getD i 0).toNat) else 0
theorem mQ(a:List Int)(i:Nat):yAP a i<=64:=by unfold yAP;split<;>(try split)<;>(try split)<;>omega
theorem Mu(a:xA)(d:List Int)(c i:Nat)(w:xV)(h:Ints w a d)(s:d.length<=1048576)(r:i<=1048576):Calls prog 258 #[yI a d.length c,Z (i:Int)] w λe b=>e=yT (Z (yAP d i:Int))/\b=w:=by
 by_cases g:i<d.length
 ·obtain⟨b,o,z,rfl,p,q,k⟩:=h.at g
  have hF:Hid ((yAP d i:Int)=if z<0 then 0 else if 64<z then 64 else z):=by
   show _=_;unfold yAP;rw[AI g,<-k.j]
   split
   ·rfl
   split
   ·rfl
   omega
  have l:¬((d.length:Int)<=(i:Int)):=ω
  by_cases e:z<0
  focus
   have f:=Y (hF.j.E (AI e));clear hF
  rotate_left
  focus
   by_cases j:64<z
   focus
    have f:=Y (hF.j.E ((AF e).E (AI j)));clear hF
   rotate_left
   focus
    have f:=Y (hF.j.E ((AF e).E (AF j)));have m:0<=z:=ω
    have n:z<=64:=ω
    clear hF e j
   rotate_left
  rotate_left 2
  all_goals
   go_enter func258,ntmps258;go_wp2;go_ret;exact⟨nI f.j.symm,rfl⟩
 have l:(d.length:Int)<=(i:Int):=ω
 go_enter func258,ntmps258;go_wp2;go_ret;exact⟨nI (by unfold yAP;rw[AF g];rfl),rfl⟩
