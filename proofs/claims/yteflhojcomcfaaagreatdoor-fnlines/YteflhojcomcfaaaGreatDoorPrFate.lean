import Derived.Test.YteflhojcomcfaaaGreatDoorPrG38
set_option maxHeartbeats 16000000
namespace Go.Proofs.YteflhojcomcfaaaGreatDoor
open Tryz
open Go.RowKit
set_option maxRecDepth 4000
set_option linter.all false
def Ints(w:Q9)(a:Q5)(c:List Int):Prop :=c=[]\/∃b o,a=Hw b o/\b<w.heap.size/\∀i,i<c.length->w.cell? (Ki b (o+i))=some (Z (c.getD i 0))
theorem Ints.I{w e:Q9}{a:Q5}{f:List Int}(h:Ints w a f)(d:Q3 w e):Ints e a f:=by
 rcases h with h|⟨b,o,g,c,j⟩
 .exact .inl h
 exact .inr ⟨b,o,g,AC c d.size,λi k=>(d.cell (p:=(Ki b (o+i))) c).E (j i k)⟩
theorem Ints.at{w:Q9}{a:Q5}{c:List Int}(h:Ints w a c){k:Nat}(d:k<c.length):∃b o z,a=Hw b o/\b<w.heap.size/\w.cell? (Ki b (o+k))=some (Z z)/\Hid (z=c.getD k 0):=by
 rcases h with h|⟨b,o,e,f,g⟩
 .subst h;simp at d
 exact⟨b,o,_,e,f,g k d,LE rfl⟩
def yAP(a:List Int)(i:Nat):Nat:=if i<a.length then (if a.getD i 0<0 then 0 else if 64<a.getD i 0 then 64 else (a.getD i 0).toNat) else 0
theorem p8(a:List Int)(i:Nat):yAP a i<=64:=by unfold yAP;split<;>(try split)<;>(try split)<;>omega
theorem Ot(a:Q5)(f:List Int)(c i:Nat)(w:Q9)(h:Ints w a f)(u:f.length<=1048576)(t:i<=1048576):Calls prog 256 #[Y a f.length c,Z (i:Int)] w λe b=>e=Q2 (Z (yAP f i:Int))/\b=w:=by
 by_cases k:i<f.length
 .obtain⟨b,o,e,rfl,r,s,m⟩:=h.at k
  have hF:Hid ((yAP f i:Int)=if e<0 then 0 else if 64<e then 64 else e):=by
   show _=_;unfold yAP;rw[G k,<-m.j]
   split
   .rfl
   split
   .rfl
   omega
  have n:¬((f.length:Int)<=(i:Int)):=d
  by_cases g:e<0
  focus
   have j:=LE (hF.j.E (G g));clear hF
  rotate_left
  focus
   by_cases l:64<e
   focus
    have j:=LE (hF.j.E ((A g).E (G l)));clear hF
   rotate_left
   focus
    have j:=LE (hF.j.E ((A g).E (A l)));have p:0<=e:=d
    have q:e<=64:=d
    clear hF g l
   rotate_left
  rotate_left 2
  all_goals
   go_enter func256,ntmps256;go_wp2;go_ret;exact⟨qM j.j.symm,z⟩
 have n:(f.length:Int)<=(i:Int):=d
 go_enter func256,ntmps256;go_wp2;go_ret;exact⟨qM (by unfold yAP;rw[A k];rfl),z⟩
