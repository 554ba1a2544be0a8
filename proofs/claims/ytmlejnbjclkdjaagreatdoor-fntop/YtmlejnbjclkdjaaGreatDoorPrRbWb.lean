import Derived.Test.YtmlejnbjclkdjaaGreatDoorPrG46
set_option maxHeartbeats 16000000
namespace Go.Proofs.YtmlejnbjclkdjaaGreatDoor
open Tryz
open Go.RowKit
set_option maxRecDepth 4000
set_option linter.all false
theorem It(r:Y)(w:Nb)(q:r.size<=1048576)(l:0<r.size)(c:b0 r=1)(d:pc (r.extract 1 r.size)=none):Calls prog 196 #[Mz r] w λe a=>(∃k v g b,e=M3 (.tuple #[.agg #[Mz k,Mz v,M0 g],Mz b,M0 false]))/\Below w.heap.size w a:=by
 have m:=XX r l;rw[c]at m;have f:=Z (fj d);have h:(r.extract 1 r.size).size<=1048576:=by simp only[AO];omega
 clear d c;go_enter func196,ntmps196;go_wp2_with (go_at_call 219;refine(ae _ _ h).z ?_;rw[f.l];rintro e s ⟨rfl,b⟩;have g:=b.size;simp only[BD,BH]at g;obtain⟨i,n,j,o,k,p⟩:=k3 b w.heap.size (Mz ⟨#[]⟩) (Mz ⟨#[]⟩) (M0 true);have a:=Z (XC b);clear b);refine AJ (v:=.tuple #[.agg #[Mz ⟨#[]⟩,Mz ⟨#[]⟩,M0 true],Mz ⟨#[]⟩,M0 false]) (by simp[results,results196,go_sem,i,j,k]) rfl ⟨⟨_,_,_,_,rfl⟩,?_⟩
 (first|exact(((a.l.setCell (AA _) _).setCell (AA _) _).setCell (AA _) _)|exact((((a.l.setCell (AA _) _).setCell (AA _) _).setCell (AA _) _).setCell (AA _) _)|exact(((((a.l.setCell (AA _) _).setCell (AA _) _).setCell (AA _) _).setCell (AA _) _).setCell (AA _) _)|exact((((((a.l.setCell (AA _) _).setCell (AA _) _).setCell (AA _) _).setCell (AA _) _).setCell (AA _) _).setCell (AA _) _)|exact(((((((a.l.setCell (AA _) _).setCell (AA _) _).setCell (AA _) _).setCell (AA _) _).setCell (AA _) _).setCell (AA _) _).setCell (AA _) _))
