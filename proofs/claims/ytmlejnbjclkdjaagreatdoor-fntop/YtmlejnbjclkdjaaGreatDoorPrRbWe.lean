import Derived.Test.YtmlejnbjclkdjaaGreatDoorPrG46
set_option maxHeartbeats 16000000
namespace Go.Proofs.YtmlejnbjclkdjaaGreatDoor
open Tryz
open Go.RowKit
set_option maxRecDepth 4000
set_option linter.all false
theorem Fk(r:Y)(w:Nb)(I:r.size<=1048576)(C:0<r.size)(f:b0 r=0)(k m:Y)(h:pc (r.extract 1 r.size)=some (k,m))(t:m.size<=1048576)(i:pc m=none):Calls prog 196 #[Mz r] w λe a=>(∃k v g b,e=M3 (.tuple #[.agg #[Mz k,Mz v,M0 g],Mz b,M0 false]))/\Below w.heap.size w a:=by
 have D:=XX r C;rw[f]at D;have g:=Z (eg h);have j:=Z (fj i);have u:(r.extract 1 r.size).size<=1048576:=by simp only[AO];omega
 have o:m.size<=1048576:=t;clear h f i;go_enter func196,ntmps196
 go_wp2_with (first|(have E:=d;go_at_call 219;refine(ae _ _ o).z ?_;rw[j.l];rintro e K ⟨rfl,c⟩;have n:=c.size;simp only[BD,BH]at n;obtain⟨z,F,A,G,B,H⟩:=k3 c w.heap.size (Mz k) (Mz ⟨#[]⟩) (M0 false);have a:=Z ((d.l.setCell (p:=⟨w.heap.size,0,none⟩) (AA _) (Mz k)).j (c.z ξ));clear c v x y p q s)|(go_at_call 219;refine(ae _ _ u).z ?_;rw[g.l];rintro e J ⟨rfl,b⟩;have l:=b.size;simp only[BD,BH]at l;obtain⟨v,p,x,q,y,s⟩:=k3 b w.heap.size (Mz ⟨#[]⟩) (Mz ⟨#[]⟩) (M0 false);have d:=Z (XC b);clear b))
 refine AJ (v:=.tuple #[.agg #[Mz k,Mz ⟨#[]⟩,M0 false],Mz ⟨#[]⟩,M0 false]) (by simp[results,results196,go_sem,z,A,B]) rfl ⟨⟨_,_,_,_,rfl⟩,?_⟩
 (first|exact(((a.l.setCell (AA _) _).setCell (AA _) _).setCell (AA _) _)|exact((((a.l.setCell (AA _) _).setCell (AA _) _).setCell (AA _) _).setCell (AA _) _)|exact(((((a.l.setCell (AA _) _).setCell (AA _) _).setCell (AA _) _).setCell (AA _) _).setCell (AA _) _)|exact((((((a.l.setCell (AA _) _).setCell (AA _) _).setCell (AA _) _).setCell (AA _) _).setCell (AA _) _).setCell (AA _) _)|exact(((((((a.l.setCell (AA _) _).setCell (AA _) _).setCell (AA _) _).setCell (AA _) _).setCell (AA _) _).setCell (AA _) _).setCell (AA _) _))
