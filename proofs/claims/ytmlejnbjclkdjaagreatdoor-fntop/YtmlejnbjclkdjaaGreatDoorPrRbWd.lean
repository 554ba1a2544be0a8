import Derived.Test.YtmlejnbjclkdjaaGreatDoorPrG46
set_option maxHeartbeats 16000000
namespace Go.Proofs.YtmlejnbjclkdjaaGreatDoor
open Tryz
open Go.RowKit
set_option maxRecDepth 4000
set_option linter.all false
theorem Hb(r:Y)(w:Nb)(K:r.size<=1048576)(E:0<r.size)(g:b0 r=0)(k m:Y)(h:pc (r.extract 1 r.size)=some (k,m))(u:m.size<=1048576)(v d:Y)(i:pc m=some (v,d)):Calls prog 196 #[Mz r] w λe a=>e=M3 (.tuple #[.agg #[Mz k,Mz v,M0 false],Mz d,M0 true])/\Below w.heap.size w a:=by
 have F:=XX r E;rw[g]at F;have j:=Z (eg h);have l:=Z (eg i);have x:(r.extract 1 r.size).size<=1048576:=by simp only[AO];omega
 have p:m.size<=1048576:=u;clear h g i;go_enter func196,ntmps196
 go_wp2_with (first|(have G:=f;go_at_call 219;refine(ae _ _ p).z ?_;rw[l.l];rintro e M ⟨rfl,c⟩;have o:=c.size;simp only[BD,BH]at o;obtain⟨B,H,C,I,D,J⟩:=k3 c w.heap.size (Mz k) (Mz ⟨#[]⟩) (M0 false);have a:=Z ((f.l.setCell (p:=⟨w.heap.size,0,none⟩) (AA _) (Mz k)).j (c.z ξ));clear c y z A q s t)|(go_at_call 219;refine(ae _ _ x).z ?_;rw[j.l];rintro e L ⟨rfl,b⟩;have n:=b.size;simp only[BD,BH]at n;obtain⟨y,q,z,s,A,t⟩:=k3 b w.heap.size (Mz ⟨#[]⟩) (Mz ⟨#[]⟩) (M0 false);have f:=Z (XC b);clear b))
 refine AJ (v:=.tuple #[.agg #[Mz k,Mz v,M0 false],Mz d,M0 true]) (by simp[results,results196,go_sem,B,C,D]) rfl ⟨rfl,?_⟩
 (first|exact(((a.l.setCell (AA _) _).setCell (AA _) _).setCell (AA _) _)|exact((((a.l.setCell (AA _) _).setCell (AA _) _).setCell (AA _) _).setCell (AA _) _)|exact(((((a.l.setCell (AA _) _).setCell (AA _) _).setCell (AA _) _).setCell (AA _) _).setCell (AA _) _)|exact((((((a.l.setCell (AA _) _).setCell (AA _) _).setCell (AA _) _).setCell (AA _) _).setCell (AA _) _).setCell (AA _) _)|exact(((((((a.l.setCell (AA _) _).setCell (AA _) _).setCell (AA _) _).setCell (AA _) _).setCell (AA _) _).setCell (AA _) _).setCell (AA _) _))
