import Derived.Test.YtmlejnbjclkdjaaGreatDoorPrG46
set_option maxHeartbeats 16000000
namespace Go.Proofs.YtmlejnbjclkdjaaGreatDoor
open Tryz
open Go.RowKit
set_option maxRecDepth 4000
set_option linter.all false
theorem Co(r:Y)(w:Nb)(t:r.size<=1048576)(n:0<r.size)(c:b0 r=1)(k m:Y)(d:pc (r.extract 1 r.size)=some (k,m)):Calls prog 196 #[Mz r] w λe a=>e=M3 (.tuple #[.agg #[Mz k,Mz ⟨#[]⟩,M0 true],Mz m,M0 true])/\Below w.heap.size w a:=by
 have o:=XX r n;rw[c]at o;have f:=Z (eg d);have h:(r.extract 1 r.size).size<=1048576:=by simp only[AO];omega
 clear d c;go_enter func196,ntmps196;go_wp2_with (go_at_call 219;refine(ae _ _ h).z ?_;rw[f.l];rintro e u ⟨rfl,b⟩;have g:=b.size;simp only[BD,BH]at g;obtain⟨i,p,j,q,l,s⟩:=k3 b w.heap.size (Mz ⟨#[]⟩) (Mz ⟨#[]⟩) (M0 true);have a:=Z (XC b);clear b);refine AJ (v:=.tuple #[.agg #[Mz k,Mz ⟨#[]⟩,M0 true],Mz m,M0 true]) (by simp[results,results196,go_sem,i,j,l]) rfl ⟨rfl,?_⟩
 (first|exact(((a.l.setCell (AA _) _).setCell (AA _) _).setCell (AA _) _)|exact((((a.l.setCell (AA _) _).setCell (AA _) _).setCell (AA _) _).setCell (AA _) _)|exact(((((a.l.setCell (AA _) _).setCell (AA _) _).setCell (AA _) _).setCell (AA _) _).setCell (AA _) _)|exact((((((a.l.setCell (AA _) _).setCell (AA _) _).setCell (AA _) _).setCell (AA _) _).setCell (AA _) _).setCell (AA _) _)|exact(((((((a.l.setCell (AA _) _).setCell (AA _) _).setCell (AA _) _).setCell (AA _) _).setCell (AA _) _).setCell (AA _) _).setCell (AA _) _))
theorem Er(r:Y)(w:Nb)(h:r.size<=1048576)(c:0<r.size)(d:1<b0 r):Calls prog 196 #[Mz r] w λe a=>(∃k v g b,e=M3 (.tuple #[.agg #[Mz k,Mz v,M0 g],Mz b,M0 false]))/\Below w.heap.size w a:=by
 have e:=XX r c;obtain⟨b,a⟩:∃b,b=b0 r:=⟨_,rfl⟩;rw[<-a]at e d;have f:((b:Int) != 0)=true:=τ
 have g:((b:Int) != 1)=true:=τ
 clear a;go_enter func196,ntmps196;go_wp2;refine AJ (v:=.tuple #[.agg #[Mz ⟨#[]⟩,Mz ⟨#[]⟩,M0 false],Mz ⟨#[]⟩,M0 false]) (by simp[results,results196,go_sem]) rfl ⟨⟨_,_,_,_,rfl⟩,?_⟩;exact LO _ _
