import Derived.Test.YtmlejnbjclkdjaaGreatDoorPrG36
set_option maxHeartbeats 16000000
namespace Go.Proofs.YtmlejnbjclkdjaaGreatDoor.nw
open _root_.Go.Proofs.Tryz
open Go.RowKit
set_option maxRecDepth 8000
set_option linter.all false
theorem new_i_no(n:Int)(w:Nb)(h:¬(8<=n/\n<=200)):Calls prog 54 #[.int .i64 n] w λe a=>e=M3 (LF none 0 0 none 0 0)/\Below w.heap.size w a:=by
 have b:decide (8<=n/\n<=200)=false:=AI h;go_enter func54,ntmps54;go_wp2_with (go_at_call 52;refine(QF _ _).z ?_;rw[b];rintro e a ⟨rfl,rfl⟩);exact AJ (v:=LF none 0 0 none 0 0) (by simp[results,results54,go_sem]) rfl ⟨rfl,LD _ _⟩
theorem new_i_any(n:Int)(w:Nb):Calls prog 54 #[.int .i64 n] w λe b=>∃a c d f,e=M3 (LF a (newSS n).length c d 0 f)/\OwnS b a ((newSS n).map Value.string)/\(∀g,blk a (newSS n).length=some g->w.heap.size<=g)/\Below w.heap.size w b:=by
 by_cases h:8<=n/\n<=200
 ·obtain⟨m,rfl⟩:∃m:Nat,n=(m:Int):=⟨n.toNat,ω⟩
  have i:newSS (m:Int)=List.replicate m MI:=by simp[newSS,h]
  rw[i];refine(Hu m w ω ω).z ?_;rintro e b ⟨g,c,d,f,rfl,l,o,j⟩
  exact⟨_,c,d,f,by rw[DI],.inr ⟨g,rfl,o⟩,λk a=>by rw[DI,NT g 0 m ω]at a;cases a;exact l,j⟩
 have i:newSS n=[]:=by simp[newSS,h]
 rw[i];refine(new_i_no n w h).z ?_;rintro e b ⟨rfl,j⟩;exact⟨none,0,none,0,rfl,.inl rfl,(λk a=>by cases a),j⟩
end Go.Proofs.YtmlejnbjclkdjaaGreatDoor.nw
