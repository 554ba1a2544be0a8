import Derived.Test.YteflhojcomcfaaaGreatDoorPrG19
import Derived.Test.YteflhojcomcfaaaGreatDoorPrG38
set_option maxHeartbeats 16000000
namespace Go.Proofs.YteflhojcomcfaaaGreatDoor
open Tryz
open Go.RowKit
set_option maxRecDepth 4000
set_option linter.all false
theorem pI{W a:Q9}(c:Q3 W a):(∀b o,b<W.heap.size->a.cell? (Ki b o)=W.cell? (Ki b o))/\(∀b o,b<W.heap.size->a.frozen? (Ki b o)=W.frozen? (Ki b o)) :=⟨λb o h=>c.cell (p:=(Ki b o)) h,λb o h=>c.frozen (p:=(Ki b o)) h⟩
theorem bs{w x y:Q9}(h:Q3 w x)(a:Q3 x y):Q3 w y:=h.E (a.J h.size)
theorem nN(s:Q4)(w:Q9)(c:s.size<=255):Calls prog 345 #[Ow s] w λe a=>e=Q2 (Ow (strOfNums [(s.size:Int)]++s))/\Q3 w a:=by
 have a:=xu;have b:(strOfNums [(s.size:Int)]).size=1:=by rw[CY];rfl
 go_enter func345,ntmps345;go_wp2;go_ret;exact⟨z,LH _ _⟩
theorem yO(w:Q9)(b:Nat)(n:Int)(h:w.cell? (Ki b 0)=some (.int .u8 n)):(convert 22 9 (Y (Hw b 0) 1 1)).run prog w=.ok (Ow (strOfNums [n])) w :=EO (P:=prog) _ 22 5 underlying22 underlying5 b 0 1 1 [n] z (λi a=>by
  have:i=0:=d
  subst this;simpa using h) 9 underlying9
theorem Lp(k v:Q4)(w:Q9)(p:k.size<=255)(hv:v.size<=255):Calls prog 347 #[.agg #[Ow k,Ow v]] w λe a=>e=Q2 (Ow (strOfNums [0]++(strOfNums [(k.size:Int)]++k)++(strOfNums [(v.size:Int)]++v)))/\Q3 w a:=by
 have c:∀o,Q3 w (w.alloc o):=λo=>LH _ _
 have n:∀o a,Q3 w ((w.alloc o).alloc a):=λo a=>(c o).alloc j _
 have s:∀(x:Q9) (b:Nat),x.cell? (Ki b 0)=some (.int .u8 0)->(convert 22 9 (Y (Hw b 0) 1 1)).run prog x=.ok (Ow (strOfNums [0])) x:=λx b h=>yO x b 0 h
 have H:(strOfNums [0]++(strOfNums [(k.size:Int)]++k)).size=2+k.size:=by rw[AP,AP,CY,CY];simp;omega
 have A:¬9223372036854775807<1+(1+k.size):=d
 have B:¬9223372036854775807<2+k.size+(1+v.size):=d
 have E:(strOfNums [0]).size=1:=by rw[CY];rfl
 have F:(strOfNums [(k.size:Int)]++k).size=1+k.size:=by rw[AP,CY];rfl
 have G:(strOfNums [(v.size:Int)]++v).size=1+v.size:=by rw[AP,CY];rfl
 go_enter func347,ntmps347;go_wp2_with fail
 go_region_law (first|(have r:=o;refine LM f 345 #[Ow v] l (nN v _ hv) ?_;rintro e D ⟨rfl,i⟩;refine⟨_,z,?_⟩;obtain⟨C,_⟩:=pI i;have t:=i.size;have g:=LE i;clear i)|(refine LM f 345 #[Ow k] l (nN k _ p) ?_;rintro e q ⟨rfl,h⟩;refine⟨_,z,?_⟩;have m:=h.size;simp only[BG,JD]at m;have u:w.heap.size<q.heap.size:=d;have y:=Nat.lt_of_succ_le m;obtain⟨o,_⟩:=pI h;have a:=LE h;clear h))
 all_goals
  go_wp2;go_ret;refine⟨z,?_⟩
  first
   | exact bs (bs (n _ _).drew a.j) g.j
   | exact bs ((bs (c _).drew a.j).alloc (bs (c _).drew a.j).size _) g.j
   | exact(bs (bs (c _).drew a.j) g.j).alloc (bs (bs (c _).drew a.j) g.j).size _
