import Derived.Test.YtkdedmclofhndaaGreatDoorPrG21
import Derived.Test.YtkdedmclofhndaaGreatDoorPrG38
set_option maxHeartbeats 16000000
namespace Go.Proofs.YtkdedmclofhndaaGreatDoor
open Tryz
open Go.RowKit
set_option maxRecDepth 4000
set_option linter.all false
theorem zj{W a:xV}(c:yX W a):(∀b o,b<W.heap.size->a.cell? (yA b o)=W.cell? (yA b o))/\(∀b o,b<W.heap.size->a.frozen? (yA b o)=W.frozen? (yA b o)) :=⟨λb o h=>c.cell (p:=(yA b o)) h,λb o h=>c.frozen (p:=(yA b o)) h⟩
theorem bs{w x y:xV}(h:yX w x)(a:yX x y):yX w y:=h.E (a.J h.size)
theorem vx(s:yZ)(w:xV)(c:s.size<=255):Calls prog 346 #[yQ s] w λe a=>e=yT (yQ (strOfNums [(s.size:Int)]++s))/\yX w a:=by
 have a:=rz;have b:(strOfNums [(s.size:Int)]).size=1:=by rw[CY];rfl
 go_enter func346,ntmps346;go_wp2;go_ret;exact⟨rfl,LG _ _⟩
theorem vR(w:xV)(b:Nat)(n:Int)(h:w.cell? (yA b 0)=some (.int .u8 n)):(convert 24 9 (yI (zY b 0) 1 1)).run prog w=.ok (yQ (strOfNums [n])) w :=ES (P:=prog) _ 24 5 underlying24 underlying5 b 0 1 1 [n] rfl (λi a=>by
  have:i=0:=ω
  subst this;simpa using h) 9 underlying9
theorem Js(k v:yZ)(w:xV)(j:k.size<=255)(hv:v.size<=255):Calls prog 348 #[.agg #[yQ k,yQ v]] w λe a=>e=yT (yQ (strOfNums [0]++(strOfNums [(k.size:Int)]++k)++(strOfNums [(v.size:Int)]++v)))/\yX w a:=by
 have c:∀o,yX w (w.alloc o):=λo=>LG _ _
 have i:∀o a,yX w ((w.alloc o).alloc a):=λo a=>(c o).alloc σ _
 have o:∀(x:xV) (b:Nat),x.cell? (yA b 0)=some (.int .u8 0)->(convert 24 9 (yI (zY b 0) 1 1)).run prog x=.ok (yQ (strOfNums [0])) x:=λx b h=>vR x b 0 h
 have C:(strOfNums [0]++(strOfNums [(k.size:Int)]++k)).size=2+k.size:=by rw[BW,BW,CY,CY];simp;omega
 have s:¬9223372036854775807<1+(1+k.size):=ω
 have t:¬9223372036854775807<2+k.size+(1+v.size):=ω
 have z:(strOfNums [0]).size=1:=by rw[CY];rfl
 have A:(strOfNums [(k.size:Int)]++k).size=1+k.size:=by rw[BW,CY];rfl
 have B:(strOfNums [(v.size:Int)]++v).size=1+v.size:=by rw[BW,CY];rfl
 go_enter func348,ntmps348;go_wp2_with fail
 go_region_law (first|(have n:=l;refine LI ρ 346 #[yQ v] γ (vx v _ hv) ?_;rintro e y ⟨rfl,g⟩;refine⟨_,rfl,?_⟩;obtain⟨u,_⟩:=zj g;have p:=g.size;have d:=Y g;clear g)|(refine LI ρ 346 #[yQ k] γ (vx k _ j) ?_;rintro e m ⟨rfl,f⟩;refine⟨_,rfl,?_⟩;have h:=f.size;simp only[BE,JD]at h;have q:w.heap.size<m.heap.size:=ω;have r:=Nat.lt_of_succ_le h;obtain⟨l,_⟩:=zj f;have a:=Y f;clear f))
 all_goals
  go_wp2;go_ret;refine⟨rfl,?_⟩
  first
   | exact bs (bs (i _ _).drew a.j) d.j
   | exact bs ((bs (c _).drew a.j).alloc (bs (c _).drew a.j).size _) d.j
   | exact(bs (bs (c _).drew a.j) d.j).alloc (bs (bs (c _).drew a.j) d.j).size _
