import Derived.Test.YtmlejnbjclkdjaaGreatDoorPrG38
import Derived.Test.YtmlejnbjclkdjaaGreatDoorPrG44
set_option maxHeartbeats 16000000
namespace Go.Proofs.YtmlejnbjclkdjaaGreatDoor
open Tryz
open Go.RowKit
set_option maxRecDepth 4000
set_option linter.all false
theorem xz{W a:Nb}(c:Below W.heap.size W a):(∀b o,b<W.heap.size->a.cell? ⟨b,o,none⟩=W.cell? ⟨b,o,none⟩)/\(∀b o,b<W.heap.size->a.frozen? ⟨b,o,none⟩=W.frozen? ⟨b,o,none⟩) :=⟨λb o h=>c.cell (p:=⟨b,o,none⟩) h,λb o h=>c.frozen (p:=⟨b,o,none⟩) h⟩
theorem bs{w x y:Nb}(h:Below w.heap.size w x)(a:Below x.heap.size x y):Below w.heap.size w y:=h.j (a.z h.size)
theorem uu(s:Y)(w:Nb)(c:s.size<=255):Calls prog 265 #[Mz s] w λe a=>e=M3 (Mz (strOfNums [(s.size:Int)]++s))/\Below w.heap.size w a:=by
 have a:=qn;have b:(strOfNums [(s.size:Int)]).size=1:=by rw[CJ];rfl
 go_enter func265,ntmps265;go_wp2;go_ret;exact⟨rfl,LO _ _⟩
theorem tJ(w:Nb)(b:Nat)(n:Int)(h:w.cell? ⟨b,0,none⟩=some (.int .u8 n)):(convert 22 9 (.slice (Mw b 0) 1 1)).run prog w=.ok (Mz (strOfNums [n])) w :=FO (P:=prog) _ 22 5 underlying22 underlying5 b 0 1 1 [n] rfl (λi a=>by
  have:i=0:=ω
  subst this;simpa using h) 9 underlying9
theorem Gy(k v:Y)(w:Nb)(j:k.size<=255)(hv:v.size<=255):Calls prog 269 #[.agg #[Mz k,Mz v]] w λe a=>e=M3 (Mz (strOfNums [0]++(strOfNums [(k.size:Int)]++k)++(strOfNums [(v.size:Int)]++v)))/\Below w.heap.size w a:=by
 have c:∀o,Below w.heap.size w (w.alloc o):=λo=>LO _ _
 have i:∀o a,Below w.heap.size w ((w.alloc o).alloc a):=λo a=>(c o).alloc σ _
 have o:∀(x:Nb) (b:Nat),x.cell? ⟨b,0,none⟩=some (.int .u8 0)->(convert 22 9 (.slice (Mw b 0) 1 1)).run prog x=.ok (Mz (strOfNums [0])) x:=λx b h=>tJ x b 0 h
 have C:(strOfNums [0]++(strOfNums [(k.size:Int)]++k)).size=2+k.size:=by rw[BN,BN,CJ,CJ];simp;omega
 have s:¬9223372036854775807<1+(1+k.size):=ω
 have t:¬9223372036854775807<2+k.size+(1+v.size):=ω
 have z:(strOfNums [0]).size=1:=by rw[CJ];rfl
 have A:(strOfNums [(k.size:Int)]++k).size=1+k.size:=by rw[BN,CJ];rfl
 have B:(strOfNums [(v.size:Int)]++v).size=1+v.size:=by rw[BN,CJ];rfl
 go_enter func269,ntmps269;go_wp2_with fail
 go_region_law (first|(have n:=l;refine LW ρ 265 #[Mz v] γ (uu v _ hv) ?_;rintro e y ⟨rfl,g⟩;refine⟨_,rfl,?_⟩;obtain⟨u,_⟩:=xz g;have p:=g.size;have d:=Z g;clear g)|(refine LW ρ 265 #[Mz k] γ (uu k _ j) ?_;rintro e m ⟨rfl,f⟩;refine⟨_,rfl,?_⟩;have h:=f.size;simp only[BD,IZ]at h;have q:w.heap.size<m.heap.size:=ω;have r:=Nat.lt_of_succ_le h;obtain⟨l,_⟩:=xz f;have a:=Z f;clear f))
 all_goals
  go_wp2;go_ret;refine⟨rfl,?_⟩
  first
   | exact bs (bs (i _ _).drew a.l) d.l
   | exact bs ((bs (c _).drew a.l).alloc (bs (c _).drew a.l).size _) d.l
   | exact(bs (bs (c _).drew a.l) d.l).alloc (bs (bs (c _).drew a.l) d.l).size _
