import Derived.Test.YthcfgbpailnahaaGreatDoorPrG22
import Derived.Test.YthcfgbpailnahaaGreatDoorPrG42
set_option maxHeartbeats 16000000
namespace Go.Proofs.YthcfgbpailnahaaGreatDoor
open Tryz
open Go.RowKit
set_option maxRecDepth 4000
set_option linter.all false
def qk{W w1:World}(hb:Below W.heap.size W w1):(∀b o,b<W.heap.size->w1.cell? ⟨b,o,none⟩=W.cell? ⟨b,o,none⟩)/\(∀b o,b<W.heap.size->w1.frozen? ⟨b,o,none⟩=W.frozen? ⟨b,o,none⟩) :=⟨λb o h=>hb.cell (p:=⟨b,o,none⟩) h,λb o h=>hb.frozen (p:=⟨b,o,none⟩) h⟩
def bs{w x y:World}(h:Below w.heap.size w x)(hb:Below x.heap.size x y):Below w.heap.size w y:=h.j (hb.i h.size)
def nl(s:ByteArray)(w:World)(hs:s.size<=255):Calls prog 278 #[.string s] w λe w'=>e=.returned (.string (strOfNums [(s.size:Int)]++s))/\Below w.heap.size w w':=by
 have aA:=eh;have aB:(strOfNums [(s.size:Int)]).size=1:=by rw[BS];rfl
 go_enter func278,ntmps278;go_wp2;go_ret;exact⟨rfl,LG _ _⟩
def oD(w:World)(b:Nat)(n:Int)(h:w.cell? ⟨b,0,none⟩=some (.int .u8 n)):(convert 172 9 (.slice (some ⟨b,0,none⟩) 1 1)).run prog w=.ok (.string (strOfNums [n])) w :=Za (P:=prog) _ 172 5 underlying172 underlying5 b 0 1 1 [n] rfl (λi hi=>by
  have:i=0:=by omega
  subst this;simpa using h) 9 underlying9
def Co(k v:ByteArray)(w:World)(hk:k.size<=255)(hv:v.size<=255):Calls prog 282 #[.agg #[.string k,.string v]] w λe w'=>e=.returned (.string (strOfNums [0]++(strOfNums [(k.size:Int)]++k)++(strOfNums [(v.size:Int)]++v)))/\Below w.heap.size w w':=by
 have aB:∀o,Below w.heap.size w (w.alloc o):=λo=>LG _ _
 have aG:∀o o',Below w.heap.size w ((w.alloc o).alloc o'):=λo o'=>(aB o).alloc (by simp) _
 have aH:∀(x:World) (b:Nat),x.cell? ⟨b,0,none⟩=some (.int .u8 0)->(convert 172 9 (.slice (some ⟨b,0,none⟩) 1 1)).run prog x=.ok (.string (strOfNums [0])) x:=λx b h=>oD x b 0 h
 have z3:(strOfNums [0]++(strOfNums [(k.size:Int)]++k)).size=2+k.size:=by rw[DI,DI,BS,BS];simp;omega
 have n1:¬9223372036854775807<1+(1+k.size):=by omega
 have n2:¬9223372036854775807<2+k.size+(1+v.size):=by omega
 have z0:(strOfNums [0]).size=1:=by rw[BS];rfl
 have z1:(strOfNums [(k.size:Int)]++k).size=1+k.size:=by rw[DI,BS];rfl
 have z2:(strOfNums [(v.size:Int)]++v).size=1+v.size:=by rw[DI,BS];rfl
 go_enter func282,ntmps282;go_wp2_with fail
 go_region_law (first|(have _g:=q7;refine LK (by rfl) 278 #[.string v] (by go_simp) (nl v _ hv) ?_;rintro e w8 ⟨rfl,aE⟩;refine⟨_,rfl,?_⟩;obtain⟨q8,_⟩:=qk aE;have aI:=aE.size;have aC:=LE aE;clear aE)|(refine LK (by rfl) 278 #[.string k] (by go_simp) (nl k _ hk) ?_;rintro e w7 ⟨rfl,aD⟩;refine⟨_,rfl,?_⟩;have aF:=aD.size;simp only[AU,JA]at aF;have aJ:w.heap.size<w7.heap.size:=(by omega);have aK:=Nat.lt_of_succ_le aF;obtain⟨q7,_⟩:=qk aD;have aA:=LE aD;clear aD))
 all_goals
  go_wp2;go_ret;refine⟨rfl,?_⟩
  first
   | exact bs (bs (aG _ _).drew aA.o) aC.o
   | exact bs ((bs (aB _).drew aA.o).alloc (bs (aB _).drew aA.o).size _) aC.o
   | exact(bs (bs (aB _).drew aA.o) aC.o).alloc (bs (bs (aB _).drew aA.o) aC.o).size _
