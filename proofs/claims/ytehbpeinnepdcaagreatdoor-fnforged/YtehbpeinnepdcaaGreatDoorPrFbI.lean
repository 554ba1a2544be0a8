import Derived.Test.YtehbpeinnepdcaaGreatDoorPrShf
import Derived.Test.YtehbpeinnepdcaaGreatDoorPrG40
set_option maxHeartbeats 16000000
namespace Go.Proofs.YtehbpeinnepdcaaGreatDoor
open Go.RowKit
set_option maxRecDepth 4000
set_option linter.unusedVariables false
theorem yip {W w1:World} (hb:Below W.heap.size W w1):(∀ b o,b<W.heap.size->w1.cell? ⟨b,o,none⟩=W.cell? ⟨b,o,none⟩)/\(∀ b o,b<W.heap.size->w1.frozen? ⟨b,o,none⟩=W.frozen? ⟨b,o,none⟩) :=
 ⟨fun b o h=>hb.cell (p:=⟨b,o,none⟩) h,fun b o h=>hb.frozen (p:=⟨b,o,none⟩) h⟩
theorem bs {w x y:World} (h:Below w.heap.size w x) (hb:Below x.heap.size x y):Below w.heap.size w y:=h.trans (hb.mono h.size)
theorem qYA (s:ByteArray) (w:World) (hs:s.size<=255):Calls Tryz.prog 165 #[.string s] w fun e w'=>e=.returned (.string (strOfNums [(s.size:Int)]++s))/\Below w.heap.size w w':=by
 have aA:=QHv;have aB:(strOfNums [(s.size:Int)]).size=1:=by rw [strOfNums_size];rfl
 go_enter Tryz.func165,Tryz.ntmps165;go_wp2;go_ret;exact ⟨rfl,(Below.refl _ _).alloc (Nat.le_refl _) _⟩
theorem vPf (w:World) (b:Nat) (n:Int) (h:w.cell? ⟨b,0,none⟩=some (.int .u8 n)):(convert 22 9 (.slice (some ⟨b,0,none⟩) 1 1)).run Tryz.prog w=.ok (.string (strOfNums [n])) w :=
 run_convert_bytes_arg (P:=Tryz.prog) _ 22 5 Tryz.underlying22 Tryz.underlying5 b 0 1 1 [n] rfl (fun i hi=>by
  have:i=0:=by omega
  subst this;simpa using h) 9 Tryz.underlying9
theorem qh2 (k v:ByteArray) (w:World) (hk:k.size<=255) (hv:v.size<=255):Calls Tryz.prog 167 #[.agg #[.string k,.string v]] w fun e w'=>e=.returned (.string (strOfNums [0]++(strOfNums [(k.size:Int)]++k)++(strOfNums [(v.size:Int)]++v)))/\Below w.heap.size w w':=by
 have aB:∀ o,Below w.heap.size w (w.alloc o):=fun o=>(Below.refl _ _).alloc (Nat.le_refl _) _
 have aG:∀ o o',Below w.heap.size w ((w.alloc o).alloc o'):=fun o o'=>(aB o).alloc (by simp) _
 have aH:∀ (x:World) (b:Nat),x.cell? ⟨b,0,none⟩=some (.int .u8 0)->(convert 22 9 (.slice (some ⟨b,0,none⟩) 1 1)).run Tryz.prog x=.ok (.string (strOfNums [0])) x:=fun x b h=>vPf x b 0 h
 have z3:(strOfNums [0]++(strOfNums [(k.size:Int)]++k)).size=2+k.size:=by rw [ByteArray.size_append,ByteArray.size_append,strOfNums_size,strOfNums_size];simp;omega
 have n1:¬ 9223372036854775807<1+(1+k.size):=by omega
 have n2:¬ 9223372036854775807<2+k.size+(1+v.size):=by omega
 have z0:(strOfNums [0]).size=1:=by rw [strOfNums_size];rfl
 have z1:(strOfNums [(k.size:Int)]++k).size=1+k.size:=by rw [ByteArray.size_append,strOfNums_size];rfl
 have z2:(strOfNums [(v.size:Int)]++v).size=1+v.size:=by rw [ByteArray.size_append,strOfNums_size];rfl
 go_enter Tryz.func167,Tryz.ntmps167;go_wp2_with fail
 go_region_law (first | (have _g:=q7;refine XRf (by rfl) 165 #[.string v] (by go_simp) (qYA v _ hv) ?_;rintro e w8 ⟨rfl,aE⟩;refine ⟨_,rfl,?_⟩;obtain ⟨q8,_⟩:=yip aE;have aI:=aE.size;have aC:=hid aE;clear aE) | (refine XRf (by rfl) 165 #[.string k] (by go_simp) (qYA k _ hk) ?_;rintro e w7 ⟨rfl,aD⟩;refine ⟨_,rfl,?_⟩;have aF:=aD.size;simp only [World.size_alloc,World.size_drew] at aF;have aJ:w.heap.size<w7.heap.size:=(by omega);have aK:=Nat.lt_of_succ_le aF;obtain ⟨q7,_⟩:=yip aD;have aA:=hid aD;clear aD))
 all_goals
  go_wp2;go_ret;refine ⟨rfl,?_⟩
  first
   | exact bs (bs (aG _ _).drew aA.out) aC.out
   | exact bs ((bs (aB _).drew aA.out).alloc (bs (aB _).drew aA.out).size _) aC.out
   | exact (bs (bs (aB _).drew aA.out) aC.out).alloc (bs (bs (aB _).drew aA.out) aC.out).size _
end Go.Proofs.YtehbpeinnepdcaaGreatDoor
