import Derived.Test.YtcoegjnjjdndjaaGreatDoorPrShf
import Derived.Test.YtcoegjnjjdndjaaGreatDoorPrG44
import Derived.Test.YtcoegjnjjdndjaaGreatDoorPrG48
import Derived.Test.YtcoegjnjjdndjaaGreatDoorPrG49
namespace Go.Proofs.YtcoegjnjjdndjaaGreatDoor
open Go.RowKit
set_option maxRecDepth 4000
set_option linter.unusedVariables false
theorem bcell1F {W w1:World} (hb:Below W.heap.size W w1):(∀ b o,b<W.heap.size->w1.cell? ⟨b,o,none⟩=W.cell? ⟨b,o,none⟩)/\(∀ b o,b<W.heap.size->w1.frozen? ⟨b,o,none⟩=W.frozen? ⟨b,o,none⟩) :=
 ⟨fun b o h=>hb.cell (p:=⟨b,o,none⟩) h,fun b o h=>hb.frozen (p:=⟨b,o,none⟩) h⟩
theorem bs {w x y:World} (h:Below w.heap.size w x) (hb:Below x.heap.size x y):Below w.heap.size w y:=h.trans (hb.mono h.size)
theorem sized_i (s:ByteArray) (w:World) (hs:s.size<=255):Calls Tryz.prog 207 #[.string s] w fun e w'=>e=.returned (.string (strOfNums [(s.size:Int)]++s))/\Below w.heap.size w w':=by
 have hb1:=bytes1
 have hz1:(strOfNums [(s.size:Int)]).size=1:=by rw [strOfNums_size];rfl
 go_enter Tryz.func207,Tryz.ntmps207
 go_wp2
 go_ret
 exact ⟨rfl,(Below.refl _ _).alloc (Nat.le_refl _) _⟩
theorem bytes_any (w:World) (b:Nat) (n:Int) (h:w.cell? ⟨b,0,none⟩=some (.int .u8 n)):(convert 158 9 (.slice (some ⟨b,0,none⟩) 1 1)).run Tryz.prog w=.ok (.string (strOfNums [n])) w :=
 run_convert_bytes_arg (P:=Tryz.prog) _ 158 5 Tryz.underlying158 Tryz.underlying5 b 0 1 1 [n] rfl (fun i hi=>by
  have:i=0:=by omega
  subst this;simpa using h) 9 Tryz.underlying9
set_option maxHeartbeats 8000000 in
theorem formset_i (k v:ByteArray) (w:World) (hk:k.size<=255) (hv:v.size<=255):Calls Tryz.prog 211 #[.agg #[.string k,.string v]] w fun e w'=>e=.returned (.string (strOfNums [0]++(strOfNums [(k.size:Int)]++k)++(strOfNums [(v.size:Int)]++v)))/\Below w.heap.size w w':=by
 have hb1:∀ o,Below w.heap.size w (w.alloc o):=fun o=>(Below.refl _ _).alloc (Nat.le_refl _) _
 have hb0:∀ o o',Below w.heap.size w ((w.alloc o).alloc o'):=fun o o'=>(hb1 o).alloc (by simp) _
 have hb2:∀ (x:World) (b:Nat),x.cell? ⟨b,0,none⟩=some (.int .u8 0)->(convert 158 9 (.slice (some ⟨b,0,none⟩) 1 1)).run Tryz.prog x=.ok (.string (strOfNums [0])) x:=fun x b h=>bytes_any x b 0 h
 have z3:(strOfNums [0]++(strOfNums [(k.size:Int)]++k)).size=2+k.size:=by rw [ByteArray.size_append,ByteArray.size_append,strOfNums_size,strOfNums_size];simp;omega
 have n1:¬ 9223372036854775807<1+(1+k.size):=by omega
 have n2:¬ 9223372036854775807<2+k.size+(1+v.size):=by omega
 have z0:(strOfNums [0]).size=1:=by rw [strOfNums_size];rfl
 have z1:(strOfNums [(k.size:Int)]++k).size=1+k.size:=by rw [ByteArray.size_append,strOfNums_size];rfl
 have z2:(strOfNums [(v.size:Int)]++v).size=1+v.size:=by rw [ByteArray.size_append,strOfNums_size];rfl
 go_enter Tryz.func211,Tryz.ntmps211
 go_wp2_with fail
 go_region_law (first | (have _g:=q7;refine step_call (by rfl) 207 #[.string v] (by go_simp) (sized_i v _ hv) ?_;rintro e w8 ⟨rfl,hb8⟩;refine ⟨_,rfl,?_⟩;obtain ⟨q8,_⟩:=bcell1F hb8;have hs8:=hb8.size;have HB8:=hid hb8;clear hb8) | (refine step_call (by rfl) 207 #[.string k] (by go_simp) (sized_i k _ hk) ?_;rintro e w7 ⟨rfl,hb7⟩;refine ⟨_,rfl,?_⟩;have hs7:=hb7.size;simp only [World.size_alloc,World.size_drew] at hs7;have l70:w.heap.size<w7.heap.size:=(by omega);have l71:=Nat.lt_of_succ_le hs7;obtain ⟨q7,_⟩:=bcell1F hb7;have HB7:=hid hb7;clear hb7))
 all_goals
  go_wp2
  go_ret
  refine ⟨rfl,?_⟩
  first
   | exact bs (bs (hb0 _ _).drew HB7.out) HB8.out
   | exact bs ((bs (hb1 _).drew HB7.out).alloc (bs (hb1 _).drew HB7.out).size _) HB8.out
   | exact (bs (bs (hb1 _).drew HB7.out) HB8.out).alloc (bs (bs (hb1 _).drew HB7.out) HB8.out).size _
end Go.Proofs.YtcoegjnjjdndjaaGreatDoor
