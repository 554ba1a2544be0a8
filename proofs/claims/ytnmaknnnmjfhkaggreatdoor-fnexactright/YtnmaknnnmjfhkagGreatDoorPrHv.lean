import Derived.Test.YtnmaknnnmjfhkagGreatDoorProg
import Derived.Test.YtnmaknnnmjfhkagGreatDoorPrG34
namespace Go.Proofs.YtnmaknnnmjfhkagGreatDoor
open Go.RowKit
set_option maxRecDepth 4000
set_option linter.unusedVariables false
set_option linter.unusedSimpArgs false
def hv (n:Int):Int:=if 8<=n/\n<=200 then (n-2) / 2 else 0
theorem isize_i (n:Int) (w:World):Calls Tryz.prog 147 #[.int .i64 n] w fun e w'=>e=.returned (.bool (decide (8<=n/\n<=200)))/\w'=w:=by
 go_enter Tryz.func147,Tryz.ntmps147
 by_cases h1:8<=n<;>by_cases h2:n<=200<;>(go_wp2;go_ret;simp [h1,h2])
theorem halves_i (n:Int) (w:World):Calls Tryz.prog 64 #[.int .i64 n] w fun e w'=>e=.returned (.int .i64 (hv n))/\w'=w:=by
 by_cases h:8<=n/\n<=200
 ·have hd:decide (8<=n/\n<=200)=true:=by simp [h]
  have hh:hv n=(n-2) / 2:=by unfold hv;rw [if_pos h]
  obtain ⟨h1,h2⟩:=h
  go_enter Tryz.func64,Tryz.ntmps64
  go_wp2_with (go_at_call 147;refine (isize_i _ _).mono ?_;rw [hd];rintro e w2 ⟨rfl,rfl⟩)
  go_ret
  refine ⟨?_,rfl⟩
  rw [hh]
  rfl
 ·have hd:decide (8<=n/\n<=200)=false:=by simpa using h
  have hh:hv n=0:=by unfold hv;rw [if_neg h]
  rw [hh]
  go_enter Tryz.func64,Tryz.ntmps64
  go_wp2_with (go_at_call 147;refine (isize_i _ _).mono ?_;rw [hd];rintro e w2 ⟨rfl,rfl⟩)
  go_ret
  exact ⟨rfl,rfl⟩
theorem halves_s (n:Int) (w:World):Calls Tryz.prog 30 #[.int .i64 n] w fun e w'=>e=.returned (.int .i64 (hv n))/\w'=w:=by
 by_cases h1:8<=n
 ·by_cases h2:n<=200
  ·have hh:hv n=(n-2) / 2:=by unfold hv;rw [if_pos ⟨h1,h2⟩]
   go_enter Tryz.func30,Tryz.ntmps30
   go_wp2
   go_ret
   refine ⟨?_,rfl⟩
   rw [hh]
   rfl
  ·have hh:hv n=0:=by unfold hv;rw [if_neg (fun x=>h2 x.2)]
   rw [hh]
   go_enter Tryz.func30,Tryz.ntmps30
   go_wp2
   go_ret
   exact ⟨rfl,rfl⟩
 ·have hh:hv n=0:=by unfold hv;rw [if_neg (fun x=>h1 x.1)]
  rw [hh]
  go_enter Tryz.func30,Tryz.ntmps30
  go_wp2
  go_ret
  exact ⟨rfl,rfl⟩
end Go.Proofs.YtnmaknnnmjfhkagGreatDoor
