import Derived.WalkKit
import Derived.WalkSpells
import Derived.WalkLawsBesides
import Derived.Outline
import Derived.BigQuiet
import Derived.Deep.QuietTactic
import Derived.Deep.RegionHeld3
import Derived.Test.YtcoegjnjjdndjaaGreatDoorProg
import Derived.Test.YtcoegjnjjdndjaaGreatDoorPrG48
namespace Go.Proofs.YtcoegjnjjdndjaaGreatDoor
open Go.RowKit
set_option maxRecDepth 4000
theorem ret_bool {a b:Bool} (h:a=b):Ending.returned (.bool a)=.returned (.bool b):=by rw [h]
def pageOk (k l m:Int) (p:ByteArray) (n:Int):Bool:=decide (1<=n/\n<=8/\1<=k/\k<=4/\1<=l/\l<=60000/\1<=m/\m<=1000000000/\(p.size:Int)<=56-n/\(k=3->p.size=0))
@[reducible] def pageV (k l m:Int) (p:ByteArray):Value:=.agg #[.int .i64 k,.int .i64 l,.int .i64 m,.string p]
set_option maxHeartbeats 400000 in
theorem num_s (v:Int) (c:Nat) (w:World) (h0:0<=v) (h1:v<=9223372036854775807) (hc:c<=8) :
  Calls Tryz.prog 93 #[.int .i64 v,.int .i64 (c:Int)] w fun e w'=>e=.returned (.string (strOfNums (be c v)))/\Below w.heap.size w w':=by
 have hb1:=bytes1
 go_enter Tryz.func93,Tryz.ntmps93
 go_wp2
 go_loopw [0,5,6] (fun x o i wr=>∃ k:Nat,k<=c/\i=.int .i64 k/\o=.string (strOfNums (be k v))/\x=.int .i64 (sh k v)/\Below w.heap.size w wr) (fun _ _ i _=>c-(intOf i).toNat)
 case atStart=>exact ⟨0,Nat.zero_le _,rfl,rfl,rfl,Below.refl _ _⟩
 case round =>
  obtain ⟨k,hk,rfl,rfl,rfl,hbel⟩:=hrel
  have hsb:=sh_bd2 k v h0 h1
  by_cases hlt:k<c
  ·have hz1:(strOfNums [sh k v % 256]).size<=1:=by rw [strOfNums_size];simp
   have hz2:(strOfNums (be k v)).size<=8:=by rw [strOfNums_size,be_length];omega
   go_wp2
   go_roundw
   case rel=>exact ⟨k+1,by omega,by go_num,by rw [be_succ,<-strOfNums_append];rfl,rfl,hbel.alloc hbel.size _⟩
   case measure=>simp [intOf];omega
  ·have hkn:k=c:=by omega
   subst hkn
   go_wp2
   go_ret
   exact ⟨rfl,hbel⟩
theorem part_s (n:Int) (w:World) (h1:1<=n) (h2:n<=8):Calls Tryz.prog 125 #[.int .i64 n] w fun e w'=>e=.returned (.int .i64 (64-n-8))/\w'=w:=by
 go_enter Tryz.func125,Tryz.ntmps125
 go_wp2
 go_ret
 exact ⟨rfl,rfl⟩
theorem part_i (n:Int) (w:World) (h1:1<=n) (h2:n<=8):Calls Tryz.prog 159 #[.int .i64 n] w fun e w'=>e=.returned (.int .i64 (64-n-8))/\w'=w:=by
 go_enter Tryz.func159,Tryz.ntmps159
 go_wp2
 go_ret
 exact ⟨rfl,rfl⟩
set_option maxHeartbeats 800000 in
theorem ok_i (k l m:Int) (p:ByteArray) (n:Int) (w:World) (hp:p.size<=1048576) :
  Calls Tryz.prog 163 #[pageV k l m p,.int .i64 n] w fun e w'=>e=.returned (.bool (pageOk k l m p n))/\Below w.heap.size w w':=by
 by_cases hn:1<=n/\n<=8
 ·obtain ⟨hn1,hn2⟩:=hn
  go_enter Tryz.func163,Tryz.ntmps163
  go_wp2
  all_goals first
   | (go_ret;refine ⟨ret_bool ?_,(Below.refl _ _).alloc (Nat.le_refl _) _⟩;unfold pageOk;symm;apply decide_eq_false;intro h;omega)
   | (go_ret;refine ⟨ret_bool ?_,(Below.refl _ _).alloc (Nat.le_refl _) _⟩;have hk3:(k == 3)=true:=(by assumption);rw [isEmpty_size];unfold pageOk;simp at hk3;apply decide_eq_decide.2;constructor<;>intro h<;>omega)
   | (go_quiet ((go_at_call 159;exact Calls.quiet_of_same (part_i _ _ hn1 hn2)));go_wp2;go_ret;refine ⟨ret_bool ?_,below_drewN ((Below.refl _ _).alloc (Nat.le_refl _) _) _⟩;have hk3:(k == 3)=false:=(by assumption);unfold pageOk;simp at hk3;apply decide_eq_decide.2;constructor<;>intro h<;>omega)
 ·have hd:decide (1<=n/\n<=8)=false:=by simpa using hn
  go_enter Tryz.func163,Tryz.ntmps163
  go_wp2_with (go_at_call 57;refine (width_i _ _).mono ?_;rw [hd];rintro e w' ⟨rfl,rfl⟩)
  go_ret
  refine ⟨ret_bool ?_,(Below.refl _ _).alloc (Nat.le_refl _) _⟩
  unfold pageOk;symm;apply decide_eq_false;intro h;omega
set_option maxHeartbeats 800000 in
theorem ok_s (k l m:Int) (p:ByteArray) (n:Int) (w:World) (hp:p.size<=1048576) :
  Calls Tryz.prog 92 #[pageV k l m p,.int .i64 n] w fun e w'=>e=.returned (.bool (pageOk k l m p n))/\Below w.heap.size w w':=by
 by_cases hn:1<=n/\n<=8
 ·obtain ⟨hn1,hn2⟩:=hn
  by_cases h1:1<=k/\k<=4/\1<=l/\l<=60000/\1<=m/\m<=1000000000
  ·obtain ⟨a1,a2,a3,a4,a5,a6⟩:=h1
   by_cases hz:(p.size:Int)<=64-n-8
   ·by_cases hk:k=3
    ·have hk':(k != 3)=false:=by simp [hk]
     have HK:Hid (k=3):=hk
     clear hk
     go_enter Tryz.func92,Tryz.ntmps92
     go_wp2
     go_quiet ((go_at_call 125;exact Calls.quiet_of_same (part_s _ _ hn1 hn2)))
     go_wp2
     go_ret
     refine ⟨ret_bool ?_,below_drewN ((Below.refl _ _).alloc (Nat.le_refl _) _) _⟩
     rw [isEmpty_size];unfold pageOk;have hk:=HK.out;apply decide_eq_decide.2;constructor<;>intro h<;>omega
    ·have hk':(k != 3)=true:=by simp [hk]
     go_enter Tryz.func92,Tryz.ntmps92
     go_wp2
     go_quiet ((go_at_call 125;exact Calls.quiet_of_same (part_s _ _ hn1 hn2)))
     go_wp2
     go_ret
     refine ⟨ret_bool ?_,below_drewN ((Below.refl _ _).alloc (Nat.le_refl _) _) _⟩
     unfold pageOk;symm;apply decide_eq_true;omega
   ·have hz':decide ((p.size:Int)<=64-n-8)=false:=by simpa using hz
    go_enter Tryz.func92,Tryz.ntmps92
    go_wp2
    go_quiet ((go_at_call 125;exact Calls.quiet_of_same (part_s _ _ hn1 hn2)))
    go_wp2
    go_ret
    refine ⟨ret_bool ?_,below_drewN ((Below.refl _ _).alloc (Nat.le_refl _) _) _⟩
    unfold pageOk;symm;apply decide_eq_false;intro h;omega
  ·have hf:pageOk k l m p n=false:=by unfold pageOk;apply decide_eq_false;intro h;omega
   have HF:Hid (pageOk k l m p n=false):=hf
   clear hf
   go_enter Tryz.func92,Tryz.ntmps92
   go_wp2
   all_goals (go_ret;exact ⟨ret_bool HF.out.symm,(Below.refl _ _).alloc (Nat.le_refl _) _⟩)
 ·have hd:decide (1<=n/\n<=8)=false:=by simpa using hn
  go_enter Tryz.func92,Tryz.ntmps92
  go_wp2_with (go_at_call 39;refine (width_s _ _).mono ?_;rw [hd];rintro e w' ⟨rfl,rfl⟩)
  go_ret
  refine ⟨ret_bool ?_,(Below.refl _ _).alloc (Nat.le_refl _) _⟩
  unfold pageOk;symm;apply decide_eq_false;intro h;omega
end Go.Proofs.YtcoegjnjjdndjaaGreatDoor
