import Derived.Test.YtnmaknnnmjfhkagGreatDoorPrG34
import Derived.Deep.AppendLies
import Derived.OneCell
set_option maxHeartbeats 16000000
set_option maxRecDepth 8000
set_option linter.unusedVariables false
set_option linter.unusedSimpArgs false
namespace Go.Proofs.YtnmaknnnmjfhkagGreatDoor
open Go.RowKit
theorem key_s' (s:ByteArray) (b:Bool) (w:World) (hs:s.size<=1048576) (h:kOk s=b):Calls Tryz.prog 177 #[.string s] w fun e w'=>e=.returned (.bool b)/\w'=w:=by
 rw [<-h];exact key_s s w hs
def klt (a b:ByteArray):Bool:=Op.bytesLess a.toList b.toList
def prOk (rs:List (ByteArray×ByteArray)) (i:Nat):Bool:=kOk (rs.getD i (ByteArray.empty,ByteArray.empty)).1 && vOk (rs.getD i (ByteArray.empty,ByteArray.empty)).2 && (decide (i=0) || klt (rs.getD (i-1) (ByteArray.empty,ByteArray.empty)).1 (rs.getD i (ByteArray.empty,ByteArray.empty)).1)
def stateOk (rs:List (ByteArray×ByteArray)):Bool:=decide (rs.length<=100) && (List.range rs.length).all (prOk rs)
theorem stateOk_no1 {rs:List (ByteArray×ByteArray)} (h:¬ (rs.length<=100)):stateOk rs=false:=by simp [stateOk,h]
theorem stateOk_no2 {rs:List (ByteArray×ByteArray)} {k:Nat} (hk:k<rs.length) (h:prOk rs k=false):stateOk rs=false:=by
 have:(List.range rs.length).all (prOk rs)=false:=List.all_eq_false.2 ⟨k,List.mem_range.2 hk,by simp [h]⟩
 simp [stateOk,this]
theorem stateOk_yes {rs:List (ByteArray×ByteArray)} (h:rs.length<=100) (h1:∀ k,k<rs.length->prOk rs k=true):stateOk rs=true:=by
 simp only [stateOk,Bool.and_eq_true,decide_eq_true_eq,List.all_eq_true]
 exact ⟨h,fun k hk=>h1 k (List.mem_range.1 hk)⟩
theorem stateOk_of {rs:List (ByteArray×ByteArray)} (h:stateOk rs=true):rs.length<=100/\∀ k,k<rs.length->prOk rs k=true:=by
 simp only [stateOk,Bool.and_eq_true,decide_eq_true_eq,List.all_eq_true] at h
 exact ⟨h.1,fun k hk=>h.2 k (List.mem_range.2 hk)⟩
section
variable {rs:List (ByteArray×ByteArray)} {k j:Nat} {s0 s1 t0 t1:ByteArray}
theorem prOk_no1 (hS:(s0,s1)=rs.getD k (ByteArray.empty,ByteArray.empty)) (h:kOk s0=false):prOk rs k=false:=by unfold prOk;rw [<-hS];simp [h]
theorem prOk_no2 (hS:(s0,s1)=rs.getD k (ByteArray.empty,ByteArray.empty)) (h:vOk s1=false):prOk rs k=false:=by unfold prOk;rw [<-hS];simp [h]
theorem prOk_no3 (hS:(s0,s1)=rs.getD k (ByteArray.empty,ByteArray.empty)) (hT:(t0,t1)=rs.getD j (ByteArray.empty,ByteArray.empty)) (hj:k=j+1) (h:Op.bytesLess t0.toList s0.toList=false):prOk rs k=false:=by
 unfold prOk klt;rw [<-hS];subst hj;rw [Nat.add_sub_cancel,<-hT];simp [h]
theorem prOk_yes0 (hS:(s0,s1)=rs.getD k (ByteArray.empty,ByteArray.empty)) (hk:k=0) (h:kOk s0=true) (h2:vOk s1=true):prOk rs k=true:=by subst hk;unfold prOk;rw [<-hS];simp [h,h2]
theorem prOk_yes (hS:(s0,s1)=rs.getD k (ByteArray.empty,ByteArray.empty)) (hT:(t0,t1)=rs.getD j (ByteArray.empty,ByteArray.empty)) (hj:k=j+1) (h:kOk s0=true) (h2:vOk s1=true) (h3:Op.bytesLess t0.toList s0.toList=true):prOk rs k=true:=by
 unfold prOk klt;rw [<-hS];subst hj;rw [Nat.add_sub_cancel,<-hT];simp [h,h2,h3]
theorem upto_succ (HA:∀ i,i<k->prOk rs i=true) (h:prOk rs k=true):∀ i,i<k+1->prOk rs i=true:=by
 intro i hi
 rcases Nat.lt_or_ge i k with h1 | h1
 ·exact HA i h1
 ·have:i=k:=by omega
  subst this;exact h
end
set_option maxHeartbeats 16000000 in
theorem vstate_s (a:Option Addr) (rs:List (ByteArray×ByteArray)) (c:Nat) (w:World) (h:Prs w a rs) (hl:rs.length<=1048576) (hs:∀ x∈rs,x.1.size<=1048576/\x.2.size<=1048576) :
  Calls Tryz.prog 85 #[.agg #[.slice a rs.length c]] w fun e w'=>e=.returned (.bool (stateOk rs))/\Below w.heap.size w w':=by
 have hb0:∀ o,Below w.heap.size w (w.alloc o):=fun o=>(Below.refl _ _).alloc (Nat.le_refl _) _
 obtain ⟨R,HR⟩:∃ R,Hid (R=stateOk rs):=⟨_,hid rfl⟩
 rw [<-HR.out]
 by_cases hp:(rs.length:Int)<=100
 ·go_enter Tryz.func85,Tryz.ntmps85
  go_wp2
  go_loopw [3] (fun i wr=>∃ k:Nat,k<=rs.length/\i=.int .i64 k/\Hid (∀ i,i<k->prOk rs i=true)/\Below (w.heap.size+1) (w.alloc (.cells #[.slice a rs.length c] 31)) wr) (fun i _=>rs.length-(intOf i).toNat)
  case atStart=>exact ⟨0,Nat.zero_le _,rfl,fun i hi=>by omega,Below.refl _ _⟩
  case round =>
   obtain ⟨k,hk,rfl,HA,hbel⟩:=hrel
   have hbw:Below w.heap.size w wr:=(hb0 _).trans (hbel.mono (by omega))
   have q0:wr.cell? ⟨w.heap.size,0,none⟩=some (.slice a rs.length c):=(hbel.cell (p:=⟨w.heap.size,0,none⟩) (by show w.heap.size<_;omega)).trans (by go_simp)
   have hsz:w.heap.size+1<=wr.heap.size:=by have:=hbel.size;simpa using this
   by_cases hlt:k<rs.length
   ·obtain ⟨b,o,s0,s1,rfl,hc0,hc1,HS⟩:=(h.below hbw).at hlt
    have hm:Hid ((s0,s1)∈rs):=by show _∈_;rw [HS.out];simp [List.getD,hlt]
    obtain ⟨hz0,hz1⟩:=hs _ hm.out
    have hlt':(k:Int)<(rs.length:Int):=by omega
    rcases Nat.eq_zero_or_pos k with hk0 | hk0
    ·have hkz:decide ((0:Int)<(k:Int))=false:=by simp;omega
     have hkz2:decide (0<k)=false:=by simp;omega
     have hk00:(0:Int)<=(k:Int):=by omega
     have HK:=hid hk0
     clear hk0
     cases hk1:kOk s0 with
     | false =>
      go_wp2_with fail
      go_quiet ((go_at_call 177;exact Calls.quiet_of_same (key_s' _ _ _ hz0 hk1)))
      go_wp2
      go_ret
      exact ⟨ret_boolb (by rw [HR.out];exact (stateOk_no2 hlt (prOk_no1 HS.out hk1)).symm),(hb0 _).trans ((below_drewN hbel _).mono (by omega))⟩
     | true =>
      cases hv1:vOk s1 with
      | false =>
       have hv3:decide (100<(s1.size:Int))=true:=by simp [vOk] at hv1;simp;omega
       go_wp2_with fail
       go_quiet ((go_at_call 177;exact Calls.quiet_of_same (key_s' _ _ _ hz0 hk1)))
       go_wp2
       go_ret
       exact ⟨ret_boolb (by rw [HR.out];exact (stateOk_no2 hlt (prOk_no2 HS.out hv1)).symm),(hb0 _).trans ((below_drewN hbel _).mono (by omega))⟩
      | true =>
       have hv3:decide (100<(s1.size:Int))=false:=by simp [vOk] at hv1;simp;omega
       go_wp2_with fail
       go_quiet ((go_at_call 177;exact Calls.quiet_of_same (key_s' _ _ _ hz0 hk1)))
       go_wp2
       go_roundw
       case rel=>exact ⟨_,by omega,by go_num,upto_succ HA.out (prOk_yes0 HS.out HK.out hk1 hv1),below_drewN hbel _⟩
       case measure=>simp [intOf];omega
    ·obtain ⟨j,hj⟩:∃ j,k=j+1:=⟨k-1,by omega⟩
     have hkj:(k:Int)-1=(j:Int):=by omega
     have hj0:(0:Int)<=(j:Int):=by omega
     have hk00:(0:Int)<=(k:Int):=by omega
     have hk01:(0:Int)<(k:Int):=by omega
     have hwj:IntKind.i64.wrap (j:Int)=(j:Int):=by simp [IntKind.wrap,IntKind.bits,IntKind.signed];omega
     have hj1:(j:Int)<(rs.length:Int):=by omega
     obtain ⟨b',o',t0,t1,he,hd0,hd1,HT⟩:=(h.below hbw).at (show j<rs.length by omega)
     cases he
     have HJ:=hid hj
     clear hj
     have hba:∀ ob,Below wr.heap.size wr (wr.alloc ob):=fun ob=>(Below.refl _ _).alloc (Nat.le_refl _) _
     have lb:b<wr.heap.size:=by have:=World.block_lt_of_cell? wr _ hd0;simpa using this
     have qa:=((hba (.cells #[.string s0,.string s1] 144)).cell (p:=⟨w.heap.size,0,none⟩) (by show w.heap.size<_;omega)).trans q0
     have qb:=((hba (.cells #[.string s0,.string s1] 144)).cell (p:=⟨b,o+j*2,none⟩) lb).trans hd0
     clear hba lb
     cases hk1:kOk s0 with
     | false =>
      go_wp2_with fail
      go_quiet ((go_at_call 177;exact Calls.quiet_of_same (key_s' _ _ _ hz0 hk1)))
      go_wp2
      go_ret
      exact ⟨ret_boolb (by rw [HR.out];exact (stateOk_no2 hlt (prOk_no1 HS.out hk1)).symm),(hb0 _).trans ((below_drewN hbel _).mono (by omega))⟩
     | true =>
      cases hv1:vOk s1 with
      | false =>
       have hv3:decide (100<(s1.size:Int))=true:=by simp [vOk] at hv1;simp;omega
       go_wp2_with fail
       go_quiet ((go_at_call 177;exact Calls.quiet_of_same (key_s' _ _ _ hz0 hk1)))
       go_wp2
       go_ret
       exact ⟨ret_boolb (by rw [HR.out];exact (stateOk_no2 hlt (prOk_no2 HS.out hv1)).symm),(hb0 _).trans ((below_drewN hbel _).mono (by omega))⟩
      | true =>
       have hv3:decide (100<(s1.size:Int))=false:=by simp [vOk] at hv1;simp;omega
       cases hlt3:Op.bytesLess t0.toList s0.toList with
       | false =>
        have hlt4:(!Op.bytesLess t0.toList s0.toList)=true:=by simp [hlt3]
        go_wp2_with fail
        go_quiet ((go_at_call 177;exact Calls.quiet_of_same (key_s' _ _ _ hz0 hk1)))
        go_wp2
        go_ret
        exact ⟨ret_boolb (by rw [HR.out];exact (stateOk_no2 hlt (prOk_no3 HS.out HT.out HJ.out hlt3)).symm),(hb0 _).trans ((below_drewN hbel _).mono (by omega))⟩
       | true =>
        have hlt4:(!Op.bytesLess t0.toList s0.toList)=false:=by simp [hlt3]
        go_wp2_with fail
        go_quiet ((go_at_call 177;exact Calls.quiet_of_same (key_s' _ _ _ hz0 hk1)))
        go_wp2
        go_roundw
        case rel=>exact ⟨_,by omega,by go_num,upto_succ HA.out (prOk_yes HS.out HT.out HJ.out hk1 hv1 hlt3),below_drewN hbel _⟩
        case measure=>simp [intOf];omega
   ·have hall:Hid (∀ i,i<rs.length->prOk rs i=true):=fun i hi=>HA.out i (by omega)
    clear HA
    go_wp2
    go_ret
    exact ⟨ret_boolb (by rw [HR.out];exact (stateOk_yes (by omega) hall.out).symm),hbw⟩
 ·go_enter Tryz.func85,Tryz.ntmps85
  go_wp2
  go_ret
  exact ⟨ret_boolb (by rw [HR.out];exact (stateOk_no1 (by omega)).symm),hb0 _⟩
set_option maxHeartbeats 16000000 in
theorem vstate_i (a:Option Addr) (rs:List (ByteArray×ByteArray)) (c:Nat) (w:World) (h:Prs w a rs) (hl:rs.length<=1048576) (hs:∀ x∈rs,x.1.size<=1048576/\x.2.size<=1048576) :
  Calls Tryz.prog 118 #[.agg #[.slice a rs.length c]] w fun e w'=>e=.returned (.bool (stateOk rs))/\Below w.heap.size w w':=by
 have hb0:∀ o,Below w.heap.size w (w.alloc o):=fun o=>(Below.refl _ _).alloc (Nat.le_refl _) _
 obtain ⟨R,HR⟩:∃ R,Hid (R=stateOk rs):=⟨_,hid rfl⟩
 rw [<-HR.out]
 by_cases hp:(rs.length:Int)<=100
 ·go_enter Tryz.func118,Tryz.ntmps118
  go_wp2
  go_loopw [3,4,12] (fun _ _ i wr=>∃ k:Nat,k<=rs.length/\i=.int .i64 k/\Hid (∀ i,i<k->prOk rs i=true)/\Below (w.heap.size+1) (w.alloc (.cells #[.slice a rs.length c] 31)) wr) (fun _ _ i _=>rs.length-(intOf i).toNat)
  case atStart=>exact ⟨0,Nat.zero_le _,rfl,fun i hi=>by omega,Below.refl _ _⟩
  case round =>
   obtain ⟨k,hk,rfl,HA,hbel⟩:=hrel
   have hbw:Below w.heap.size w wr:=(hb0 _).trans (hbel.mono (by omega))
   have q0:wr.cell? ⟨w.heap.size,0,none⟩=some (.slice a rs.length c):=(hbel.cell (p:=⟨w.heap.size,0,none⟩) (by show w.heap.size<_;omega)).trans (by go_simp)
   have hsz:w.heap.size+1<=wr.heap.size:=by have:=hbel.size;simpa using this
   by_cases hlt:k<rs.length
   ·obtain ⟨b,o,s0,s1,rfl,hc0,hc1,HS⟩:=(h.below hbw).at hlt
    have hm:Hid ((s0,s1)∈rs):=by show _∈_;rw [HS.out];simp [List.getD,hlt]
    obtain ⟨hz0,hz1⟩:=hs _ hm.out
    have hlt':(k:Int)<(rs.length:Int):=by omega
    rcases Nat.eq_zero_or_pos k with hk0 | hk0
    ·have hkz:decide ((0:Int)<(k:Int))=false:=by simp;omega
     have hkz2:decide (0<k)=false:=by simp;omega
     have hk00:(0:Int)<=(k:Int):=by omega
     have HK:=hid hk0
     clear hk0
     cases hk1:kOk s0 with
     | false =>
      go_wp2_with (first | (go_at_call 183;refine (key_i _ _ hz0).mono ?_;rw [hk1];rintro e w2 ⟨rfl,rfl⟩))
      go_ret
      exact ⟨ret_boolb (by rw [HR.out];exact (stateOk_no2 hlt (prOk_no1 HS.out hk1)).symm),(hb0 _).trans ((hbel.alloc hsz _).mono (by omega))⟩
     | true =>
      cases hv1:vOk s1 with
      | false =>
       have hv3:decide (100<(s1.size:Int))=true:=by simp [vOk] at hv1;simp;omega
       go_wp2_with (first | (go_at_call 183;refine (key_i _ _ hz0).mono ?_;rw [hk1];rintro e w2 ⟨rfl,rfl⟩) | (go_at_call 184;refine (val_i _ _ hz1).mono ?_;rw [hv1];rintro e w2 ⟨rfl,rfl⟩))
       go_ret
       exact ⟨ret_boolb (by rw [HR.out];exact (stateOk_no2 hlt (prOk_no2 HS.out hv1)).symm),(hb0 _).trans ((hbel.alloc hsz _).mono (by omega))⟩
      | true =>
       have hv3:decide (100<(s1.size:Int))=false:=by simp [vOk] at hv1;simp;omega
       go_wp2_with (first | (go_at_call 183;refine (key_i _ _ hz0).mono ?_;rw [hk1];rintro e w2 ⟨rfl,rfl⟩) | (go_at_call 184;refine (val_i _ _ hz1).mono ?_;rw [hv1];rintro e w2 ⟨rfl,rfl⟩))
       go_quiet (fail)
       go_wp2
       go_roundw
       case rel=>exact ⟨_,by omega,by go_num,upto_succ HA.out (prOk_yes0 HS.out HK.out hk1 hv1),below_drewN (hbel.alloc hsz _) _⟩
       case measure=>simp [intOf];omega
    ·obtain ⟨j,hj⟩:∃ j,k=j+1:=⟨k-1,by omega⟩
     have hkj:(k:Int)-1=(j:Int):=by omega
     have hj0:(0:Int)<=(j:Int):=by omega
     have hk00:(0:Int)<=(k:Int):=by omega
     have hk01:(0:Int)<(k:Int):=by omega
     have hwj:IntKind.i64.wrap (j:Int)=(j:Int):=by simp [IntKind.wrap,IntKind.bits,IntKind.signed];omega
     have hj1:(j:Int)<(rs.length:Int):=by omega
     obtain ⟨b',o',t0,t1,he,hd0,hd1,HT⟩:=(h.below hbw).at (show j<rs.length by omega)
     cases he
     have HJ:=hid hj
     clear hj
     have hba:∀ ob,Below wr.heap.size wr (wr.alloc ob):=fun ob=>(Below.refl _ _).alloc (Nat.le_refl _) _
     have lb:b<wr.heap.size:=by have:=World.block_lt_of_cell? wr _ hd0;simpa using this
     have qa:=((hba (.cells #[.string s0,.string s1] 144)).cell (p:=⟨w.heap.size,0,none⟩) (by show w.heap.size<_;omega)).trans q0
     have qb:=((hba (.cells #[.string s0,.string s1] 144)).cell (p:=⟨b,o+j*2,none⟩) lb).trans hd0
     clear hba lb
     cases hk1:kOk s0 with
     | false =>
      go_wp2_with (first | (go_at_call 183;refine (key_i _ _ hz0).mono ?_;rw [hk1];rintro e w2 ⟨rfl,rfl⟩))
      go_ret
      exact ⟨ret_boolb (by rw [HR.out];exact (stateOk_no2 hlt (prOk_no1 HS.out hk1)).symm),(hb0 _).trans ((hbel.alloc hsz _).mono (by omega))⟩
     | true =>
      cases hv1:vOk s1 with
      | false =>
       have hv3:decide (100<(s1.size:Int))=true:=by simp [vOk] at hv1;simp;omega
       go_wp2_with (first | (go_at_call 183;refine (key_i _ _ hz0).mono ?_;rw [hk1];rintro e w2 ⟨rfl,rfl⟩) | (go_at_call 184;refine (val_i _ _ hz1).mono ?_;rw [hv1];rintro e w2 ⟨rfl,rfl⟩))
       go_ret
       exact ⟨ret_boolb (by rw [HR.out];exact (stateOk_no2 hlt (prOk_no2 HS.out hv1)).symm),(hb0 _).trans ((hbel.alloc hsz _).mono (by omega))⟩
      | true =>
       have hv3:decide (100<(s1.size:Int))=false:=by simp [vOk] at hv1;simp;omega
       cases hlt3:Op.bytesLess t0.toList s0.toList with
       | false =>
        have hlt4:(!Op.bytesLess t0.toList s0.toList)=true:=by simp [hlt3]
        go_wp2_with (first | (go_at_call 183;refine (key_i _ _ hz0).mono ?_;rw [hk1];rintro e w2 ⟨rfl,rfl⟩) | (go_at_call 184;refine (val_i _ _ hz1).mono ?_;rw [hv1];rintro e w2 ⟨rfl,rfl⟩))
        go_quiet (fail)
        go_wp2
        go_ret
        exact ⟨ret_boolb (by rw [HR.out];exact (stateOk_no2 hlt (prOk_no3 HS.out HT.out HJ.out hlt3)).symm),(hb0 _).trans ((below_drewN (hbel.alloc hsz _) _).mono (by omega))⟩
       | true =>
        have hlt4:(!Op.bytesLess t0.toList s0.toList)=false:=by simp [hlt3]
        go_wp2_with (first | (go_at_call 183;refine (key_i _ _ hz0).mono ?_;rw [hk1];rintro e w2 ⟨rfl,rfl⟩) | (go_at_call 184;refine (val_i _ _ hz1).mono ?_;rw [hv1];rintro e w2 ⟨rfl,rfl⟩))
        go_quiet (fail)
        go_wp2
        go_roundw
        case rel=>exact ⟨_,by omega,by go_num,upto_succ HA.out (prOk_yes HS.out HT.out HJ.out hk1 hv1 hlt3),below_drewN (hbel.alloc hsz _) _⟩
        case measure=>simp [intOf];omega
   ·have hall:Hid (∀ i,i<rs.length->prOk rs i=true):=fun i hi=>HA.out i (by omega)
    clear HA
    go_wp2
    go_ret
    exact ⟨ret_boolb (by rw [HR.out];exact (stateOk_yes (by omega) hall.out).symm),hbw⟩
 ·go_enter Tryz.func118,Tryz.ntmps118
  go_wp2
  go_ret
  exact ⟨ret_boolb (by rw [HR.out];exact (stateOk_no1 (by omega)).symm),hb0 _⟩
end Go.Proofs.YtnmaknnnmjfhkagGreatDoor
namespace Go.Proofs.YtnmaknnnmjfhkagGreatDoor
open Go.RowKit
theorem owns_below {w w':World} {base:Nat} {e:TypeId} {size:Nat} {v:Value} {n:Nat} {xs:List Value} (h:w.ownsRow base e size v n xs) (hb:Below w.heap.size w w'):w'.ownsRow base e size v n xs:=by
 refine ⟨h.1,?_⟩
 rcases h.2 with h0 | ⟨g,cap,cur,h1,h2,h3,h4⟩
 ·exact .inl h0
 ·refine .inr ⟨g,cap,cur,h1,h2,?_,h4⟩
  have hlt:g<w.heap.size:=by
   rcases Nat.lt_or_ge g w.heap.size with h | h
   ·exact h
   ·rw [Array.getElem?_eq_none h] at h3;cases h3
  rw [hb.block g hlt];exact h3
theorem owns_row {w:World} {base:Nat} {e:TypeId} {size:Nat} {g n cap:Nat} {xs:List Value} (h:w.ownsRow base e size (.slice (some ⟨g,0,none⟩) n cap) n xs):Row w g xs:=by
 have hl:=(h.lt g rfl).2
 refine ⟨hl,fun i v hv=>?_,fun i hi=>?_⟩
 ·have:=h.cells (g:=g) rfl i v hv
  have ha:(⟨g,0,none⟩:Addr).add i=⟨g,i,none⟩:=by unfold Addr.add;split<;>simp_all
  rwa [ha] at this
 ·rcases h.2 with ⟨h0,_⟩ | ⟨g',cap',cur,h1,_,h3,_⟩
  ·cases h0
  ·simp at h1
   rw [<-h1.1] at h3
   simp [World.frozen?,h3]
theorem owns_forms {w:World} {base:Nat} {e:TypeId} {size:Nat} {v:Value} {n:Nat} {xs:List Value} (h:w.ownsRow base e size v n xs):(v=.slice none 0 0/\n=0)\/∃ g cap,v=.slice (some ⟨g,0,none⟩) n cap/\base<=g/\g<w.heap.size/\Row w g xs:=by
 rcases h.2 with h0 | ⟨g,cap,cur,h1,h2,h3,h4⟩
 ·exact .inl h0
 ·subst h1
  exact .inr ⟨g,cap,rfl,h2,(h.lt g rfl).2,owns_row h⟩
structure Dsk (W w:World) (R D base:Nat) (e e':TypeId) (v v':Value) (ss:List ByteArray) (ws:List (Int×ByteArray)):Prop where
 hR:W.heap.size<=R
 hR':R<base
 hD:W.heap.size<=D
 hD':D<base
 ne:R≠D
 sz:base<=w.heap.size
 bel:Below W.heap.size W w
 r0:w.cell? ⟨R,0,none⟩=some (.slice none 0 0)
 r1:w.cell? ⟨R,1,none⟩=some (.slice none 0 0)
 fr0:w.frozen? ⟨R,0,none⟩=false
 fr1:w.frozen? ⟨R,1,none⟩=false
 d0:w.cell? ⟨D,0,none⟩=some v
 d1:w.cell? ⟨D,1,none⟩=some v'
 fd0:w.frozen? ⟨D,0,none⟩=false
 fd1:w.frozen? ⟨D,1,none⟩=false
 own:w.ownsRow base e 1 v ss.length (ss.map Value.string)
 own':w.ownsRow base e' 2 v' ws.length (wcells ws)
 apart:v.ownBlock=none\/v'.ownBlock=none\/v.ownBlock≠v'.ownBlock
section
variable {W w w':World} {R D base:Nat} {e e':TypeId} {v v':Value} {ss:List ByteArray} {ws:List (Int×ByteArray)}
theorem Dsk.below (h:Dsk W w R D base e e' v v' ss ws) (hb:Below w.heap.size w w'):Dsk W w' R D base e e' v v' ss ws :=
 have lR:R<w.heap.size:=Nat.lt_of_lt_of_le h.hR' h.sz
 have lD:D<w.heap.size:=Nat.lt_of_lt_of_le h.hD' h.sz
 have lW:W.heap.size<=w.heap.size:=h.bel.size
 ⟨h.hR,h.hR',h.hD,h.hD',h.ne,Nat.le_trans h.sz hb.size,h.bel.trans (hb.mono lW),(hb.cell (p:=⟨R,0,none⟩) lR).trans h.r0,(hb.cell (p:=⟨R,1,none⟩) lR).trans h.r1,(hb.frozen (p:=⟨R,0,none⟩) lR).trans h.fr0,(hb.frozen (p:=⟨R,1,none⟩) lR).trans h.fr1,
  (hb.cell (p:=⟨D,0,none⟩) lD).trans h.d0,(hb.cell (p:=⟨D,1,none⟩) lD).trans h.d1,(hb.frozen (p:=⟨D,0,none⟩) lD).trans h.fd0,(hb.frozen (p:=⟨D,1,none⟩) lD).trans h.fd1,owns_below h.own hb,owns_below h.own' hb,h.apart⟩
theorem Dsk.drew (h:Dsk W w R D base e e' v v' ss ws):Dsk W w.drew R D base e e' v v' ss ws:=h.below ((Below.refl _ _).drew)
theorem Dsk.alloc (h:Dsk W w R D base e e' v v' ss ws) (o:Obj):Dsk W (w.alloc o) R D base e e' v v' ss ws:=h.below ((Below.refl _ _).alloc (Nat.le_refl _) _)
theorem Dsk.push (h:Dsk W w R D base e e' v v' ss ws) {w1:World} {g cap H:Nat} {s:ByteArray} (hown:w1.ownsRow base e 1 (.slice (some ⟨g,0,none⟩) (ss.length+1) cap) (ss.length+1) (ss.map Value.string++[.string s])) (hg:w.grownBy w1 v.ownBlock) (hat:v.ownBlock=some g\/g=H) (hH:w.heap.size=H) :
  Dsk W (w1.setCell ⟨D,0,none⟩ (.slice (some ⟨g,0,none⟩) (ss.length+1) cap)) R D base e e' (.slice (some ⟨g,0,none⟩) (ss.length+1) cap) v' (ss++[s]) ws:=by
 have lR:R<w.heap.size:=Nat.lt_of_lt_of_le h.hR' h.sz
 have lD:D<w.heap.size:=Nat.lt_of_lt_of_le h.hD' h.sz
 have lW:W.heap.size<=w.heap.size:=h.bel.size
 have nb:∀ k,k<base->some k≠v.ownBlock:=fun k hk he=>by have:=(h.own.lt k he.symm).1;omega
 have cR:∀ i,w1.cell? ⟨R,i,none⟩=w.cell? ⟨R,i,none⟩:=fun i=>hg.cell_far ⟨R,i,none⟩ lR (nb R h.hR')
 have cD:∀ i,w1.cell? ⟨D,i,none⟩=w.cell? ⟨D,i,none⟩:=fun i=>hg.cell_far ⟨D,i,none⟩ lD (nb D h.hD')
 have fR:∀ i,w1.frozen? ⟨R,i,none⟩=w.frozen? ⟨R,i,none⟩:=fun i=>hg.frozen_far ⟨R,i,none⟩ lR (nb R h.hR')
 have fD:∀ i,w1.frozen? ⟨D,i,none⟩=w.frozen? ⟨D,i,none⟩:=fun i=>hg.frozen_far ⟨D,i,none⟩ lD (nb D h.hD')
 have gb:base<=g:=(hown.lt g rfl).1
 have hbel:Below W.heap.size W w1:=h.bel.trans ⟨hg.os,hg.tape,hg.output,hg.size,fun k hk=>hg.block k (by omega) (nb k (by have:=h.hR;have:=h.hR';omega))⟩
 have ap:v'.ownBlock=none\/(Value.slice (some ⟨g,0,none⟩) (ss.length+1) cap).ownBlock≠v'.ownBlock:=by
  cases hv':v'.ownBlock with
  | none=>exact .inl rfl
  | some g' =>
   refine .inr fun he=>?_
   have hgg:g=g':=by simpa [Value.ownBlock] using he
   have lt':=(h.own'.lt g' hv').2
   rcases hat with h1 | h1
   ·rcases h.apart with h2 | h2 | h2
    ·rw [h1] at h2;cases h2
    ·rw [hv'] at h2;cases h2
    ·rw [h1,hv',hgg] at h2;exact h2 rfl
   ·omega
 refine ⟨h.hR,h.hR',h.hD,h.hD',h.ne,?_,hbel.setCell h.hD _,?_,?_,?_,?_,?_,?_,?_,?_,?_,?_,?_⟩
 ·have:=hg.size;have:=h.sz;simp only [World.size_setCell];omega
 ·rw [World.cell?_setCell_other (w:=w1) (h:=show (⟨D,0,none⟩:Addr)≠⟨R,0,none⟩ from fun he=>h.ne (by injection he with h1;exact h1.symm)),cR];exact h.r0
 ·rw [World.cell?_setCell_other (w:=w1) (h:=show (⟨D,0,none⟩:Addr)≠⟨R,1,none⟩ from fun he=>h.ne (by injection he with h1;exact h1.symm)),cR];exact h.r1
 ·rw [World.frozen?_setCell,fR];exact h.fr0
 ·rw [World.frozen?_setCell,fR];exact h.fr1
 ·exact World.cell?_setCell_same w1 _ _ ((cD 0).trans h.d0)
 ·rw [World.cell?_setCell_other (w:=w1) (h:=show (⟨D,0,none⟩:Addr)≠⟨D,1,none⟩ by simp),cD];exact h.d1
 ·rw [World.frozen?_setCell,fD];exact h.fd0
 ·rw [World.frozen?_setCell,fD];exact h.fd1
 ·have:=ownsRow_setCell_below hown (a:=⟨D,0,none⟩) h.hD' (.slice (some ⟨g,0,none⟩) (ss.length+1) cap)
  simpa using this
 ·have k1:w1.ownsRow base e' 2 v' ws.length (wcells ws):=h.own'.kept hg (by
   rcases h.apart with h2 | h2 | h2
   ·cases hv':v'.ownBlock with
    | none=>exact .inl rfl
    | some _=>rw [h2];exact .inr (by simp)
   ·exact .inl h2
   ·exact .inr (fun he=>h2 he.symm))
  exact ownsRow_setCell_below k1 (a:=⟨D,0,none⟩) h.hD' _
 ·exact .inr ap
theorem Dsk.grown {w1:World} (h:Dsk W w R D base e e' v v' ss ws) (hg:w.grownBy w1 v.ownBlock):w1.cell? ⟨D,0,none⟩=some v/\w1.frozen? ⟨D,0,none⟩=false:=by
 have lD:D<w.heap.size:=Nat.lt_of_lt_of_le h.hD' h.sz
 have nb:some D≠v.ownBlock:=fun he=>by have:=(h.own.lt D he.symm).1;have:=h.hD';omega
 exact ⟨(hg.cell_far ⟨D,0,none⟩ lD nb).trans h.d0,(hg.frozen_far ⟨D,0,none⟩ lD nb).trans h.fd0⟩
end
end Go.Proofs.YtnmaknnnmjfhkagGreatDoor
namespace Go.Proofs.YtnmaknnnmjfhkagGreatDoor
open Go.RowKit
def chN (x:ByteArray×ByteArray×Bool):List Int:=if x.2.2 then [1]++([(x.1.size:Int)]++nums x.1) else [0]++([(x.1.size:Int)]++nums x.1)++([(x.2.1.size:Int)]++nums x.2.1)
def bForm (rs:List (ByteArray×ByteArray×Bool)):ByteArray:=strOfNums (rs.flatMap chN)
theorem bForm_nil:bForm []=ByteArray.empty:=rfl
theorem chN_set (k v:ByteArray):strOfNums [0]++(strOfNums [(k.size:Int)]++k)++(strOfNums [(v.size:Int)]++v)=strOfNums (chN (k,v,false)):=by
 show _=strOfNums ([0]++([(k.size:Int)]++nums k)++([(v.size:Int)]++nums v))
 rw [strOfNums_append,strOfNums_append,strOfNums_append,strOfNums_append,strOfNums_nums,strOfNums_nums]
theorem chN_rem (k v:ByteArray):strOfNums [1]++(strOfNums [(k.size:Int)]++k)=strOfNums (chN (k,v,true)):=by
 show _=strOfNums ([1]++([(k.size:Int)]++nums k))
 rw [strOfNums_append,strOfNums_append,strOfNums_nums]
theorem bForm_succ (rs:List (ByteArray×ByteArray×Bool)) (k:Nat) (x:ByteArray×ByteArray×Bool) (d:ByteArray×ByteArray×Bool) (h:k<rs.length) (hx:x=rs.getD k d):bForm (rs.take (k+1))=bForm (rs.take k)++strOfNums (chN x):=by
 unfold bForm
 rw [List.take_succ_eq_append_getElem h,List.flatMap_append,strOfNums_append]
 simp [List.getD,h] at hx
 rw [hx]
 simp
theorem chN_size (x:ByteArray×ByteArray×Bool) (h:chOk x=true):(strOfNums (chN x)).size<=123:=by
 rw [strOfNums_size]
 unfold chOk kOk vOk at h
 simp only [Bool.and_eq_true,decide_eq_true_eq] at h
 unfold chN
 split
 ·simp [nums_length];omega
 ·simp [nums_length];omega
theorem bForm_size (rs:List (ByteArray×ByteArray×Bool)) (h:∀ x∈rs,chOk x=true):(bForm rs).size<=123*rs.length:=by
 induction rs with
 | nil=>simp [bForm_nil]
 | cons x r ih =>
  have h1:=ih (fun y hy=>h y (List.mem_cons_of_mem _ hy))
  have h2:=chN_size x (h x (List.mem_cons_self))
  have e:bForm (x::r)=strOfNums (chN x)++bForm r:=by unfold bForm;rw [List.flatMap_cons,strOfNums_append]
  rw [e,ByteArray.size_append,List.length_cons]
  omega
def bOut (rs:List (ByteArray×ByteArray×Bool)):ByteArray:=if batchOk rs=true then bForm rs else ByteArray.empty
abbrev Ch:=ByteArray×ByteArray×Bool
def b0 (r:ByteArray):Nat:=(r.data.toList.getD 0 0).toNat
theorem b0_lt (r:ByteArray):b0 r<=255:=by unfold b0;have:=UInt8.toNat_lt (r.data.toList.getD 0 0);omega
theorem nums_extractR (r:ByteArray) (a b:Nat):nums (r.extract a b)=((nums r).drop a).take (b-a):=by
 unfold nums
 rw [ByteArray.data_extract,Array.toList_extract,List.extract_eq_take_drop,List.map_take,List.map_drop]
theorem nums_head (r:ByteArray) (h:0<r.size):nums r=(b0 r:Int)::(nums r).drop 1:=by
 have hl:0<r.data.toList.length:=h
 unfold nums b0
 match r.data.toList,hl with
 | x::l,_=>simp
theorem nums_inj {r s:ByteArray} (h:nums r=nums s):r=s:=by rw [<-strOfNums_nums r,h,strOfNums_nums]
theorem nums_range (r:ByteArray):∀ y∈nums r,0<=y/\y<=255:=by
 intro y hy
 unfold nums at hy
 obtain ⟨c,_,rfl⟩:=List.mem_map.1 hy
 have:=UInt8.toNat_lt c
 omega
theorem nums_strOfNumsR:∀ (xs:List Int),(∀ y∈xs,0<=y/\y<=255)->nums (strOfNums xs)=xs
 | [],_=>rfl
 | x::l,h=>by
  have ih:=nums_strOfNumsR l (fun y hy=>h y (List.mem_cons_of_mem _ hy))
  have hx:=h x (List.mem_cons_self)
  simp only [nums,strOfNums] at ih ⊢
  simp only [List.map_cons,List.map_map,List.toList_toArray] at ih ⊢
  simp [List.map_eq_map_iff] at ih ⊢
  constructor
  ·omega
  ·exact ih
def pc (r:ByteArray):Option (ByteArray×ByteArray):=if 1<=r.size/\1+b0 r<=r.size then some (r.extract 1 (1+b0 r),r.extract (1+b0 r) r.size) else none
theorem pc_some {r k m:ByteArray} (h:pc r=some (k,m)):nums r=[(k.size:Int)]++nums k++nums m/\k.size<=255:=by
 unfold pc at h
 split at h
 ·rename_i hc
  simp only [Option.some.injEq,Prod.mk.injEq] at h
  obtain ⟨rfl,rfl⟩:=h
  have hk:(r.extract 1 (1+b0 r)).size=b0 r:=by simp only [ByteArray.size_extract];omega
  refine ⟨?_,by rw [hk];exact b0_lt r⟩
  rw [hk,nums_extractR,nums_extractR]
  have hn:=nums_head r (by omega)
  have e1:r.size-(1+b0 r)=(nums r).length-(1+b0 r):=by rw [nums_length]
  rw [e1,<-List.length_drop,List.take_length]
  have e2:1+b0 r-1=b0 r:=by omega
  rw [e2]
  have e3:(nums r).drop (1+b0 r)=((nums r).drop 1).drop (b0 r):=by rw [List.drop_drop]
  rw [e3,List.append_assoc,List.take_append_drop]
  exact hn
 ·cases h
def stp (r:ByteArray):Option (Ch×ByteArray) :=
 match pc (r.extract 1 r.size) with
 | none=>none
 | some (k,m)=>if b0 r=1 then some ((k,ByteArray.empty,true),m) else
  match pc m with
  | none=>none
  | some (v,m')=>some ((k,v,false),m')
theorem nums_tail (r:ByteArray):nums (r.extract 1 r.size)=(nums r).drop 1:=by
 rw [nums_extractR]
 have e1:r.size-1=((nums r).drop 1).length:=by rw [List.length_drop,nums_length]
 rw [e1,List.take_length]
theorem stp_some {r r1:ByteArray} {c:Ch} (hr:0<r.size) (h:stp r=some (c,r1)):c.1.size<=255/\c.2.1.size<=255/\∃ t,chN c++nums r1=(if b0 r=1 then 1 else 0)::t/\nums r=(b0 r:Int)::t:=by
 unfold stp at h
 split at h
 ·cases h
 ·rename_i k m hp
  obtain ⟨h1,h2⟩:=pc_some hp
  rw [nums_tail] at h1
  have hn:=nums_head r hr
  split at h
  ·rename_i hb
   simp only [Option.some.injEq,Prod.mk.injEq] at h
   obtain ⟨rfl,rfl⟩:=h
   refine ⟨h2,by simp,_,?_,hn⟩
   rw [h1,if_pos hb]
   simp [chN]
  ·rename_i hb
   split at h
   ·cases h
   ·rename_i v m' hq
    obtain ⟨h3,h4⟩:=pc_some hq
    simp only [Option.some.injEq,Prod.mk.injEq] at h
    obtain ⟨rfl,rfl⟩:=h
    refine ⟨h2,h4,_,?_,hn⟩
    rw [h1,h3,if_neg hb]
    simp [chN]
def run:Nat->ByteArray->List Ch->Option (List Ch×ByteArray)
 | 0,r,o=>some (o,r)
 | n+1,r,o=>if r.size=0 then some (o,r) else
  match stp r with
  | none=>none
  | some (c,r')=>run n r' (o++[c])
def runI:Nat->ByteArray->List Ch->Option (List Ch×ByteArray)
 | 0,r,o=>some (o,r)
 | n+1,r,o=>if r.size=0 then some (o,r) else if 1<b0 r then none else
  match stp r with
  | none=>none
  | some (c,r')=>runI n r' (o++[c])
theorem run_nil (n:Nat) (o:List Ch) (r:ByteArray) (h:r.size=0):run n r o=some (o,r):=by cases n<;>simp [run,h]
theorem run_facts:∀ (n:Nat) (r:ByteArray) (o o':List Ch) (r':ByteArray),run n r o=some (o',r') ->
  ∃ l,o'=o++l/\(∀ x∈l,x.1.size<=255/\x.2.1.size<=255)/\(r'.size=0\/l.length=n) /\
   ((runI n r o=some (o',r')/\l.flatMap chN++nums r'=nums r)\/(runI n r o=none/\∀ z,l.flatMap chN++z≠nums r))
 | 0,r,o,o',r',h=>by
  simp only [run,Option.some.injEq,Prod.mk.injEq] at h
  obtain ⟨rfl,rfl⟩:=h
  exact ⟨[],by simp,by simp,.inr rfl,.inl ⟨rfl,by simp⟩⟩
 | n+1,r,o,o',r',h=>by
  by_cases hz:r.size=0
  ·rw [run,if_pos hz] at h
   simp only [Option.some.injEq,Prod.mk.injEq] at h
   obtain ⟨rfl,rfl⟩:=h
   exact ⟨[],by simp,by simp,.inl hz,.inl ⟨by rw [runI,if_pos hz],by simp⟩⟩
  ·rw [run,if_neg hz] at h
   cases hs:stp r with
   | none=>rw [hs] at h;cases h
   | some p =>
    obtain ⟨c,r1⟩:=p
    rw [hs] at h
    obtain ⟨k1,k2,t,k3,k4⟩:=stp_some (by omega) hs
    obtain ⟨l,e1,e2,e3,e4⟩:=run_facts n r1 (o++[c]) o' r' h
    refine ⟨c::l,by rw [e1];simp,fun x hx=>?_,?_,?_⟩
    ·rcases List.mem_cons.1 hx with rfl | hx
     ·exact ⟨k1,k2⟩
     ·exact e2 x hx
    ·rcases e3 with e3 | e3
     ·exact .inl e3
     ·exact .inr (by simp [e3])
    ·by_cases hb:1<b0 r
     ·refine .inr ⟨by rw [runI,if_neg hz,if_pos hb],fun z hzz=>?_⟩
      have hb1:¬ b0 r=1:=by omega
      rw [if_neg hb1] at k3
      have hc:∃ u,chN c=0::u:=by
       have:c.2.2=false:=by
        unfold stp at hs
        split at hs
        ·cases hs
        ·rw [if_neg hb1] at hs
         split at hs
         ·cases hs
         ·simp only [Option.some.injEq,Prod.mk.injEq] at hs
          rw [<-hs.1]
       exact ⟨_,by unfold chN;rw [this];rfl⟩
      obtain ⟨u,hu⟩:=hc
      rw [List.flatMap_cons,hu,k4] at hzz
      simp at hzz
      omega
     ·have hr:nums r=chN c++nums r1:=by
       rw [k3,k4]
       split
       ·rename_i h1;rw [h1];rfl
       ·have:b0 r=0:=by omega
        rw [this];rfl
      have hri:runI (n+1) r o=runI n r1 (o++[c]):=by rw [runI,if_neg hz,if_neg hb,hs]
      rcases e4 with ⟨e4,e5⟩ | ⟨e4,e5⟩
      ·refine .inl ⟨hri.trans e4,?_⟩
       rw [List.flatMap_cons,List.append_assoc,e5,hr]
      ·refine .inr ⟨hri.trans e4,fun z hzz=>e5 z ?_⟩
       rw [List.flatMap_cons,List.append_assoc,hr] at hzz
       exact List.append_cancel_left hzz
theorem runI_none:∀ (n:Nat) (r:ByteArray) (o:List Ch),run n r o=none->runI n r o=none
 | 0,r,o,h=>by simp [run] at h
 | n+1,r,o,h=>by
  by_cases hz:r.size=0
  ·rw [run,if_pos hz] at h;cases h
  ·rw [run,if_neg hz] at h
   rw [runI,if_neg hz]
   split
   ·rfl
   ·cases hs:stp r with
    | none=>rfl
    | some p =>
     obtain ⟨c,r1⟩:=p
     rw [hs] at h
     exact runI_none n r1 _ h
theorem chN_range (x:Ch) (h1:x.1.size<=255) (h2:x.2.1.size<=255):∀ y∈chN x,0<=y/\y<=255:=by
 intro y hy
 unfold chN at hy
 split at hy
 ·simp only [List.mem_append,List.mem_cons,List.not_mem_nil,or_false] at hy
  rcases hy with rfl | rfl | hy
  ·omega
  ·omega
  ·exact nums_range _ y hy
 ·simp only [List.mem_append,List.mem_cons,List.not_mem_nil,or_false] at hy
  rcases hy with (rfl | rfl | hy) | rfl | hy
  ·omega
  ·omega
  ·exact nums_range _ y hy
  ·omega
  ·exact nums_range _ y hy
def resS (s:ByteArray):Option (List Ch):=match run 21 s [] with | none=>none | some (o,_)=>if s.size≠0/\bOut o=s then some o else none
def resI (s:ByteArray):Option (List Ch):=match runI 21 s [] with | none=>none | some (o,_)=>if batchOk o=true then some o else none
theorem res_eq (s:ByteArray):resI s=resS s:=by
 unfold resI resS
 cases hr:run 21 s [] with
 | none=>rw [runI_none _ _ _ hr]
 | some p =>
  obtain ⟨o,r⟩:=p
  obtain ⟨l,e1,e2,e3,e4⟩:=run_facts 21 s [] o r hr
  rw [List.nil_append] at e1
  subst e1
  have hrg:∀ y∈o.flatMap chN,0<=y/\y<=255:=by
   intro y hy
   obtain ⟨x,hx,hy⟩:=List.mem_flatMap.1 hy
   exact chN_range x (e2 x hx).1 (e2 x hx).2 y hy
  have hbf:bForm o=s->o.flatMap chN=nums s:=fun h=>by rw [<-h];exact (nums_strOfNumsR _ hrg).symm
  rcases e4 with ⟨e4,e5⟩ | ⟨e4,e5⟩
  ·rw [e4]
   simp only
   by_cases hok:batchOk o=true
   ·have hr0:r.size=0:=by
     rcases e3 with e3 | e3
     ·exact e3
     ·have:=(batchOk_of hok).1;omega
    have hnr:nums r=[]:=List.eq_nil_of_length_eq_zero (by rw [nums_length];exact hr0)
    rw [hnr,List.append_nil] at e5
    have hs:bOut o=s:=by
     unfold bOut
     rw [if_pos hok]
     apply nums_inj
     rw [<-e5]
     exact nums_strOfNumsR _ hrg
    have hs0:s.size≠0:=by
     intro h0
     have hns:nums s=[]:=List.eq_nil_of_length_eq_zero (by rw [nums_length];exact h0)
     rw [hns] at e5
     match o,(batchOk_of hok).1 with
     | x::o',_ =>
      simp only [List.flatMap_cons,List.append_eq_nil_iff] at e5
      have:=e5.1
      unfold chN at this
      split at this<;>simp at this
    rw [if_pos hok,if_pos ⟨hs0,hs⟩]
   ·have hb:bOut o=ByteArray.empty:=by unfold bOut;rw [if_neg hok]
    rw [if_neg hok,if_neg]
    rintro ⟨h1,h2⟩
    rw [hb] at h2
    rw [<-h2] at h1
    exact h1 rfl
  ·rw [e4]
   simp only
   rw [if_neg]
   rintro ⟨h1,h2⟩
   unfold bOut at h2
   split at h2
   ·have:=hbf h2
    exact e5 [] (by rw [List.append_nil];exact this)
   ·rw [<-h2] at h1
    exact h1 rfl
abbrev Pr:=ByteArray×ByteArray
abbrev nov:Value:=.slice none 0 0
def chOf (p:Pr):Ch:=(p.1,p.2,false)
def chunkAt (rs:List Pr) (k:Nat):List Ch:=((rs.drop (k*20)).take 20).map chOf
def snapU (rs:List Pr) (i:Nat):List (List Ch):=(List.range ((i+19) / 20)).map (chunkAt (rs.take i))
def snapOf (rs:List Pr):List (List Ch):=if stateOk rs=true then snapU rs rs.length else []
theorem snapU_length (rs:List Pr) (i:Nat):(snapU rs i).length=(i+19) / 20:=by simp [snapU]
theorem chunk_old (rs:List Pr) (i k:Nat) (hi:i<rs.length) (hk:k*20+20<=i):chunkAt (rs.take (i+1)) k=chunkAt (rs.take i) k:=by
 unfold chunkAt
 congr 1
 rw [List.drop_take,List.drop_take,List.take_take,List.take_take]
 congr 1
 omega
theorem chunk_new (rs:List Pr) (i k:Nat) (hi:i<rs.length) (h1:k*20<=i) (h2:i<k*20+20) (d:Pr):chunkAt (rs.take (i+1)) k=chunkAt (rs.take i) k++[chOf (rs.getD i d)]:=by
 unfold chunkAt
 rw [List.drop_take,List.drop_take,List.take_take,List.take_take,Nat.min_eq_right (by omega),Nat.min_eq_right (by omega)]
 rw [show i+1-k*20=(i-k*20)+1 by omega,List.take_add_one,List.map_append]
 congr 1
 rw [List.getElem?_drop,show k*20+(i-k*20)=i by omega]
 simp [List.getD,hi]
theorem snapU_begin (rs:List Pr) (i:Nat) (hi:i<rs.length) (h:i % 20=0) (d:Pr):snapU rs (i+1)=snapU rs i++[[chOf (rs.getD i d)]]:=by
 unfold snapU
 rw [show (i+1+19) / 20=(i+19) / 20+1 by omega,List.range_succ,List.map_append]
 have e0:chunkAt (rs.take i) (i / 20)=[]:=by
  unfold chunkAt
  rw [List.drop_eq_nil_of_le (by rw [List.length_take];omega)]
  rfl
 congr 1
 ·exact List.map_congr_left fun k hk=>chunk_old rs i k hi (by simp at hk;omega)
 ·have e1:(i+19) / 20=i / 20:=by omega
  rw [e1,List.map_singleton,chunk_new rs i (i / 20) hi (by omega) (by omega) d,e0]
  rfl
theorem snapU_on (rs:List Pr) (i:Nat) (hi:i<rs.length) (h:i % 20≠0) (d:Pr):∃ bss cs,snapU rs i=bss++[cs]/\snapU rs (i+1)=bss++[cs++[chOf (rs.getD i d)]]/\cs.length<=20:=by
 refine ⟨(List.range (i / 20)).map (chunkAt (rs.take i)),chunkAt (rs.take i) (i / 20),?_,?_,?_⟩
 ·unfold snapU
  rw [show (i+19) / 20=i / 20+1 by omega,List.range_succ,List.map_append]
  rfl
 ·unfold snapU
  rw [show (i+1+19) / 20=i / 20+1 by omega,List.range_succ,List.map_append,List.map_singleton,chunk_new rs i (i / 20) hi (by omega) (by omega) d]
  congr 1
  exact List.map_congr_left fun k hk=>chunk_old rs i k hi (by simp at hk;omega)
 ·unfold chunkAt;simp;omega
theorem chunk_len (rs:List Pr) (k:Nat):(chunkAt rs k).length=min 20 (rs.length-k*20):=by unfold chunkAt;simp
theorem snapU_all (rs:List Pr):snapU rs rs.length=(List.range ((rs.length+19) / 20)).map (chunkAt rs):=by unfold snapU;rw [List.take_length]
theorem snap_mem {rs:List Pr} {b:List Ch} (h:b∈snapU rs rs.length):b.length<=20/\∀ x∈b,(x.1,x.2.1)∈rs:=by
 rw [snapU_all] at h
 obtain ⟨k,hk,rfl⟩:=List.mem_map.1 h
 refine ⟨by rw [chunk_len];omega,fun x hx=>?_⟩
 unfold chunkAt at hx
 obtain ⟨p,hp,rfl⟩:=List.mem_map.1 hx
 exact List.mem_of_mem_drop (List.mem_of_mem_take hp)
def Bat (w:World) (base:Nat) (v:Value) (bss:List (List Ch)):Prop :=
 ∃ vs:List Value,w.ownsRow base 54 1 v bss.length vs/\(∀ i,i<bss.length->w.ownsRow base 69 3 (vs.getD i nov) (bss.getD i []).length (chcells (bss.getD i []))) /\
  ∀ i j k,i<j->j<bss.length->(vs.getD i nov).ownBlock=some k->(vs.getD j nov).ownBlock≠some k
theorem Bat.nil (w:World) (base:Nat):Bat w base nov []:=⟨[],World.ownsRow_nil _ _ _ _,fun i h=>absurd h (by simp),fun i j k _ h=>absurd h (by simp)⟩
theorem Bat.below {w w':World} {base:Nat} {v:Value} {bss:List (List Ch)} (h:Bat w base v bss) (hb:Below w.heap.size w w'):Bat w' base v bss:=by
 obtain ⟨vs,h1,h2,h3⟩:=h
 exact ⟨vs,owns_below h1 hb,fun i hi=>owns_below (h2 i hi) hb,h3⟩
theorem rows_apart {w:World} {b1 b2:Nat} {e1 e2:TypeId} {s1 s2:Nat} {v1 v2:Value} {n1 n2:Nat} {x1 x2:List Value} (h1:w.ownsRow b1 e1 s1 v1 n1 x1) (h2:w.ownsRow b2 e2 s2 v2 n2 x2) (he:e1≠e2):v1.ownBlock=none\/v1.ownBlock≠v2.ownBlock:=by
 rcases h1.2 with ⟨rfl,_⟩ | ⟨g,cap,cur,rfl,_,hg,_⟩
 ·exact .inl rfl
 ·right
  rcases h2.2 with ⟨rfl,_⟩ | ⟨g',cap',cur',rfl,_,hg',_⟩
  ·simp [Value.ownBlock]
  ·simp only [Value.ownBlock,ne_eq,Option.some.injEq]
   intro e
   subst e
   rw [hg] at hg'
   cases hg'
   exact he rfl
theorem Bat.kept {w w':World} {base:Nat} {v:Value} {bss:List (List Ch)} {row:Option Nat} (h:Bat w base v bss) (hg:w.grownBy w' row) (hr:∀ k,row=some k->base > k\/w.heap.size<=k):Bat w' base v bss:=by
 obtain ⟨vs,h1,h2,h3⟩:=h
 have key:∀ {e:TypeId} {s:Nat} {u:Value} {n:Nat} {xs:List Value},w.ownsRow base e s u n xs->w'.ownsRow base e s u n xs:=fun hh=>by
  refine hh.kept hg ?_
  cases hu:(Value.ownBlock _) with
  | none=>exact .inl rfl
  | some k =>
   refine .inr fun e=>?_
   have:=hh.lt k hu
   rcases hr k e.symm with h | h<;>omega
 exact ⟨vs,key h1,fun i hi=>key (h2 i hi),h3⟩
theorem Bat.push {w w1:World} {base:Nat} {v v' x:Value} {bss:List (List Ch)} {cs:List Ch} {vs:List Value} (h1:w.ownsRow base 54 1 v bss.length vs) (h2:∀ i,i<bss.length->w.ownsRow base 69 3 (vs.getD i nov) (bss.getD i []).length (chcells (bss.getD i [])))
  (h3:∀ i j k,i<j->j<bss.length->(vs.getD i nov).ownBlock=some k->(vs.getD j nov).ownBlock≠some k) (hx:w.ownsRow base 69 3 x cs.length (chcells cs)) (hxn:∀ i k,i<bss.length->(vs.getD i nov).ownBlock=some k->x.ownBlock≠some k)
  (ho:w1.ownsRow base 54 1 v' (bss.length+1) (vs++[x])) (hg:w.grownBy w1 v.ownBlock):Bat w1 base v' (bss++[cs]):=by
 have hvl:vs.length=bss.length:=by have:=h1.1;omega
 have ne:(69:TypeId)≠54:=by decide
 refine ⟨vs++[x],by simpa using ho,fun i hi=>?_,fun i j k hij hj he=>?_⟩
 ·by_cases hlt:i<bss.length
  ·have e1:(vs++[x]).getD i nov=vs.getD i nov:=by simp [List.getD,List.getElem?_append_left (show i<vs.length by omega)]
   have e2:(bss++[cs]).getD i []=bss.getD i []:=by simp [List.getD,List.getElem?_append_left hlt]
   rw [e1,e2]
   exact (h2 i hlt).kept hg (rows_apart (h2 i hlt) h1 ne)
  ·have hi':i=bss.length:=by simp at hi;omega
   subst hi'
   have e1:(vs++[x]).getD bss.length nov=x:=by rw [<-hvl];simp [List.getD]
   have e2:(bss++[cs]).getD bss.length []=cs:=by simp [List.getD]
   rw [e1,e2]
   exact hx.kept hg (rows_apart hx h1 ne)
 ·simp only [List.length_append,List.length_cons,List.length_nil] at hj
  have e1:(vs++[x]).getD i nov=vs.getD i nov:=by simp [List.getD,List.getElem?_append_left (show i<vs.length by omega)]
  rw [e1] at he
  by_cases hlt:j<bss.length
  ·have e2:(vs++[x]).getD j nov=vs.getD j nov:=by simp [List.getD,List.getElem?_append_left (show j<vs.length by omega)]
   rw [e2]
   exact h3 i j k hij hlt he
  ·have hj':j=bss.length:=by omega
   subst hj'
   have e2:(vs++[x]).getD bss.length nov=x:=by rw [<-hvl];simp [List.getD]
   rw [e2]
   exact hxn i k hij he
def Bts (w:World) (a:Option Addr) (bss:List (List Ch)):Prop :=
 bss=[]\/∃ g,a=some ⟨g,0,none⟩/\g<w.heap.size/\∀ i,i<bss.length->∃ p c,w.cell? ⟨g,i,none⟩=some (.slice p (bss.getD i []).length c)/\Chs w p (bss.getD i [])
theorem Bts.below {w w':World} {a:Option Addr} {bss:List (List Ch)} (h:Bts w a bss) (hb:Below w.heap.size w w'):Bts w' a bss:=by
 rcases h with h | ⟨g,h1,h2,h3⟩
 ·exact .inl h
 ·refine .inr ⟨g,h1,Nat.lt_of_lt_of_le h2 hb.size,fun i hi=>?_⟩
  obtain ⟨p,c,h4,h5⟩:=h3 i hi
  exact ⟨p,c,(hb.cell (p:=⟨g,i,none⟩) h2).trans h4,h5.below hb⟩
theorem owns_chs' {w:World} {B:Nat} {e:TypeId} {y:Value} {o:List Ch} (h:w.ownsRow B e 3 y o.length (chcells o)):∃ a c,y=.slice a o.length c/\Chs w a o:=by
 rcases owns_forms h with ⟨h1,h2⟩ | ⟨g,cap,h1,h2,_,h3⟩
 ·have:o=[]:=List.eq_nil_of_length_eq_zero h2
  subst this
  exact ⟨none,0,h1,.inl rfl⟩
 ·exact ⟨_,cap,h1,h3.chs⟩
theorem Bat.bts {w:World} {base:Nat} {v:Value} {bss:List (List Ch)} (h:Bat w base v bss):∃ a c,v=.slice a bss.length c/\Bts w a bss:=by
 obtain ⟨vs,h1,h2,h3⟩:=h
 rcases owns_forms h1 with ⟨e1,e2⟩ | ⟨g,cap,e1,e2,e3,e4⟩
 ·have:bss=[]:=List.eq_nil_of_length_eq_zero e2
  subst this
  exact ⟨none,0,e1,.inl rfl⟩
 ·refine ⟨_,cap,e1,.inr ⟨g,rfl,e3,fun i hi=>?_⟩⟩
  obtain ⟨p,c,f1,f2⟩:=owns_chs' (h2 i hi)
  have hvl:vs.length=bss.length:=by have:=h1.1;omega
  refine ⟨p,c,e4.cell i _ ?_,f2⟩
  rw [<-f1]
  simp [List.getD,List.getElem?_eq_getElem (show i<vs.length by omega)]
theorem Bts.at {w:World} {a:Option Addr} {bss:List (List Ch)} (h:Bts w a bss) {k:Nat} (hk:k<bss.length):∃ g p c,a=some ⟨g,0,none⟩/\g<w.heap.size/\w.cell? ⟨g,k,none⟩=some (.slice p (bss.getD k []).length c)/\Chs w p (bss.getD k []):=by
 rcases h with h | ⟨g,h1,h2,h3⟩
 ·subst h;simp at hk
 ·obtain ⟨p,c,h4,h5⟩:=h3 k hk
  exact ⟨g,p,c,h1,h2,h4,h5⟩
theorem info_chS:(Tryz.prog.info? 69).map (fun i=>(i.zero,i.size,i.bytes))=some (some (.agg #[.string ByteArray.empty,.string ByteArray.empty,.bool false]),3,40):=by kernel_rfl
theorem info_slS:(Tryz.prog.info? 54).map (fun i=>(i.zero,i.size,i.bytes))=some (some (.slice none 0 0),1,24):=by kernel_rfl
theorem info_partsS {P:Program} {e:TypeId} {z:Value} {size bytes:Nat} (h:(P.info? e).map (fun i=>(i.zero,i.size,i.bytes))=some (some z,size,bytes)):∃ i,P.info? e=some i/\i.zero=some z/\i.size=size/\i.bytes=bytes:=by
 obtain ⟨i,hi,hh⟩:=Option.map_eq_some_iff.1 h
 simp only [Prod.mk.injEq] at hh
 exact ⟨i,hi,hh⟩
theorem below_grownS {W w w1:World} {e:TypeId} {size:Nat} {v:Value} {n B:Nat} {xs:List Value} (hb:Below B W w) (own:w.ownsRow B e size v n xs) (hg:w.grownBy w1 v.ownBlock) (hB:B<=w.heap.size):Below B W w1 :=
 hb.trans ⟨hg.os,hg.tape,hg.output,hg.size,fun k hk=>hg.block k (by omega) (fun he=>by have:=(own.lt k he.symm).1;omega)⟩
theorem owns_mono {w:World} {b b':Nat} {e:TypeId} {s:Nat} {v:Value} {n:Nat} {xs:List Value} (h:w.ownsRow b e s v n xs) (hb:b'<=b):w.ownsRow b' e s v n xs:=by
 refine ⟨h.1,?_⟩
 rcases h.2 with h0 | ⟨g,cap,cur,h1,h2,h3⟩
 ·exact .inl h0
 ·exact .inr ⟨g,cap,cur,h1,Nat.le_trans hb h2,h3⟩
theorem Bat.mono {w:World} {b b':Nat} {v:Value} {bss:List (List Ch)} (h:Bat w b v bss) (hb:b'<=b):Bat w b' v bss:=by
 obtain ⟨vs,h1,h2,h3⟩:=h
 exact ⟨vs,owns_mono h1 hb,fun i hi=>owns_mono (h2 i hi) hb,h3⟩
structure Rest (w:World) (base:Nat) (bss:List (List Ch)) (vs:List Value) (x:Value):Prop where
 len:vs.length=bss.length
 own:∀ i,i<bss.length->w.ownsRow base 69 3 (vs.getD i nov) (bss.getD i []).length (chcells (bss.getD i []))
 apart:∀ i j k,i<j->j<bss.length->(vs.getD i nov).ownBlock=some k->(vs.getD j nov).ownBlock≠some k
 last:∀ i k,i<bss.length->(vs.getD i nov).ownBlock=some k->x.ownBlock≠some k
theorem Bat.last {w:World} {base:Nat} {v:Value} {bss:List (List Ch)} {cs:List Ch} (h:Bat w base v (bss++[cs])):∃ g cap vs p c,v=.slice (some ⟨g,0,none⟩) (bss.length+1) cap/\w.ownsRow base 54 1 v (bss.length+1) (vs++[.slice p cs.length c])/\w.ownsRow base 69 3 (.slice p cs.length c) cs.length (chcells cs)/\Rest w base bss vs (.slice p cs.length c):=by
 obtain ⟨vs,h1,h2,h3⟩:=h
 have hvl:vs.length=bss.length+1:=by have:=h1.1;simp at this;omega
 obtain ⟨us,x,rfl⟩:∃ us x,vs=us++[x]:=⟨vs.dropLast,vs.getLast (by intro e;subst e;simp at hvl),(List.dropLast_concat_getLast _).symm⟩
 have hul:us.length=bss.length:=by simp at hvl;exact hvl
 have hx:=h2 bss.length (by simp)
 have e1:(us++[x]).getD bss.length nov=x:=by rw [<-hul];simp [List.getD]
 have e2:(bss++[cs]).getD bss.length []=cs:=by simp [List.getD]
 rw [e1,e2] at hx
 have f1:∀ i,i<bss.length->(us++[x]).getD i nov=us.getD i nov:=fun i hi=>by simp [List.getD,List.getElem?_append_left (show i<us.length by omega)]
 have f2:∀ i,i<bss.length->(bss++[cs]).getD i []=bss.getD i []:=fun i hi=>by simp [List.getD,List.getElem?_append_left hi]
 obtain ⟨p,c,rfl,_⟩:=owns_chs' hx
 simp only [List.length_append,List.length_cons,List.length_nil] at h1
 obtain ⟨g,cap,hv⟩:∃ g cap,v=.slice (some ⟨g,0,none⟩) (bss.length+1) cap:=by
  rcases owns_forms h1 with ⟨_,h0⟩ | ⟨g,cap,h0,_⟩
  ·omega
  ·exact ⟨g,cap,h0⟩
 refine ⟨g,cap,us,p,c,hv,h1,hx,hul,fun i hi=>?_,fun i j k hij hj he=>?_,fun i k hi he=>?_⟩
 ·have:=h2 i (by simp;omega)
  rwa [f1 i hi,f2 i hi] at this
 ·have:=h3 i j k hij (by simp;omega)
  rw [f1 i (by omega),f1 j hj] at this
  exact this he
 ·have:=h3 i bss.length k hi (by simp)
  rw [f1 i hi,e1] at this
  exact this he
theorem Rest.relast {w w1:World} {base g cap:Nat} {bss:List (List Ch)} {cs:List Ch} {vs:List Value} {x x':Value} {n0:Nat} {cs0:List Ch} (hr:Rest w base bss vs x) (hb:base<=w.heap.size)
  (ho:w.ownsRow base 54 1 (.slice (some ⟨g,0,none⟩) (bss.length+1) cap) (bss.length+1) (vs++[x])) (hx:w.ownsRow base 69 3 x n0 (chcells cs0))
  (hg:w.grownBy w1 x.ownBlock) (hx':w1.ownsRow base 69 3 x' cs.length (chcells cs)) (hn:x.ownBlock=x'.ownBlock\/x'.ownBlock=some w.heap.size) :
  Bat (w1.setCell ⟨g,bss.length,none⟩ x') base (.slice (some ⟨g,0,none⟩) (bss.length+1) cap) (bss++[cs]):=by
 have ne:(69:TypeId)≠54:=by decide
 have hul:=hr.len
 have ho1:w1.ownsRow base 54 1 (.slice (some ⟨g,0,none⟩) (bss.length+1) cap) (bss.length+1) (vs++[x]):=ho.kept hg (by
  rcases rows_apart ho hx (Ne.symm ne) with h | h
  ·exact .inl h
  ·exact .inr h)
 have hgs:w1.grownBy (w1.setCell ⟨g,bss.length,none⟩ x') (some g):=⟨rfl,rfl,rfl,by simp [World.setCell],fun k _ hk=>Below.heap_setCell _ _ _ k (fun e=>hk (by rw [e]))⟩
 have ap:∀ {u:Value} {n:Nat} {xs:List Value},w1.ownsRow base 69 3 u n xs->(w1.setCell ⟨g,bss.length,none⟩ x').ownsRow base 69 3 u n xs:=fun h=>h.kept hgs (rows_apart h ho1 ne)
 have old:∀ i,i<bss.length->w1.ownsRow base 69 3 (vs.getD i nov) (bss.getD i []).length (chcells (bss.getD i [])):=fun i hi=>(hr.own i hi).kept hg (by
  cases hk:(vs.getD i nov).ownBlock with
  | none=>exact .inl rfl
  | some k=>exact .inr fun e=>hr.last i k hi hk e.symm)
 have f1:∀ i,i<bss.length->(vs++[x']).getD i nov=vs.getD i nov:=fun i hi=>by simp [List.getD,List.getElem?_append_left (show i<vs.length by omega)]
 have f2:∀ i,i<bss.length->(bss++[cs]).getD i []=bss.getD i []:=fun i hi=>by simp [List.getD,List.getElem?_append_left hi]
 have e1:(vs++[x']).getD bss.length nov=x':=by rw [<-hul];simp [List.getD]
 have e2:(bss++[cs]).getD bss.length []=cs:=by simp [List.getD]
 refine ⟨vs++[x'],?_,fun i hi=>?_,fun i j k hij hj he=>?_⟩
 ·refine ⟨by simp [hul],.inr ?_⟩
  rcases ho1.2 with ⟨h0,_⟩ | ⟨g',cap',cur,h1,h2,h3,h4,h5,h6,h7⟩
  ·cases h0
  ·cases h1
   refine ⟨g,cap,cur.set! bss.length x',by simp,h2,?_,by simpa using h4,h5,by simpa using h6,?_⟩
   ·have hlt:=(Array.getElem?_eq_some_iff.1 h3).1
    have hk:=(Array.getElem?_eq_some_iff.1 h3).2
    show (w1.heap.modify g _)[g]?=_
    rw [Array.getElem?_eq_getElem (by rw [Array.size_modify];exact hlt),Array.getElem_modify_self,hk]
    rfl
   ·have hz:cur.toList.length=cur.size:=by simp
    have hl:bss.length<cur.toList.length:=by omega
    simp only [Nat.mul_one,List.length_append,List.length_cons,List.length_nil] at h7 ⊢
    have:(cur.set! bss.length x').toList=cur.toList.set bss.length x':=by simp
    rw [this,Nat.zero_add,List.take_set,h7,List.set_append_right _ _ (by omega),hul]
    simp
 ·by_cases hlt:i<bss.length
  ·rw [f1 i hlt,f2 i hlt];exact ap (old i hlt)
  ·have:i=bss.length:=by simp at hi;omega
   subst this
   rw [e1,e2];exact ap hx'
 ·simp only [List.length_append,List.length_cons,List.length_nil] at hj
  rw [f1 i (by omega)] at he
  by_cases hlt:j<bss.length
  ·rw [f1 j hlt];exact hr.apart i j k hij hlt he
  ·have:j=bss.length:=by omega
   subst this
   rw [e1]
   rcases hn with h | h
   ·rw [<-h];exact hr.last i k hij he
   ·rw [h]
    intro e
    have:=(hr.own i hij).lt k he
    simp at e
    omega
end Go.Proofs.YtnmaknnnmjfhkagGreatDoor
