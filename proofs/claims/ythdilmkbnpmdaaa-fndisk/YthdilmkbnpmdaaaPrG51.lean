import Derived.Test.YthdilmkbnpmdaaaPrG50
set_option maxHeartbeats 16000000
set_option maxRecDepth 8000
set_option linter.unusedVariables false
set_option linter.unusedSimpArgs false
namespace Go.Proofs.Ythdilmkbnpmdaaa
open Go.RowKit
theorem ret_boolb {a b:Bool} (h:a=b):Ending.returned (.bool a)=.returned (.bool b):=by rw [h]
def kOk (k:ByteArray):Bool:=decide (1<=k.size/\k.size<=20)
def vOk (k:ByteArray):Bool:=decide (k.size<=100)
def chOk (x:ByteArray×ByteArray×Bool):Bool:=kOk x.1 && vOk x.2.1 && !(x.2.2 && decide (x.2.1.size≠0))
def batchOk (rs:List (ByteArray×ByteArray×Bool)):Bool:=decide (1<=rs.length/\rs.length<=20) && rs.all chOk
theorem batchOk_no1 {rs:List (ByteArray×ByteArray×Bool)} (h:¬ (1<=rs.length/\rs.length<=20)):batchOk rs=false:=by simp [batchOk,h]
theorem batchOk_no2 {rs:List (ByteArray×ByteArray×Bool)} {x:ByteArray×ByteArray×Bool} (hm:x∈rs) (h:chOk x=false):batchOk rs=false:=by
 have:rs.all chOk=false:=List.all_eq_false.2 ⟨x,hm,by simp [h]⟩
 simp [batchOk,this]
theorem batchOk_yes {rs:List (ByteArray×ByteArray×Bool)} (h:1<=rs.length/\rs.length<=20) (h1:∀ x∈rs,chOk x=true):batchOk rs=true:=by
 simp only [batchOk,Bool.and_eq_true,decide_eq_true_eq,List.all_eq_true]
 exact ⟨h,h1⟩
theorem batchOk_of {rs:List (ByteArray×ByteArray×Bool)} (h:batchOk rs=true):(1<=rs.length/\rs.length<=20)/\∀ x∈rs,chOk x=true:=by
 simp only [batchOk,Bool.and_eq_true,decide_eq_true_eq,List.all_eq_true] at h
 exact h
theorem key_s (s:ByteArray) (w:World) (hs:s.size<=1048576):Calls Try.prog 69 #[.string s] w fun e w'=>e=.returned (.bool (kOk s))/\w'=w:=by
 unfold kOk
 by_cases h1:1<=s.size
 ·by_cases h2:s.size<=20
  ·go_enter Try.func69,Try.ntmps69
   go_wp2
   go_ret
   exact ⟨ret_boolb (by simp [h1,h2]<;>omega),rfl⟩
  ·go_enter Try.func69,Try.ntmps69
   go_wp2
   go_ret
   exact ⟨ret_boolb (by simp [h2]<;>omega),rfl⟩
 ·go_enter Try.func69,Try.ntmps69
  go_wp2
  go_ret
  exact ⟨ret_boolb (by simp<;>omega),rfl⟩
theorem chOk_no1 {k v:ByteArray} {g:Bool} (h:kOk k=false):chOk (k,v,g)=false:=by simp [chOk,h]
theorem chOk_no2 {k v:ByteArray} {g:Bool} (h:vOk v=false):chOk (k,v,g)=false:=by simp [chOk,h]
theorem chOk_no3 {k v:ByteArray} (h:v.toList.isEmpty=false):chOk (k,v,true)=false:=by
 rw [isEmpty_size] at h
 have:v.size≠0:=by simpa using h
 simp [chOk,this]
theorem chOk_yes1 {k v:ByteArray} (h:kOk k=true) (h2:vOk v=true):chOk (k,v,false)=true:=by simp [chOk,h,h2]
theorem chOk_yes2 {k v:ByteArray} (h:kOk k=true) (h2:vOk v=true) (h3:v.toList.isEmpty=true):chOk (k,v,true)=true:=by
 rw [isEmpty_size] at h3
 have:v.size=0:=by simpa using h3
 simp [chOk,h,h2,this]
theorem all_succ {α:Type} {rs:List α} {k:Nat} {x d:α} {f:α->Bool} (hlt:k<rs.length) (HA:∀ y∈rs.take k,f y=true) (HS:x=rs.getD k d) (hx:f x=true):∀ y∈rs.take (k+1),f y=true:=by
 intro y hy
 rw [List.take_succ_eq_append_getElem hlt] at hy
 rcases List.mem_append.1 hy with hy | hy
 ·exact HA y hy
 ·simp at hy
  simp [List.getD,hlt] at HS
  rw [hy,<-HS];exact hx
theorem vbatch_s (a:Option Addr) (rs:List (ByteArray×ByteArray×Bool)) (c:Nat) (w:World) (h:Chs w a rs) (hl:rs.length<=1048576) (hs:∀ x∈rs,x.1.size<=1048576/\x.2.1.size<=1048576) :
  Calls Try.prog 52 #[.slice a rs.length c] w fun e w'=>e=.returned (.bool (batchOk rs))/\Below w.heap.size w w':=by
 obtain ⟨R,HR⟩:∃ R,Hid (R=batchOk rs):=⟨_,hid rfl⟩
 rw [<-HR.out]
 by_cases hn:1<=(rs.length:Int)
 ·by_cases hp:(rs.length:Int)<=20
  ·go_enter Try.func52,Try.ntmps52
   go_wp2
   go_loopw [3] (fun i wr=>∃ k:Nat,k<=rs.length/\i=.int .i64 k/\Hid (∀ x∈rs.take k,chOk x=true)/\Below w.heap.size w wr) (fun i _=>rs.length-(intOf i).toNat)
   case atStart=>exact ⟨0,Nat.zero_le _,rfl,by show ∀ s∈rs.take 0,_;simp,Below.refl _ _⟩
   case round =>
    obtain ⟨k,hk,rfl,HA,hbel⟩:=hrel
    by_cases hlt:k<rs.length
    ·obtain ⟨b,o,s0,s1,g2,rfl,hc0,hc1,hc2,HS⟩:=(h.below hbel).at hlt
     have hm:Hid ((s0,s1,g2)∈rs):=by show _∈_;rw [HS.out];simp [List.getD,hlt]
     obtain ⟨hz0,hz1⟩:=hs _ hm.out
     have hlt':(k:Int)<(rs.length:Int):=by omega
     have hk0:(0:Int)<=(k:Int):=by omega
     cases hk1:kOk s0 with
     | false =>
      go_wp2_with (go_at_call 69;refine (key_s _ _ hz0).mono ?_;rw [hk1];rintro e w2 ⟨rfl,rfl⟩)
      go_ret
      exact ⟨ret_boolb (by rw [HR.out];exact (batchOk_no2 hm.out (chOk_no1 hk1)).symm),hbel⟩
     | true =>
      cases hv1:vOk s1 with
      | false =>
       have hv3:(100:Int)<(s1.size:Int):=by simp [vOk] at hv1;omega
       go_wp2_with (go_at_call 69;refine (key_s _ _ hz0).mono ?_;rw [hk1];rintro e w2 ⟨rfl,rfl⟩)
       go_ret
       exact ⟨ret_boolb (by rw [HR.out];exact (batchOk_no2 hm.out (chOk_no2 hv1)).symm),hbel⟩
      | true =>
       have hv3:(s1.size:Int)<=100:=by simp [vOk] at hv1;omega
       cases g2 with
       | false =>
        go_wp2_with (go_at_call 69;refine (key_s _ _ hz0).mono ?_;rw [hk1];rintro e w2 ⟨rfl,rfl⟩)
        go_roundw
        case rel=>exact ⟨k+1,by omega,by go_num,all_succ hlt HA.out HS.out (chOk_yes1 hk1 hv1),hbel⟩
        case measure=>simp [intOf];omega
       | true =>
        cases he:s1.toList.isEmpty with
        | false =>
         go_wp2_with (go_at_call 69;refine (key_s _ _ hz0).mono ?_;rw [hk1];rintro e w2 ⟨rfl,rfl⟩)
         go_ret
         exact ⟨ret_boolb (by rw [HR.out];exact (batchOk_no2 hm.out (chOk_no3 he)).symm),hbel⟩
        | true =>
         go_wp2_with (go_at_call 69;refine (key_s _ _ hz0).mono ?_;rw [hk1];rintro e w2 ⟨rfl,rfl⟩)
         go_roundw
         case rel=>exact ⟨k+1,by omega,by go_num,all_succ hlt HA.out HS.out (chOk_yes2 hk1 hv1 he),hbel⟩
         case measure=>simp [intOf];omega
    ·have hall:Hid (∀ s∈rs,chOk s=true):=by have:=HA.out;rwa [List.take_of_length_le (by omega)] at this
     clear HA
     go_wp2
     go_ret
     exact ⟨ret_boolb (by rw [HR.out];exact (batchOk_yes (by omega) hall.out).symm),hbel⟩
  ·go_enter Try.func52,Try.ntmps52
   go_wp2
   go_ret
   exact ⟨ret_boolb (by rw [HR.out];exact (batchOk_no1 (by omega)).symm),Below.refl _ _⟩
 ·go_enter Try.func52,Try.ntmps52
  go_wp2
  go_ret
  exact ⟨ret_boolb (by rw [HR.out];exact (batchOk_no1 (by omega)).symm),Below.refl _ _⟩
section
theorem key_s' (s:ByteArray) (b:Bool) (w:World) (hs:s.size<=1048576) (h:kOk s=b):Calls Try.prog 69 #[.string s] w fun e w'=>e=.returned (.bool b)/\w'=w:=by
 rw [<-h];exact key_s s w hs
def klt (a b:ByteArray):Bool:=Op.bytesLess a.toList b.toList
def prOk (rs:List (ByteArray×ByteArray)) (i:Nat):Bool:=kOk (rs.getD i (ByteArray.empty,ByteArray.empty)).1 && vOk (rs.getD i (ByteArray.empty,ByteArray.empty)).2 && (decide (i=0) || klt (rs.getD (i-1) (ByteArray.empty,ByteArray.empty)).1 (rs.getD i (ByteArray.empty,ByteArray.empty)).1)
def stateOk (rs:List (ByteArray×ByteArray)):Bool:=decide (rs.length<=100) && (List.range rs.length).all (prOk rs)
theorem stateOk_no1 {rs:List (ByteArray×ByteArray)} (h:¬ (rs.length<=100)):stateOk rs=false:=by simp [stateOk,h]
theorem stateOk_no2 {rs:List (ByteArray×ByteArray)} {k:Nat} (hk:k<rs.length) (h:prOk rs k=false):stateOk rs=false:=by
 have:(List.range rs.length).all (prOk rs)=false:=List.all_eq_false.2 ⟨k,List.mem_range.2 hk,by simp [h]⟩
 simp [stateOk,this]
theorem stateOk_yes {rs:List (ByteArray×ByteArray)} (h:rs.length<=100) (h1:∀ k,k<rs.length->prOk rs k=true):stateOk rs=true:=by
 simp only [stateOk,Bool.and_eq_true,decide_eq_true_eq,List.all_eq_true]
 exact ⟨h,fun k hk=>h1 k (List.mem_range.1 hk)⟩
theorem stateOk_of {rs:List (ByteArray×ByteArray)} (h:stateOk rs=true):rs.length<=100/\∀ k,k<rs.length->prOk rs k=true:=by
 simp only [stateOk,Bool.and_eq_true,decide_eq_true_eq,List.all_eq_true] at h
 exact ⟨h.1,fun k hk=>h.2 k (List.mem_range.2 hk)⟩
section
variable {rs:List (ByteArray×ByteArray)} {k j:Nat} {s0 s1 t0 t1:ByteArray}
theorem prOk_no1 (hS:(s0,s1)=rs.getD k (ByteArray.empty,ByteArray.empty)) (h:kOk s0=false):prOk rs k=false:=by unfold prOk;rw [<-hS];simp [h]
theorem prOk_no2 (hS:(s0,s1)=rs.getD k (ByteArray.empty,ByteArray.empty)) (h:vOk s1=false):prOk rs k=false:=by unfold prOk;rw [<-hS];simp [h]
theorem prOk_no3 (hS:(s0,s1)=rs.getD k (ByteArray.empty,ByteArray.empty)) (hT:(t0,t1)=rs.getD j (ByteArray.empty,ByteArray.empty)) (hj:k=j+1) (h:Op.bytesLess t0.toList s0.toList=false):prOk rs k=false:=by
 unfold prOk klt;rw [<-hS];subst hj;rw [Nat.add_sub_cancel,<-hT];simp [h]
theorem prOk_yes0 (hS:(s0,s1)=rs.getD k (ByteArray.empty,ByteArray.empty)) (hk:k=0) (h:kOk s0=true) (h2:vOk s1=true):prOk rs k=true:=by subst hk;unfold prOk;rw [<-hS];simp [h,h2]
theorem prOk_yes (hS:(s0,s1)=rs.getD k (ByteArray.empty,ByteArray.empty)) (hT:(t0,t1)=rs.getD j (ByteArray.empty,ByteArray.empty)) (hj:k=j+1) (h:kOk s0=true) (h2:vOk s1=true) (h3:Op.bytesLess t0.toList s0.toList=true):prOk rs k=true:=by
 unfold prOk klt;rw [<-hS];subst hj;rw [Nat.add_sub_cancel,<-hT];simp [h,h2,h3]
theorem upto_succ (HA:∀ i,i<k->prOk rs i=true) (h:prOk rs k=true):∀ i,i<k+1->prOk rs i=true:=by
 intro i hi
 rcases Nat.lt_or_ge i k with h1 | h1
 ·exact HA i h1
 ·have:i=k:=by omega
  subst this;exact h
end
theorem vstate_s (a:Option Addr) (rs:List (ByteArray×ByteArray)) (c:Nat) (w:World) (h:Prs w a rs) (hl:rs.length<=1048576) (hs:∀ x∈rs,x.1.size<=1048576/\x.2.size<=1048576) :
  Calls Try.prog 68 #[.agg #[.slice a rs.length c]] w fun e w'=>e=.returned (.bool (stateOk rs))/\Below w.heap.size w w':=by
 have hb0:∀ o,Below w.heap.size w (w.alloc o):=fun o=>(Below.refl _ _).alloc (Nat.le_refl _) _
 obtain ⟨R,HR⟩:∃ R,Hid (R=stateOk rs):=⟨_,hid rfl⟩
 rw [<-HR.out]
 by_cases hp:(rs.length:Int)<=100
 ·go_enter Try.func68,Try.ntmps68
  go_wp2
  go_loopw [3] (fun i wr=>∃ k:Nat,k<=rs.length/\i=.int .i64 k/\Hid (∀ i,i<k->prOk rs i=true)/\Below (w.heap.size+1) (w.alloc (.cells #[.slice a rs.length c] 77)) wr) (fun i _=>rs.length-(intOf i).toNat)
  case atStart=>exact ⟨0,Nat.zero_le _,rfl,fun i hi=>by omega,Below.refl _ _⟩
  case round =>
   obtain ⟨k,hk,rfl,HA,hbel⟩:=hrel
   have hbw:Below w.heap.size w wr:=(hb0 _).trans (hbel.mono (by omega))
   have q0:wr.cell? ⟨w.heap.size,0,none⟩=some (.slice a rs.length c):=(hbel.cell (p:=⟨w.heap.size,0,none⟩) (by show w.heap.size<_;omega)).trans (by go_simp)
   have hsz:w.heap.size+1<=wr.heap.size:=by have:=hbel.size;simpa using this
   by_cases hlt:k<rs.length
   ·obtain ⟨b,o,s0,s1,rfl,hc0,hc1,HS⟩:=(h.below hbw).at hlt
    have hm:Hid ((s0,s1)∈rs):=by show _∈_;rw [HS.out];simp [List.getD,hlt]
    obtain ⟨hz0,hz1⟩:=hs _ hm.out
    have hlt':(k:Int)<(rs.length:Int):=by omega
    rcases Nat.eq_zero_or_pos k with hk0 | hk0
    ·have hkz:decide ((0:Int)<(k:Int))=false:=by simp;omega
     have hkz2:decide (0<k)=false:=by simp;omega
     have hk00:(0:Int)<=(k:Int):=by omega
     have HK:=hid hk0
     clear hk0
     cases hk1:kOk s0 with
     | false =>
      go_wp2_with fail
      go_quiet ((go_at_call 69;exact Calls.quiet_of_same (key_s' _ _ _ hz0 hk1)))
      go_wp2
      go_ret
      exact ⟨ret_boolb (by rw [HR.out];exact (stateOk_no2 hlt (prOk_no1 HS.out hk1)).symm),(hb0 _).trans ((below_drewN hbel _).mono (by omega))⟩
     | true =>
      cases hv1:vOk s1 with
      | false =>
       have hv3:decide (100<(s1.size:Int))=true:=by simp [vOk] at hv1;simp;omega
       go_wp2_with fail
       go_quiet ((go_at_call 69;exact Calls.quiet_of_same (key_s' _ _ _ hz0 hk1)))
       go_wp2
       go_ret
       exact ⟨ret_boolb (by rw [HR.out];exact (stateOk_no2 hlt (prOk_no2 HS.out hv1)).symm),(hb0 _).trans ((below_drewN hbel _).mono (by omega))⟩
      | true =>
       have hv3:decide (100<(s1.size:Int))=false:=by simp [vOk] at hv1;simp;omega
       go_wp2_with fail
       go_quiet ((go_at_call 69;exact Calls.quiet_of_same (key_s' _ _ _ hz0 hk1)))
       go_wp2
       go_roundw
       case rel=>exact ⟨_,by omega,by go_num,upto_succ HA.out (prOk_yes0 HS.out HK.out hk1 hv1),below_drewN hbel _⟩
       case measure=>simp [intOf];omega
    ·obtain ⟨j,hj⟩:∃ j,k=j+1:=⟨k-1,by omega⟩
     have hkj:(k:Int)-1=(j:Int):=by omega
     have hj0:(0:Int)<=(j:Int):=by omega
     have hk00:(0:Int)<=(k:Int):=by omega
     have hk01:(0:Int)<(k:Int):=by omega
     have hwj:IntKind.i64.wrap (j:Int)=(j:Int):=by simp [IntKind.wrap,IntKind.bits,IntKind.signed];omega
     have hj1:(j:Int)<(rs.length:Int):=by omega
     obtain ⟨b',o',t0,t1,he,hd0,hd1,HT⟩:=(h.below hbw).at (show j<rs.length by omega)
     cases he
     have HJ:=hid hj
     clear hj
     have hba:∀ ob,Below wr.heap.size wr (wr.alloc ob):=fun ob=>(Below.refl _ _).alloc (Nat.le_refl _) _
     have lb:b<wr.heap.size:=by have:=World.block_lt_of_cell? wr _ hd0;simpa using this
     have qa:=((hba (.cells #[.string s0,.string s1] 145)).cell (p:=⟨w.heap.size,0,none⟩) (by show w.heap.size<_;omega)).trans q0
     have qb:=((hba (.cells #[.string s0,.string s1] 145)).cell (p:=⟨b,o+j*2,none⟩) lb).trans hd0
     clear hba lb
     cases hk1:kOk s0 with
     | false =>
      go_wp2_with fail
      go_quiet ((go_at_call 69;exact Calls.quiet_of_same (key_s' _ _ _ hz0 hk1)))
      go_wp2
      go_ret
      exact ⟨ret_boolb (by rw [HR.out];exact (stateOk_no2 hlt (prOk_no1 HS.out hk1)).symm),(hb0 _).trans ((below_drewN hbel _).mono (by omega))⟩
     | true =>
      cases hv1:vOk s1 with
      | false =>
       have hv3:decide (100<(s1.size:Int))=true:=by simp [vOk] at hv1;simp;omega
       go_wp2_with fail
       go_quiet ((go_at_call 69;exact Calls.quiet_of_same (key_s' _ _ _ hz0 hk1)))
       go_wp2
       go_ret
       exact ⟨ret_boolb (by rw [HR.out];exact (stateOk_no2 hlt (prOk_no2 HS.out hv1)).symm),(hb0 _).trans ((below_drewN hbel _).mono (by omega))⟩
      | true =>
       have hv3:decide (100<(s1.size:Int))=false:=by simp [vOk] at hv1;simp;omega
       cases hlt3:Op.bytesLess t0.toList s0.toList with
       | false =>
        have hlt4:(!Op.bytesLess t0.toList s0.toList)=true:=by simp [hlt3]
        go_wp2_with fail
        go_quiet ((go_at_call 69;exact Calls.quiet_of_same (key_s' _ _ _ hz0 hk1)))
        go_wp2
        go_ret
        exact ⟨ret_boolb (by rw [HR.out];exact (stateOk_no2 hlt (prOk_no3 HS.out HT.out HJ.out hlt3)).symm),(hb0 _).trans ((below_drewN hbel _).mono (by omega))⟩
       | true =>
        have hlt4:(!Op.bytesLess t0.toList s0.toList)=false:=by simp [hlt3]
        go_wp2_with fail
        go_quiet ((go_at_call 69;exact Calls.quiet_of_same (key_s' _ _ _ hz0 hk1)))
        go_wp2
        go_roundw
        case rel=>exact ⟨_,by omega,by go_num,upto_succ HA.out (prOk_yes HS.out HT.out HJ.out hk1 hv1 hlt3),below_drewN hbel _⟩
        case measure=>simp [intOf];omega
   ·have hall:Hid (∀ i,i<rs.length->prOk rs i=true):=fun i hi=>HA.out i (by omega)
    clear HA
    go_wp2
    go_ret
    exact ⟨ret_boolb (by rw [HR.out];exact (stateOk_yes (by omega) hall.out).symm),hbw⟩
 ·go_enter Try.func68,Try.ntmps68
  go_wp2
  go_ret
  exact ⟨ret_boolb (by rw [HR.out];exact (stateOk_no1 (by omega)).symm),hb0 _⟩
end
end Go.Proofs.Ythdilmkbnpmdaaa
