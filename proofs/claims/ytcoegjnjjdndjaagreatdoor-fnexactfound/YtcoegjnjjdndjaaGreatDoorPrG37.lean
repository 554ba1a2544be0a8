import Derived.Test.YtcoegjnjjdndjaaGreatDoorPrG36
import Derived.Laws.ResultCell
import Derived.Great.BuildSlice
import Derived.Test.YtcoegjnjjdndjaaGreatDoorPrG48
set_option maxHeartbeats 16000000
set_option maxRecDepth 8000
set_option linter.unusedVariables false
set_option linter.unusedSimpArgs false
namespace Go.Proofs.YtcoegjnjjdndjaaGreatDoor
open Go.RowKit
theorem ret_bool' {a b:Bool} (h:a=b):Ending.returned (.bool a)=.returned (.bool b):=by rw [h]
def wOk (n:Nat) (x:Int×ByteArray):Bool:=decide (0<=x.1/\x.1<(n:Int)/\(x.2.size:Int)=64)
def diskOk (ss:List ByteArray) (ws:List (Int×ByteArray)):Bool:=decide (8<=ss.length/\ss.length<=200/\ws.length<=300) && ss.all (fun s=>decide ((s.size:Int)=64)) && ws.all (wOk ss.length)
theorem diskOk_no1 {ss:List ByteArray} {ws:List (Int×ByteArray)} (h:¬ (8<=ss.length/\ss.length<=200/\ws.length<=300)):diskOk ss ws=false:=by simp [diskOk,h]
theorem diskOk_no2 {ss:List ByteArray} {ws:List (Int×ByteArray)} {s:ByteArray} (hm:s∈ss) (h:¬ (s.size:Int)=64):diskOk ss ws=false:=by
 have:ss.all (fun s=>decide ((s.size:Int)=64))=false:=List.all_eq_false.2 ⟨s,hm,by simpa using h⟩
 simp [diskOk,this]
theorem diskOk_no3 {ss:List ByteArray} {ws:List (Int×ByteArray)} {x:Int×ByteArray} (hm:x∈ws) (h:wOk ss.length x=false):diskOk ss ws=false:=by
 have:ws.all (wOk ss.length)=false:=List.all_eq_false.2 ⟨x,hm,by simp [h]⟩
 simp [diskOk,this]
theorem diskOk_yes {ss:List ByteArray} {ws:List (Int×ByteArray)} (h:8<=ss.length/\ss.length<=200/\ws.length<=300) (h1:∀ s∈ss,(s.size:Int)=64) (h2:∀ x∈ws,wOk ss.length x=true):diskOk ss ws=true:=by
 simp only [diskOk,Bool.and_eq_true,decide_eq_true_eq,List.all_eq_true]
 exact ⟨⟨h,h1⟩,h2⟩
theorem diskOk_of {ss:List ByteArray} {ws:List (Int×ByteArray)} (h:diskOk ss ws=true):(8<=ss.length/\ss.length<=200/\ws.length<=300)/\(∀ s∈ss,(s.size:Int)=64)/\∀ x∈ws,wOk ss.length x=true:=by
 simp only [diskOk,Bool.and_eq_true,decide_eq_true_eq,List.all_eq_true] at h
 exact ⟨h.1.1,h.1.2,h.2⟩
theorem wOk_in {n:Nat} {x:Int} {s:ByteArray} (h0:0<=x) (h1:x<(n:Int)):((s.size:Int) == 64)=wOk n (x,s):=by
 rw [Bool.eq_iff_iff];simp [wOk,h0,h1]
theorem can_i (n:Nat) (x:Int) (s:ByteArray) (w:World) (hs:s.size<=1048576) (hn:n<=1048576) :
  Calls Tryz.prog 98 #[.int .i64 (n:Int),.int .i64 x,.string s] w fun e w'=>e=.returned (.bool (wOk n (x,s)))/\w'=w:=by
 by_cases h0:0<=x
 ·by_cases h1:x<(n:Int)
  ·go_enter Tryz.func98,Tryz.ntmps98
   go_wp2
   go_ret
   exact ⟨ret_bool' (wOk_in h0 h1),rfl⟩
  ·go_enter Tryz.func98,Tryz.ntmps98
   go_wp2
   go_ret
   exact ⟨ret_bool' (by simp [wOk];omega),rfl⟩
 ·go_enter Tryz.func98,Tryz.ntmps98
  go_wp2
  go_ret
  exact ⟨ret_bool' (by simp [wOk];omega),rfl⟩
theorem can_s (a:Option Addr) (n c:Nat) (a':Option Addr) (n' c':Nat) (x:Int) (s:ByteArray) (w:World) (hs:s.size<=1048576) (hn:n<=1048576) :
  Calls Tryz.prog 78 #[diskV a n c a' n' c',.int .i64 x,.string s] w fun e w'=>e=.returned (.bool (wOk n (x,s)))/\Below w.heap.size w w':=by
 by_cases h0:0<=x
 ·by_cases h1:x<(n:Int)
  ·go_enter Tryz.func78,Tryz.ntmps78
   go_wp2
   go_ret
   exact ⟨ret_bool' (wOk_in h0 h1),(Below.refl _ _).alloc (Nat.le_refl _) _⟩
  ·go_enter Tryz.func78,Tryz.ntmps78
   go_wp2
   go_ret
   exact ⟨ret_bool' (by simp [wOk];omega),(Below.refl _ _).alloc (Nat.le_refl _) _⟩
 ·go_enter Tryz.func78,Tryz.ntmps78
  go_wp2
  go_ret
  exact ⟨ret_bool' (by simp [wOk];omega),(Below.refl _ _).alloc (Nat.le_refl _) _⟩
theorem dsize_i (n:Int) (w:World):Calls Tryz.prog 97 #[.int .i64 n] w fun e w'=>e=.returned (.bool (decide (8<=n/\n<=200)))/\w'=w:=by
 by_cases h1:8<=n
 ·by_cases h2:n<=200
  ·go_enter Tryz.func97,Tryz.ntmps97
   go_wp2
   go_ret
   exact ⟨ret_bool' (by simp [h1,h2]),rfl⟩
  ·go_enter Tryz.func97,Tryz.ntmps97
   go_wp2
   go_ret
   exact ⟨ret_bool' (by simp [h2]),rfl⟩
 ·go_enter Tryz.func97,Tryz.ntmps97
  go_wp2
  go_ret
  exact ⟨ret_bool' (by simp;omega),rfl⟩
set_option maxHeartbeats 16000000 in
theorem valid_i (a:Option Addr) (ss:List ByteArray) (c:Nat) (a':Option Addr) (ws:List (Int×ByteArray)) (c':Nat) (w:World) (h:Strs w a ss) (h':Wrs w a' ws) (hl:ss.length<=1048576) (hl':ws.length<=1048576) (hs:∀ s∈ss,s.size<=1048576) (hs':∀ x∈ws,x.2.size<=1048576) :
  Calls Tryz.prog 58 #[diskV a ss.length c a' ws.length c'] w fun e w'=>e=.returned (.bool (diskOk ss ws))/\Below w.heap.size w w':=by
 have hb0:∀ o1,Below w.heap.size w (w.alloc o1):=fun o1=>(Below.refl _ _).alloc (Nat.le_refl _) _
 obtain ⟨R,HR⟩:∃ R,Hid (R=diskOk ss ws):=⟨_,hid rfl⟩
 rw [<-HR.out]
 by_cases hn:8<=(ss.length:Int)/\(ss.length:Int)<=200
 ·have hd:decide (8<=(ss.length:Int)/\(ss.length:Int)<=200)=true:=decide_eq_true hn
  obtain ⟨hn1,hn2⟩:=hn
  by_cases hp:(ws.length:Int)<=300
  ·go_enter Tryz.func58,Tryz.ntmps58
   go_wp2_with (go_at_call 97;refine (dsize_i _ _).mono ?_;rw [hd];rintro e w' ⟨rfl,rfl⟩)
   go_loop [4,21] (fun _ i=>∃ k:Nat,k<=ss.length/\i=.int .i64 k/\Hid (∀ s∈ss.take k,(s.size:Int)=64)) (fun _ i=>ss.length-(intOf i).toNat)
   case atStart=>exact ⟨0,Nat.zero_le _,rfl,by show ∀ s∈ss.take 0,_;simp⟩
   case round =>
    obtain ⟨k,hk,rfl,HA⟩:=hrel
    by_cases hlt:k<ss.length
    ·obtain ⟨b,o,s,rfl,hc,HS⟩:=(h.below (hb0 (.cells #[.slice a ss.length c,.slice a' ws.length c'] 44))).at hlt
     have hm:Hid (s∈ss):=by show _∈_;rw [HS.out];simp [List.getD,hlt]
     by_cases h64:((s.size:Int) != 64)=true
     ·go_wp2
      go_ret
      exact ⟨ret_bool' (by rw [HR.out];exact (diskOk_no2 hm.out (by simpa using h64)).symm),hb0 _⟩
     ·have h64':((s.size:Int) != 64)=false:=by simpa using h64
      have hs64:Hid ((s.size:Int)=64):=by show _=_;simpa using h64
      clear h64
      go_wp2
      go_round
      case rel=>exact ⟨k+1,by omega,by go_num,fun x hx=>by
             rw [List.take_succ_eq_append_getElem hlt] at hx
             rcases List.mem_append.1 hx with hx | hx
             ·exact HA.out x hx
             ·simp at hx;have e:=HS.out;simp [List.getD,hlt] at e;rw [hx,<-e];exact hs64.out⟩
      case measure=>simp [intOf];omega
    ·go_wp2
     have hall:∀ s∈ss,(s.size:Int)=64:=by have:=HA.out;rwa [List.take_of_length_le (by omega)] at this
     have HALL:=hid hall
     clear hall HA
     go_loopw [6,32] (fun _ i wr=>∃ k:Nat,k<=ws.length/\i=.int .i64 k/\Hid (∀ x∈ws.take k,wOk ss.length x=true)/\Below (w.heap.size+1) (w.alloc (.cells #[.slice a ss.length c,.slice a' ws.length c'] 44)) wr) (fun _ i _=>ws.length-(intOf i).toNat)
     case atStart=>exact ⟨0,Nat.zero_le _,rfl,by show ∀ s∈ws.take 0,_;simp,Below.refl _ _⟩
     case round =>
      obtain ⟨k2,hk2,rfl,HA2,hbel⟩:=hrel
      have q0:wr.cell? ⟨w.heap.size,0,none⟩=some (.slice a ss.length c):=(hbel.cell (p:=⟨w.heap.size,0,none⟩) (by show w.heap.size<_;omega)).trans (by go_simp)
      have q1:wr.cell? ⟨w.heap.size,1,none⟩=some (.slice a' ws.length c'):=(hbel.cell (p:=⟨w.heap.size,1,none⟩) (by show w.heap.size<_;omega)).trans (by go_simp)
      have hbw:Below w.heap.size w wr:=(hb0 _).trans (hbel.mono (by omega))
      have HBL:=hid hbel
      have HBW:=hid hbw
      by_cases hlt2:k2<ws.length
      ·obtain ⟨b,o,n,s,rfl,hc,hc2,HS⟩:=(h'.below hbw).at hlt2
       have hm:Hid ((n,s)∈ws):=by show _∈_;rw [HS.out];simp [List.getD,hlt2]
       have hsz:s.size<=1048576:=hs' (n,s) hm.out
       have hwl:w.heap.size+1<=wr.heap.size:=by have:=hbel.size;simpa using this
       have hwl':w.heap.size<wr.heap.size:=by omega
       clear hbel hbw
       cases hok:wOk ss.length (n,s) with
       | false =>
        go_wp2_with (go_at_call 98;refine (can_i ss.length n s _ hsz (by omega)).mono ?_;rw [hok];rintro e w' ⟨rfl,rfl⟩)
        go_ret
        exact ⟨ret_bool' (by rw [HR.out];exact (diskOk_no3 hm.out hok).symm),HBW.out.alloc HBW.out.size _⟩
       | true =>
        go_wp2_with (go_at_call 98;refine (can_i ss.length n s _ hsz (by omega)).mono ?_;rw [hok];rintro e w' ⟨rfl,rfl⟩)
        go_roundw
        case rel=>exact ⟨k2+1,by omega,by go_num,fun x hx=>by
               rw [List.take_succ_eq_append_getElem hlt2] at hx
               rcases List.mem_append.1 hx with hx | hx
               ·exact HA2.out x hx
               ·simp at hx;have e:=HS.out;simp [List.getD,hlt2] at e;rw [hx,<-e];exact hok,HBL.out.alloc (by omega) _⟩
        case measure=>simp [intOf];omega
      ·clear hbel hbw
       go_wp2
       go_ret
       refine ⟨ret_bool' ?_,HBW.out⟩
       rw [HR.out]
       have h2:=HA2.out
       rw [List.take_of_length_le (by omega)] at h2
       exact (diskOk_yes (by omega) HALL.out h2).symm
  ·go_enter Tryz.func58,Tryz.ntmps58
   go_wp2_with (go_at_call 97;refine (dsize_i _ _).mono ?_;rw [hd];rintro e w' ⟨rfl,rfl⟩)
   go_ret
   exact ⟨ret_bool' (by rw [HR.out];exact (diskOk_no1 (by omega)).symm),hb0 _⟩
 ·have hd:decide (8<=(ss.length:Int)/\(ss.length:Int)<=200)=false:=decide_eq_false hn
  go_enter Tryz.func58,Tryz.ntmps58
  go_wp2_with (go_at_call 97;refine (dsize_i _ _).mono ?_;rw [hd];rintro e w' ⟨rfl,rfl⟩)
  go_ret
  exact ⟨ret_bool' (by rw [HR.out];exact (diskOk_no1 (by omega)).symm),hb0 _⟩
set_option maxHeartbeats 16000000 in
theorem valid_s (a:Option Addr) (ss:List ByteArray) (c:Nat) (a':Option Addr) (ws:List (Int×ByteArray)) (c':Nat) (w:World) (h:Strs w a ss) (h':Wrs w a' ws) (hl:ss.length<=1048576) (hl':ws.length<=1048576) (hs:∀ s∈ss,s.size<=1048576) (hs':∀ x∈ws,x.2.size<=1048576) :
  Calls Tryz.prog 40 #[diskV a ss.length c a' ws.length c'] w fun e w'=>e=.returned (.bool (diskOk ss ws))/\Below w.heap.size w w':=by
 have hb0:∀ o1,Below w.heap.size w (w.alloc o1):=fun o1=>(Below.refl _ _).alloc (Nat.le_refl _) _
 obtain ⟨R,HR⟩:∃ R,Hid (R=diskOk ss ws):=⟨_,hid rfl⟩
 rw [<-HR.out]
 by_cases hn1:8<=(ss.length:Int)
 ·by_cases hn2:(ss.length:Int)<=200
  ·by_cases hp:(ws.length:Int)<=300
   ·go_enter Tryz.func40,Tryz.ntmps40
    go_wp2
    go_loop [3] (fun i=>∃ k:Nat,k<=ss.length/\i=.int .i64 k/\Hid (∀ s∈ss.take k,(s.size:Int)=64)) (fun i=>ss.length-(intOf i).toNat)
    case atStart=>exact ⟨0,Nat.zero_le _,rfl,by show ∀ s∈ss.take 0,_;simp⟩
    case round =>
     obtain ⟨k,hk,rfl,HA⟩:=hrel
     by_cases hlt:k<ss.length
     ·obtain ⟨b,o,s,rfl,hc,HS⟩:=(h.below (hb0 (.cells #[.slice a ss.length c,.slice a' ws.length c'] 44))).at hlt
      have hm:Hid (s∈ss):=by show _∈_;rw [HS.out];simp [List.getD,hlt]
      by_cases h64:((s.size:Int) != 64)=true
      ·go_wp2
       go_ret
       exact ⟨ret_bool' (by rw [HR.out];exact (diskOk_no2 hm.out (by simpa using h64)).symm),hb0 _⟩
      ·have h64':((s.size:Int) != 64)=false:=by simpa using h64
       have hs64:Hid ((s.size:Int)=64):=by show _=_;simpa using h64
       clear h64
       go_wp2
       go_round
       case rel=>exact ⟨k+1,by omega,by go_num,fun x hx=>by
              rw [List.take_succ_eq_append_getElem hlt] at hx
              rcases List.mem_append.1 hx with hx | hx
              ·exact HA.out x hx
              ·simp at hx;have e:=HS.out;simp [List.getD,hlt] at e;rw [hx,<-e];exact hs64.out⟩
       case measure=>simp [intOf];omega
     ·go_wp2
      have hall:∀ s∈ss,(s.size:Int)=64:=by have:=HA.out;rwa [List.take_of_length_le (by omega)] at this
      have HALL:=hid hall
      clear hall HA
      go_loopw [4] (fun i wr=>∃ k:Nat,k<=ws.length/\i=.int .i64 k/\Hid (∀ x∈ws.take k,wOk ss.length x=true)/\Below (w.heap.size+1) (w.alloc (.cells #[.slice a ss.length c,.slice a' ws.length c'] 44)) wr) (fun i _=>ws.length-(intOf i).toNat)
      case atStart=>exact ⟨0,Nat.zero_le _,rfl,by show ∀ s∈ws.take 0,_;simp,Below.refl _ _⟩
      case round =>
       obtain ⟨k2,hk2,rfl,HA2,hbel⟩:=hrel
       have q0:wr.cell? ⟨w.heap.size,0,none⟩=some (.slice a ss.length c):=(hbel.cell (p:=⟨w.heap.size,0,none⟩) (by show w.heap.size<_;omega)).trans (by go_simp)
       have q1:wr.cell? ⟨w.heap.size,1,none⟩=some (.slice a' ws.length c'):=(hbel.cell (p:=⟨w.heap.size,1,none⟩) (by show w.heap.size<_;omega)).trans (by go_simp)
       have hbw:Below w.heap.size w wr:=(hb0 _).trans (hbel.mono (by omega))
       have HBL:=hid hbel
       have HBW:=hid hbw
       by_cases hlt2:k2<ws.length
       ·obtain ⟨b,o,n,s,rfl,hc,hc2,HS⟩:=(h'.below hbw).at hlt2
        have hm:Hid ((n,s)∈ws):=by show _∈_;rw [HS.out];simp [List.getD,hlt2]
        have hsz:s.size<=1048576:=hs' (n,s) hm.out
        have hwl:w.heap.size+1<=wr.heap.size:=by have:=hbel.size;simpa using this
        have hwl':w.heap.size<wr.heap.size:=by omega
        have lt1:b<wr.heap.size:=by have:=World.block_lt_of_cell? wr _ hc;simpa using this
        have hk1:(k2:Int)<(ws.length:Int):=by omega
        have hk0:(0:Int)<=(k2:Int):=by omega
        have HQ:=hid (And.intro q0 (And.intro q1 (And.intro hc hc2)))
        go_wp2_with fail
        clear hbel hbw q0 q1 hc hc2
        go_region_held3 (fun w'=>w'.cell? ⟨w.heap.size,0,none⟩=some (.slice a ss.length c)/\w'.cell? ⟨w.heap.size,1,none⟩=some (.slice (some ⟨b,o,none⟩) ws.length c')/\w'.cell? ⟨b,o+k2*2,none⟩=some (.int .i64 n)/\w'.cell? ⟨b,o+k2*2+1,none⟩=some (.string s))
         (first | assumption | exact HQ.out | exact ⟨(hb2.cell (p:=⟨_,_,none⟩) hwl').trans HQ.out.1,(hb2.cell (p:=⟨_,_,none⟩) hwl').trans HQ.out.2.1,(hb2.cell (p:=⟨b,_,none⟩) lt1).trans HQ.out.2.2.1,(hb2.cell (p:=⟨b,_,none⟩) lt1).trans HQ.out.2.2.2⟩)
         (first | (go_at_call 78;refine (can_s a ss.length c (some ⟨b,o,none⟩) ws.length c' n s _ hsz (by omega)).mono ?_;rintro e w2 ⟨rfl,hb2⟩))
        cases hok:wOk ss.length (n,s) with
        | false =>
         go_wp2
         go_ret
         exact ⟨ret_bool' (by rw [HR.out];exact (diskOk_no3 hm.out hok).symm),HBW.out.drew.trans (hb2.mono HBW.out.size)⟩
        | true =>
         go_wp2
         go_roundw
         case rel=>exact ⟨k2+1,by omega,by go_num,fun x hx=>by
                rw [List.take_succ_eq_append_getElem hlt2] at hx
                rcases List.mem_append.1 hx with hx | hx
                ·exact HA2.out x hx
                ·simp at hx;have e:=HS.out;simp [List.getD,hlt2] at e;rw [hx,<-e];exact hok,HBL.out.drew.trans (hb2.mono hwl)⟩
         case measure=>simp [intOf];omega
       ·clear hbel hbw
        go_wp2
        go_ret
        refine ⟨ret_bool' ?_,HBW.out⟩
        rw [HR.out]
        have h2:=HA2.out
        rw [List.take_of_length_le (by omega)] at h2
        exact (diskOk_yes (by omega) HALL.out h2).symm
   ·go_enter Tryz.func40,Tryz.ntmps40
    go_wp2
    go_ret
    exact ⟨ret_bool' (by rw [HR.out];exact (diskOk_no1 (by omega)).symm),hb0 _⟩
  ·go_enter Tryz.func40,Tryz.ntmps40
   go_wp2
   go_ret
   exact ⟨ret_bool' (by rw [HR.out];exact (diskOk_no1 (by omega)).symm),hb0 _⟩
 ·go_enter Tryz.func40,Tryz.ntmps40
  go_wp2
  go_ret
  exact ⟨ret_bool' (by rw [HR.out];exact (diskOk_no1 (by omega)).symm),hb0 _⟩
end Go.Proofs.YtcoegjnjjdndjaaGreatDoor
namespace Go.Proofs.YtcoegjnjjdndjaaGreatDoor
open Go.RowKit
def syncs:List (Int×ByteArray)->List ByteArray->List ByteArray
 | [],ss=>ss
 | x::r,ss=>syncs r (ss.set x.1.toNat x.2)
theorem syncs_length:∀ (ws:List (Int×ByteArray)) (ss:List ByteArray),(syncs ws ss).length=ss.length
 | [],_=>rfl
 | x::r,ss=>by rw [syncs,syncs_length r];simp
structure SYs (W w:World) (R X g g' n n' c1 c1':Nat) (ws:List (Int×ByteArray)) (ts:List ByteArray):Prop where
 gr:W.grownBy w (some g)
 rr:Row w R [.slice none 0 0,.slice none 0 0]
 rx:Row w X [.slice (some ⟨g,0,none⟩) n c1,.slice (some ⟨g',0,none⟩) n' c1']
 rs:Row w g (ts.map Value.string)
 own:OwnS w (some ⟨g',0,none⟩) (wcells ws)
section
variable {W w w':World} {R X g g' n n' c1 c1':Nat} {ws:List (Int×ByteArray)} {ts:List ByteArray}
theorem SYs.below (h:SYs W w R X g g' n n' c1 c1' ws ts) (hb:Below w.heap.size w w'):SYs W w' R X g g' n n' c1 c1' ws ts :=
 ⟨grown_trans h.gr (grown_of_below _ hb),h.rr.below hb,h.rx.below hb,h.rs.below hb,h.own.below hb⟩
theorem SYs.drew (h:SYs W w R X g g' n n' c1 c1' ws ts):SYs W w.drew R X g g' n n' c1 c1' ws ts:=h.below ((Below.refl _ _).drew)
theorem SYs.set (h:SYs W w R X g g' n n' c1 c1' ws ts) (m:Nat) (hm:m<ts.length) (s:ByteArray) (h2:R≠g) (h3:X≠g) (h4:wcells ws≠[]->g'≠g):SYs W (w.setCell ⟨g,m,none⟩ (.string s)) R X g g' n n' c1 c1' ws (ts.set m s):=by
 refine ⟨grown_set h.gr _ _,h.rr.other _ (fun e=>h2 e.symm) _,h.rx.other _ (fun e=>h3 e.symm) _,?_,?_⟩
 ·rw [List.map_set];exact h.rs.set m (by simpa using hm) _
 ·rcases h.own with ho | ⟨b,e,hr⟩
  ·exact .inl ho
  ·injection e with e;injection e with e
   by_cases hc:wcells ws=[]
   ·exact .inl hc
   ·exact .inr ⟨g',rfl,(e ▸ hr).other _ (fun e2=>h4 hc e2.symm) _⟩
end
theorem grown_setnew {a b:World} {r:Option Nat} (h:a.grownBy b r) (p:Addr) (hp:a.heap.size<=p.block) (v:Value):a.grownBy (b.setCell p v) r :=
 ⟨h.os,h.tape,h.output,by rw [World.size_setCell];exact h.size,fun i hi hr=>(Below.heap_setCell _ _ _ _ (fun e=>by omega)).trans (h.block i hi hr)⟩
set_option maxRecDepth 100000 in
set_option maxHeartbeats 16000000 in
theorem sync_s (g g':Nat) (ss:List ByteArray) (c:Nat) (ws:List (Int×ByteArray)) (c':Nat) (w:World) (hrs:Row w g (ss.map Value.string)) (hp:OwnS w (some ⟨g',0,none⟩) (wcells ws)) (hne:wcells ws≠[]->g'≠g) (hl:ss.length<=200) (hl':ws.length<=300) (hok:∀ x∈ws,0<=x.1/\x.1<(ss.length:Int)) :
  Calls Tryz.prog 80 #[diskV (some ⟨g,0,none⟩) ss.length c (some ⟨g',0,none⟩) ws.length c'] w fun e w'=>∃ x,e=.returned (diskV (some ⟨g,0,none⟩) ss.length c (some ⟨x,0,none⟩) 0 0)/\w.heap.size<=x/\x<w'.heap.size/\Row w' g ((syncs ws ss).map Value.string)/\w.grownBy w' (some g):=by
 obtain ⟨RES,HRES⟩:∃ RES,Hid (RES=syncs ws ss):=⟨_,hid rfl⟩
 rw [<-HRES.out]
 have hgl:=hrs.lt
 go_enter Tryz.func80,Tryz.ntmps80
 go_wp2
 have hst:SYs w ((w.alloc (.cells #[.slice (some ⟨g,0,none⟩) ss.length c,.slice (some ⟨g',0,none⟩) ws.length c'] 44)).alloc (.cells #[.slice none 0 0,.slice none 0 0] 44)) (w.heap.size+1) w.heap.size g g' ss.length ws.length c c' ws ss :=
  ⟨grown_of_below _ (((Below.refl _ _).alloc (Nat.le_refl _) _).alloc (by simp) _),row_new' _ _ _ _ (by simp),(row_new _ _ _).alloc _,(hrs.alloc _).alloc _,(hp.below (below_new _ _)).below (below_new _ _)⟩
 have HST:=hid hst
 have HOK:=hid hok
 have HNE:=hid hne
 clear hst hrs hp hok hne
 go_loopw [3] (fun i wr=>∃ (k:Nat) (ts:List ByteArray),k<=ws.length/\i=.int .i64 k/\ts.length=ss.length/\Hid (syncs (ws.drop k) ts=RES)/\SYs w wr (w.heap.size+1) w.heap.size g g' ss.length ws.length c c' ws ts) (fun i _=>ws.length-(intOf i).toNat)
 case atStart=>exact ⟨0,ss,Nat.zero_le _,rfl,rfl,by show _=_;rw [List.drop_zero,HRES.out],HST.out⟩
 case round =>
  clear HST
  obtain ⟨k,ts,hk,rfl,htl,HK,hst⟩:=hrel
  by_cases hlt:k<ws.length
  ·obtain ⟨b,o,m0,d,he,hc0,hc1,HX⟩:=hst.own.wrs.at hlt
   obtain ⟨rfl,rfl⟩:g'=b/\o=0:=by cases he;exact ⟨rfl,rfl⟩
   rw [Nat.zero_add] at hc0 hc1
   clear he
   have hyw:=HOK.out (m0,d) (by rw [HX.out];simp [List.getD,hlt])
   obtain ⟨m,rfl,hm⟩:∃ m:Nat,m0=(m:Int)/\m<ss.length:=⟨m0.toNat,by have:=hyw.1;simp at *;omega,by have:=hyw.1;have:=hyw.2;simp at *;omega⟩
   have hwne:wcells ws≠[]:=fun e=>by have:=congrArg List.length e;rw [wcells_length,List.length_nil] at this;omega
   have hgg:=HNE.out hwne
   have hcg:=cval_some (cval_is (hst.rs.cell m (.string (ts.getD m ByteArray.empty)) (by simp [List.getD,htl,hm])))
   have hfo:=hst.rs.froz m (by simp [htl,hm])
   have hlX:=hst.rx.lt
   have x0:=hst.rx.cell 0 _ rfl
   have x1:=hst.rx.cell 1 _ rfl
   have HS0:=hid (And.intro x0 (And.intro x1 (And.intro hc0 (And.intro hc1 (And.intro hcg hfo)))))
   have HSR:=hid hst
   have hk0:(0:Int)<=(k:Int):=by omega
   have hk1:(k:Int)<(ws.length:Int):=by omega
   have hm0:(0:Int)<=(m:Int):=by omega
   have hm1:(m:Int)<(ss.length:Int):=by omega
   clear hst hyw hcg hfo hc0 hc1 hwne
   go_wp2_with fail
   clear x0 x1
   go_region_held3 (fun w'=>w'.cell? ⟨w.heap.size,0,none⟩=some (.slice (some ⟨g,0,none⟩) ss.length c)/\w'.cell? ⟨w.heap.size,1,none⟩=some (.slice (some ⟨g',0,none⟩) ws.length c')/\w'.cell? ⟨g',k*2,none⟩=some (.int .i64 (m:Int))/\w'.cell? ⟨g',k*2+1,none⟩=some (.string d)/\w'.cell? ⟨g,m,none⟩=some (cval w' ⟨g,m,none⟩)/\w'.frozen? ⟨g,m,none⟩=false)
    (first | assumption | exact HS0.out | exact ⟨(World.cell?_setCell_far _ _ _ _ (by show g≠w.heap.size;omega)).trans HS0.out.1,(World.cell?_setCell_far _ _ _ _ (by show g≠w.heap.size;omega)).trans HS0.out.2.1,(World.cell?_setCell_far _ _ _ _ (by show g≠g';omega)).trans HS0.out.2.2.1,(World.cell?_setCell_far _ _ _ _ (by show g≠g';omega)).trans HS0.out.2.2.2.1,cval_some (cval_is (World.cell?_setCell_same' wr _ (.string d) (cval_is HS0.out.2.2.2.2.1))),(World.frozen?_setCell wr _ _ _).trans HS0.out.2.2.2.2.2⟩)
    (fail)
   have HST':=hid (HSR.out.drew.set m (by omega) d (by omega) (by omega) HNE.out)
   have HK':Hid (syncs (ws.drop (k+1)) (ts.set m d)=RES):=by
    show _=_
    rw [<-HK.out,drop_at ws k (0,ByteArray.empty) hlt,<-HX.out,syncs,Int.toNat_natCast]
   rename_i hHeld
   clear hHeld HS0
   go_wp2
   go_roundw
   case rel=>exact ⟨k+1,_,by omega,by go_num,by simp [htl],HK',HST'.out⟩
   case measure=>simp [intOf];omega
  ·have hres:Hid (ts=RES):=by
    have:=HK.out
    rw [List.drop_of_length_le (by omega)] at this
    exact this
   rw [hres.out] at hst
   have HSR:=hid hst
   have q0:=hst.rx.cell 0 _ rfl
   have q1:=hst.rx.cell 1 _ rfl
   have f1:=hst.rx.froz 1 (by simp)
   have r0:=hst.rr.cell 0 _ rfl
   have r1:=hst.rr.cell 1 _ rfl
   have fr0:=hst.rr.froz 0 (by simp)
   have fr1:=hst.rr.froz 1 (by simp)
   have hlX:=hst.rx.lt
   have hlR:=hst.rr.lt
   have n1:w.heap.size≠w.heap.size+1:=by omega
   clear hst
   go_wp2
   have ne0:wr.heap.size≠w.heap.size+1:=by omega
   refine bodyPost_ret (v:=diskV (some ⟨g,0,none⟩) ss.length c (some ⟨wr.heap.size,0,none⟩) 0 0) (by simp [results,Tryz.results80,go_sem,r0,r1,n1,ne0,hlR]) rfl ⟨_,rfl,by omega,by simp,?_,?_⟩
   ·exact (((HSR.out.rs.other _ (by show w.heap.size≠g;omega) _).other _ (by show w.heap.size+1≠g;omega) _).other _ (by show w.heap.size+1≠g;omega) _).alloc _
   ·exact grown_trans (grown_setnew (grown_setnew (grown_setnew HSR.out.gr ⟨w.heap.size,1,none⟩ (by show w.heap.size<=w.heap.size;omega) _) ⟨w.heap.size+1,0,none⟩ (by show w.heap.size<=w.heap.size+1;omega) _) ⟨w.heap.size+1,1,none⟩ (by show w.heap.size<=w.heap.size+1;omega) _) (grown_of_below _ (below_new _ _))
end Go.Proofs.YtcoegjnjjdndjaaGreatDoor
namespace Go.Proofs.YtcoegjnjjdndjaaGreatDoor
open Go.RowKit
structure PR (w:World) (g:Nat) (ps:List (List Int)):Prop where
 lt:g<w.heap.size
 len:∀ p∈ps,p.length=64
 cell:∀ k,k<ps.length->∀ j,j<64->w.cell? ⟨g,k*64+j,none⟩=some (.int .u8 ((ps.getD k []).getD j 0))
 froz:∀ i,i<ps.length*64->w.frozen? ⟨g,i,none⟩=false
theorem PR.below {w w':World} {g:Nat} {ps:List (List Int)} (h:PR w g ps) (hb:Below w.heap.size w w'):PR w' g ps :=
 ⟨Nat.lt_of_lt_of_le h.lt hb.size,h.len,fun k hk j hj=>(hb.cell (p:=⟨g,_,none⟩) h.lt).trans (h.cell k hk j hj),fun i hi=>(hb.frozen (p:=⟨g,i,none⟩) h.lt).trans (h.froz i hi)⟩
theorem PR.grown {w w':World} {g:Nat} {ps:List (List Int)} {r:Option Nat} (h:PR w g ps) (hg:w.grownBy w' r) (hn:some g≠r):PR w' g ps :=
 ⟨Nat.lt_of_lt_of_le h.lt hg.size,h.len,fun k hk j hj=>(World.cell?_of_block (a:=⟨g,_,none⟩) (hg.block g h.lt hn)).trans (h.cell k hk j hj),fun i hi=>(World.frozen?_of_block (a:=⟨g,i,none⟩) (hg.block g h.lt hn)).trans (h.froz i hi)⟩
theorem PR.other {w:World} {g:Nat} {ps:List (List Int)} (h:PR w g ps) (p:Addr) (hp:p.block≠g) (v:Value):PR (w.setCell p v) g ps:=by
 refine ⟨by simpa [World.setCell] using h.lt,h.len,fun k hk j hj=>?_,fun i hi=>?_⟩
 ·rw [World.cell?_setCell_other (w:=w) (h:=fun e=>hp (by rw [e]))];exact h.cell k hk j hj
 ·rw [World.frozen?_setCell];exact h.froz i hi
theorem getD_len {ps:List (List Int)} (h:∀ p∈ps,p.length=64) {k:Nat} (hk:k<ps.length):(ps.getD k []).length=64:=h _ (by simp [List.getD,hk])
theorem PR.there {w:World} {g:Nat} {ps:List (List Int)} (h:PR w g ps) {k:Nat} (hk:k<ps.length):w.there g (k*64) 64:=fun j hj=>by
 rw [h.cell k hk j hj];exact ⟨rfl,h.froz _ (by omega)⟩
theorem PR.range {w:World} {g:Nat} {ps:List (List Int)} (h:PR w g ps) {k:Nat} (hk:k<ps.length):w.rangeAt g (k*64) ((ps.getD k []).map (Value.int .u8)):=fun j v hv=>by
 obtain ⟨hj,e⟩:=List.getElem?_eq_some_iff.1 hv
 simp only [List.length_map] at hj
 have h64:=getD_len h.len hk
 rw [h.cell k hk j (by omega)]
 rw [<-e]
 simp only [List.getElem_map]
 rw [List.getD_eq_getElem?_getD (l:=ps.getD k []),List.getElem?_eq_getElem hj]
 rfl
theorem PR.set {w:World} {g:Nat} {ps:List (List Int)} (h:PR w g ps) (k:Nat) (hk:k<ps.length) (x:List Int) (hx:x.length=64):PR (w.setCells g (k*64) (x.map (Value.int .u8))) g (ps.set k x):=by
 have hl:(x.map (Value.int .u8)).length=64:=by simp [hx]
 refine ⟨by rw [setCells_size];exact h.lt,fun p hp=>?_,fun i hi j hj=>?_,fun i hi=>?_⟩
 ·rcases List.mem_or_eq_of_mem_set hp with h1 | h1
  ·exact h.len p h1
  ·rw [h1];exact hx
 ·rw [List.length_set] at hi
  by_cases he:i=k
  ·subst he
   have e1:(ps.set i x).getD i []=x:=by rw [List.getD_eq_getElem?_getD,List.getElem?_set_self hk];rfl
   rw [e1,World.cell?_setCells_in g _ (i*64) w (fun j hj=>by rw [hl] at hj;exact (h.there hk j hj).1) j (by omega)]
   simp [List.getD,show j<x.length by omega]
  ·have e1:(ps.set k x).getD i []=ps.getD i []:=by rw [List.getD_eq_getElem?_getD,List.getElem?_set_ne (fun e=>he e.symm),List.getD_eq_getElem?_getD]
   rw [e1,World.cell?_setCells_out g _ (k*64) w ⟨g,i*64+j,none⟩ (fun _ _=>by rw [hl];show i*64+j<k*64\/k*64+64<=i*64+j;omega)]
   exact h.cell i hi j hj
 ·rw [World.frozen?_setCells];exact h.froz i (by simpa using hi)
theorem pr_zero {w:World} {g n:Nat} (h:Row w g (List.replicate (n*64) (.int .u8 0))):PR w g (List.replicate n (List.replicate 64 0)):=by
 refine ⟨h.lt,fun p hp=>by rw [List.eq_of_mem_replicate hp];simp,fun k hk j hj=>?_,fun i hi=>h.froz i (by simpa using hi)⟩
 rw [List.length_replicate] at hk
 have e1:((List.replicate n (List.replicate 64 (0:Int))).getD k []).getD j 0=0:=by
  rw [List.getD_eq_getElem?_getD (l:=List.replicate n _),List.getElem?_replicate,if_pos hk,Option.getD_some,List.getD_eq_getElem?_getD,List.getElem?_replicate,if_pos hj]
  rfl
 rw [e1]
 exact h.cell _ _ (by rw [List.getElem?_replicate,if_pos (by omega)])
def hcells (hs:List (Int×List Int)):List Value:=hs.flatMap fun x=>.int .i64 x.1::x.2.map (Value.int .u8)
theorem hcells_append (a b:List (Int×List Int)):hcells (a++b)=hcells a++hcells b:=by simp [hcells]
theorem hcells_at:∀ (hs:List (Int×List Int)),(∀ p∈hs,p.2.length=64)->∀ (i:Nat),i<hs.length->∀ j,(Value.int .i64 (hs.getD i (0,[])).1::(hs.getD i (0,[])).2.map (Value.int .u8))[j]?≠none->(hcells hs)[i*65+j]?=(Value.int .i64 (hs.getD i (0,[])).1::(hs.getD i (0,[])).2.map (Value.int .u8))[j]?
 | x::r,hl,0,_,j,hj=>by
  have e:hcells (x::r)=(.int .i64 x.1::x.2.map (Value.int .u8))++hcells r:=by simp [hcells]
  have e2:(x::r).getD 0 (0,[])=x:=rfl
  rw [e2] at hj ⊢
  rw [e,Nat.zero_mul,Nat.zero_add,List.getElem?_append_left]
  rcases Nat.lt_or_ge j (Value.int .i64 x.1::x.2.map (Value.int .u8)).length with h | h
  ·exact h
  ·exact absurd (List.getElem?_eq_none h) hj
 | x::r,hl,i+1,h,j,hj=>by
  have e:hcells (x::r)=(.int .i64 x.1::x.2.map (Value.int .u8))++hcells r:=by simp [hcells]
  have hx:(Value.int .i64 x.1::x.2.map (Value.int .u8)).length=65:=by simp [hl x (by simp)]
  have e2:(x::r).getD (i+1) (0,[])=r.getD i (0,[]):=by simp [List.getD]
  rw [e2] at hj ⊢
  rw [e,List.getElem?_append_right (by omega),hx,show (i+1)*65+j-65=i*65+j by omega]
  exact hcells_at r (fun p hp=>hl p (by simp [hp])) i (by simpa using h) j hj
theorem hcells_length (hs:List (Int×List Int)) (hl:∀ p∈hs,p.2.length=64):(hcells hs).length=hs.length*65:=by
 induction hs with
 | nil=>rfl
 | cons x r ih =>
  have e:hcells (x::r)=(.int .i64 x.1::x.2.map (Value.int .u8))++hcells r:=by simp [hcells]
  rw [e,List.length_append,ih (fun p hp=>hl p (by simp [hp]))]
  simp [hl x (by simp)];omega
theorem Row.hld {w:World} {g:Nat} {hs:List (Int×List Int)} (h:Row w g (hcells hs)) (hl:∀ p∈hs,p.2.length=64):Hld w (some ⟨g,0,none⟩) hs :=
 .inr ⟨g,0,rfl,h.lt,fun i hi j v hv=>by
  rw [Nat.zero_add]
  exact h.cell _ _ ((hcells_at hs hl i hi j (by rw [hv];simp)).trans hv)⟩
structure Drs (W w:World) (n:Nat) (box:Value) (e:TypeId) (v:Value) (ps:List (List Int)) (hs:List (Int×List Int)):Prop where
 sz:W.heap.size+1+1+1+1<=w.heap.size
 bel:Below W.heap.size W w
 b1:w.cell? ⟨W.heap.size,1,none⟩=some box
 r0:w.cell? ⟨W.heap.size+1,0,none⟩=some (.slice none 0 0)
 r1:w.cell? ⟨W.heap.size+1,1,none⟩=some (.slice none 0 0)
 fr0:w.frozen? ⟨W.heap.size+1,0,none⟩=false
 fr1:w.frozen? ⟨W.heap.size+1,1,none⟩=false
 d0:w.cell? ⟨W.heap.size+1+1+1,0,none⟩=some (.slice (some ⟨W.heap.size+1+1,0,none⟩) n n)
 d1:w.cell? ⟨W.heap.size+1+1+1,1,none⟩=some v
 fd1:w.frozen? ⟨W.heap.size+1+1+1,1,none⟩=false
 pr:PR w (W.heap.size+1+1) ps
 len:∀ p∈hs,p.2.length=64
 own:w.ownsRow (W.heap.size+1+1+1+1) e 65 v hs.length (hcells hs)
section
variable {W w w':World} {n:Nat} {box v:Value} {e:TypeId} {ps:List (List Int)} {hs:List (Int×List Int)}
theorem Drs.below (h:Drs W w n box e v ps hs) (hb:Below w.heap.size w w'):Drs W w' n box e v ps hs :=
 have hs:=h.sz
 have bc:∀ b i,b<W.heap.size+1+1+1+1->w'.cell? ⟨b,i,none⟩=w.cell? ⟨b,i,none⟩:=fun b i hi=>hb.cell (p:=⟨b,i,none⟩) (by show b<_;omega)
 have bf:∀ b i,b<W.heap.size+1+1+1+1->w'.frozen? ⟨b,i,none⟩=w.frozen? ⟨b,i,none⟩:=fun b i hi=>hb.frozen (p:=⟨b,i,none⟩) (by show b<_;omega)
 ⟨Nat.le_trans hs hb.size,h.bel.trans (hb.mono (by omega)),(bc _ _ (by omega)).trans h.b1,(bc _ _ (by omega)).trans h.r0,(bc _ _ (by omega)).trans h.r1,(bf _ _ (by omega)).trans h.fr0,(bf _ _ (by omega)).trans h.fr1,
  (bc _ _ (by omega)).trans h.d0,(bc _ _ (by omega)).trans h.d1,(bf _ _ (by omega)).trans h.fd1,h.pr.below hb,h.len,owns_below h.own hb⟩
theorem Drs.drew (h:Drs W w n box e v ps hs):Drs W w.drew n box e v ps hs:=h.below ((Below.refl _ _).drew)
theorem Drs.alloc (h:Drs W w n box e v ps hs) (o:Obj):Drs W (w.alloc o) n box e v ps hs:=h.below ((Below.refl _ _).alloc (Nat.le_refl _) _)
theorem Drs.fill (h:Drs W w n box e v ps []) (hv:v=.slice none 0 0) (k:Nat) (hk:k<ps.length) (x:List Int) (hx:x.length=64):Drs W (w.setCells (W.heap.size+1+1) (k*64) (x.map (Value.int .u8))) n box e v (ps.set k x) []:=by
 have hs:=h.sz
 have co:∀ b i,b≠W.heap.size+1+1->(w.setCells (W.heap.size+1+1) (k*64) (x.map (Value.int .u8))).cell? ⟨b,i,none⟩=w.cell? ⟨b,i,none⟩:=fun b i hb=>World.cell?_setCells_out _ _ _ _ _ (fun e=>absurd e hb)
 exact ⟨by rw [setCells_size];exact hs,Go.below_setCells (by omega) _ _ _ h.bel,(co _ _ (by omega)).trans h.b1,(co _ _ (by omega)).trans h.r0,(co _ _ (by omega)).trans h.r1,(World.frozen?_setCells _ _ _ _ _).trans h.fr0,(World.frozen?_setCells _ _ _ _ _).trans h.fr1,
  (co _ _ (by omega)).trans h.d0,(co _ _ (by omega)).trans h.d1,(World.frozen?_setCells _ _ _ _ _).trans h.fd1,h.pr.set k hk x hx,h.len,by rw [hv];exact World.ownsRow_nil _ _ _ _⟩
theorem Drs.grown {w1:World} (h:Drs W w n box e v ps hs) (hg:w.grownBy w1 v.ownBlock):w1.cell? ⟨W.heap.size+1+1+1,1,none⟩=some v/\w1.frozen? ⟨W.heap.size+1+1+1,1,none⟩=false:=by
 have hs:=h.sz
 have nb:some (W.heap.size+1+1+1)≠v.ownBlock:=fun he=>by have:=(h.own.lt _ he.symm).1;omega
 exact ⟨(hg.cell_far ⟨W.heap.size+1+1+1,1,none⟩ (by show W.heap.size+1+1+1<_;omega) nb).trans h.d1,(hg.frozen_far ⟨W.heap.size+1+1+1,1,none⟩ (by show W.heap.size+1+1+1<_;omega) nb).trans h.fd1⟩
theorem Drs.push (h:Drs W w n box e v ps hs) {w1:World} {g cap:Nat} {x:Int×List Int} (hx:x.2.length=64) (hown:w1.ownsRow (W.heap.size+1+1+1+1) e 65 (.slice (some ⟨g,0,none⟩) (hs.length+1) cap) (hs.length+1) (hcells hs++(.int .i64 x.1::x.2.map (Value.int .u8)))) (hg:w.grownBy w1 v.ownBlock) :
  Drs W (w1.setCell ⟨W.heap.size+1+1+1,1,none⟩ (.slice (some ⟨g,0,none⟩) (hs.length+1) cap)) n box e (.slice (some ⟨g,0,none⟩) (hs.length+1) cap) ps (hs++[x]):=by
 have hs':=h.sz
 have nb:∀ k,k<W.heap.size+1+1+1+1->some k≠v.ownBlock:=fun k hk he=>by have:=(h.own.lt k he.symm).1;omega
 have lt:∀ b,b<W.heap.size+1+1+1+1->b<w.heap.size:=fun b hb=>by omega
 have cc:∀ b i,b<W.heap.size+1+1+1+1->w1.cell? ⟨b,i,none⟩=w.cell? ⟨b,i,none⟩:=fun b i hb=>hg.cell_far ⟨b,i,none⟩ (lt b hb) (nb b hb)
 have ff:∀ b i,b<W.heap.size+1+1+1+1->w1.frozen? ⟨b,i,none⟩=w.frozen? ⟨b,i,none⟩:=fun b i hb=>hg.frozen_far ⟨b,i,none⟩ (lt b hb) (nb b hb)
 have so:∀ b i,b<W.heap.size+1+1+1+1->b≠W.heap.size+1+1+1->(w1.setCell ⟨W.heap.size+1+1+1,1,none⟩ (.slice (some ⟨g,0,none⟩) (hs.length+1) cap)).cell? ⟨b,i,none⟩=w.cell? ⟨b,i,none⟩:=fun b i hb hn=>by
  rw [World.cell?_setCell_other (w:=w1) (h:=show (⟨W.heap.size+1+1+1,1,none⟩:Addr)≠⟨b,i,none⟩ from fun he=>hn (by injection he with h1;exact h1.symm))];exact cc b i hb
 have hbel:Below W.heap.size W w1:=h.bel.trans ⟨hg.os,hg.tape,hg.output,hg.size,fun k hk=>hg.block k (by omega) (nb k (by omega))⟩
 refine ⟨by simp only [World.size_setCell];have:=hg.size;omega,hbel.setCell (by show W.heap.size<=W.heap.size+1+1+1;omega) _,(so _ _ (by omega) (by omega)).trans h.b1,(so _ _ (by omega) (by omega)).trans h.r0,(so _ _ (by omega) (by omega)).trans h.r1,
  (World.frozen?_setCell _ _ _ _).trans ((ff _ _ (by omega)).trans h.fr0),(World.frozen?_setCell _ _ _ _).trans ((ff _ _ (by omega)).trans h.fr1),?_,World.cell?_setCell_same w1 _ _ ((cc _ _ (by omega)).trans h.d1),(World.frozen?_setCell _ _ _ _).trans ((ff _ _ (by omega)).trans h.fd1),?_,?_,?_⟩
 ·rw [World.cell?_setCell_other (w:=w1) (h:=show (⟨W.heap.size+1+1+1,1,none⟩:Addr)≠⟨W.heap.size+1+1+1,0,none⟩ by simp)];exact (cc _ _ (by omega)).trans h.d0
 ·exact (h.pr.grown hg (nb _ (by omega))).other _ (by show W.heap.size+1+1+1≠W.heap.size+1+1;omega) _
 ·intro p hp
  rcases List.mem_append.1 hp with h1 | h1
  ·exact h.len p h1
  ·simp at h1;rw [h1];exact hx
 ·have k1:=ownsRow_setCell_below hown (a:=⟨W.heap.size+1+1+1,1,none⟩) (by show W.heap.size+1+1+1<_;omega) (.slice (some ⟨g,0,none⟩) (hs.length+1) cap)
  have e1:hcells (hs++[x])=hcells hs++(.int .i64 x.1::x.2.map (Value.int .u8)):=by rw [hcells_append];simp [hcells]
  rw [List.length_append,e1]
  exact k1
theorem Drs.start (w wx:World) (n:Nat) (c0 c1:Value) (t0 t1 t2 e:TypeId) (hb:Below ((w.alloc (.cells #[c0,c1] t0)).alloc (.cells #[.slice none 0 0,.slice none 0 0] t1)).heap.size ((w.alloc (.cells #[c0,c1] t0)).alloc (.cells #[.slice none 0 0,.slice none 0 0] t1)) wx)
  (hs:wx.heap.size=w.heap.size+1+1+1) (hr:Row wx (w.heap.size+1+1) (List.replicate (n*64) (.int .u8 0))) :
  Drs w (wx.alloc (.cells #[.slice (some ⟨w.heap.size+1+1,0,none⟩) n n,.slice none 0 0] t2)) n c1 e (.slice none 0 0) (List.replicate n (List.replicate 64 0)) []:=by
 have rb:=(((row_new w #[c0,c1] t0).alloc (.cells #[.slice none 0 0,.slice none 0 0] t1)).below hb).alloc (.cells #[.slice (some ⟨w.heap.size+1+1,0,none⟩) n n,.slice none 0 0] t2)
 have rr:=((row_new' (w.alloc (.cells #[c0,c1] t0)) #[.slice none 0 0,.slice none 0 0] t1 (w.heap.size+1) (by simp)).below hb).alloc (.cells #[.slice (some ⟨w.heap.size+1+1,0,none⟩) n n,.slice none 0 0] t2)
 have rd:=row_new' wx #[.slice (some ⟨w.heap.size+1+1,0,none⟩) n n,.slice none 0 0] t2 (w.heap.size+1+1+1) hs.symm
 have hB:Below w.heap.size w wx:=(((Below.refl _ _).alloc (Nat.le_refl _) _).alloc (by simp) _).trans (hb.mono (by simp;omega))
 exact ⟨by simp [hs],hB.alloc hB.size _,rb.cell 1 _ rfl,rr.cell 0 _ rfl,rr.cell 1 _ rfl,rr.froz 0 (by simp),rr.froz 1 (by simp),rd.cell 0 _ rfl,rd.cell 1 _ rfl,rd.froz 1 (by simp),pr_zero (hr.alloc _),by simp,World.ownsRow_nil _ _ _ _⟩
end
end Go.Proofs.YtcoegjnjjdndjaaGreatDoor
namespace Go.Proofs.YtcoegjnjjdndjaaGreatDoor
open Go.RowKit
theorem results_cell1_tmp {P:Program} {fn:Func} {p u:Tmp} {ty:TypeId} (h:fn.results=#[.cell p ty,.tmp u]) (tmps:Array Value) (w:World) (b o:Nat) (hp:tmps.getD p undef=.pointer (some ⟨b,o,none⟩))
  (cs:List Value) (d:TypeDesc) (hc:w.rangeAt b o cs) (hu:P.underlying ty=some d) (hd:d.isRow=true) (hi:(P.info? ty).map (·.size)=some cs.length):(results fn tmps).run P w=.ok (.tuple #[.agg cs.toArray,tmps.getD u undef]) w:=by
 have hl:=run_loadVar_mid (P:=P) w b o ty cs d hc hu hd hi
 rw [results_cell_tmp h]
 simp [hp,asAddr,hl,Result.andThen]
set_option maxRecDepth 100000 in
set_option maxHeartbeats 16000000 in
theorem rd_plate (g n c m:Nat) (ps:List (List Int)) (w:World) (hp:PR w g ps) (hl:ps.length=n) (hn2:n<=200) (hm:m<n) :
  Calls Tryz.prog 194 #[.slice (some ⟨g,0,none⟩) n c,.int .i64 (m:Int)] w fun e w'=>e=.returned (.tuple #[.agg ((ps.getD m []).map (Value.int .u8)).toArray,.bool true])/\Below w.heap.size w w':=by
 have hrg:∀ o,(w.alloc o).rangeAt g (m*64) ((ps.getD m []).map (Value.int .u8)):=fun o=>(hp.below (below_new w o)).range (k:=m) (by omega)
 have hxl:=getD_len hp.len (k:=m) (by omega)
 obtain ⟨x,HX⟩:∃ x,Hid (x=ps.getD m []):=⟨_,hid rfl⟩
 rw [<-HX.out] at hrg hxl ⊢
 have hxm:(x.map (Value.int .u8)).toArray.size=64:=by simp [hxl]
 have HI64:Hid ((Tryz.prog.info? 193).map (·.size)=some (x.map (Value.int .u8)).length):=by show _=_;rw [List.length_map,hxl];kernel_rfl
 have HRG:=hid hrg
 have hm0:¬ ((m:Int)<0):=by omega
 have hm1:¬ (n<=m):=by omega
 clear hrg
 go_enter Tryz.func194,Tryz.ntmps194
 go_wp2_with (first | (with_reducible refine at_load 193 _ rfl ?_;refine wpList_load_mid rfl 193 _ rfl g (m*64) rfl (x.map (Value.int .u8)) _ (by exact HRG.out _) Tryz.underlying193 rfl HI64.out ?_) | (with_reducible refine at_store 193 _ _ rfl ?_;refine wpList_store_mid rfl 193 _ _ rfl w.heap.size 0 (x.map (Value.int .u8)).toArray rfl rfl (by rw [hxm];exact (row_new w _ _).there (by kernel_rfl)) (by rw [hxm];kernel_rfl) (all_oneCell_toArray (ints_one x)) ?_))
 refine bodyPost_ret (v:=.tuple #[.agg (x.map (Value.int .u8)).toArray,.bool true]) (results_cell1_tmp (p:=4) (u:=5) Tryz.results194 _ _ w.heap.size 0 rfl (x.map (Value.int .u8)) _ (World.rangeAt_setCells_same _ _ _ _ (by rw [List.length_map,hxl];exact (row_new w _ _).there (by kernel_rfl))) Tryz.underlying193 rfl HI64.out) rfl ⟨rfl,?_⟩
 exact Go.below_setCells (Nat.le_refl _) _ _ _ (below_new _ _)
set_option maxRecDepth 100000 in
set_option maxHeartbeats 16000000 in
theorem rdr (a a':Option Addr) (n c n' c':Nat) (w:World) :
  Calls Tryz.prog 103 #[.agg #[.slice a n c,.slice a' n' c']] w fun e w'=>e=.returned (.iface 198 (.agg #[.slice a' n' c',.iface 148 (.slice a n c)]))/\Below w.heap.size w w':=by
 go_enter Tryz.func103,Tryz.ntmps103
 go_wp2
 go_ret
 exact ⟨rfl,below_new _ _⟩
theorem fold_two' (v:Value) (cs:List Value) (z:Array Value) (hz:z.size=cs.length+1):List.foldl (fun (r:Array Value) (x:Value×Nat)=>r.setIfInBounds (1+x.snd) x.fst) (z.setIfInBounds 0 v) cs.zipIdx=(v::cs).toArray:=by
 obtain ⟨h3,h4⟩:=Great.foldl_set 1 cs 0 (z.setIfInBounds 0 v)
 apply Array.ext_getElem?
 intro k
 have e:=h4 k
 rw [e,Array.size_setIfInBounds]
 by_cases hk:1<=k/\k<1+cs.length
 ·rw [if_pos ⟨by omega,by omega,by omega⟩]
  obtain ⟨j,rfl⟩:∃ j,k=j+1:=⟨k-1,by omega⟩
  simp
 ·rw [if_neg (by omega)]
  by_cases h0:k=0
  ·subst h0
   simp [show 0<z.size by omega]
  ·rw [Array.getElem?_eq_none (by simp;omega),Array.getElem?_eq_none (by simp;omega)]
theorem fold_tail (v:Value) (cs:List Value) (n:Nat) (hn:cs.length+1=n) (z:Array Value) (hz:z.size=n) (h0:z[0]?=some v):List.foldl (fun (r:Array Value) (x:Value×Nat)=>r.setIfInBounds x.snd x.fst) z (cs.zipIdx 1)=(v::cs).toArray:=by
 obtain ⟨h3,h4⟩:=Great.foldl_set 0 cs 1 z
 have e0:(fun (r:Array Value) (x:Value×Nat)=>r.setIfInBounds (0+x.2) x.1)=fun (r:Array Value) (x:Value×Nat)=>r.setIfInBounds x.snd x.fst:=by funext r x;rw [Nat.zero_add]
 rw [e0] at h3 h4
 apply Array.ext_getElem?
 intro k
 rw [h4 k]
 by_cases hk:1<=k/\k<1+cs.length
 ·rw [if_pos ⟨by omega,by omega,by omega⟩]
  obtain ⟨j,rfl⟩:∃ j,k=j+1:=⟨k-1,by omega⟩
  simp
 ·rw [if_neg (by omega)]
  by_cases hk0:k=0
  ·subst hk0;rw [h0];simp
  ·rw [Array.getElem?_eq_none (by omega),Array.getElem?_eq_none (by simp;omega)]
theorem heldZ_size:heldZ.size=65:=by kernel_rfl
theorem heldZ_ne:¬ (heldZ=#[]):=fun h=>by have:=congrArg Array.size h;rw [heldZ_size] at this;cases this
def marks (k n:Nat):List ByteArray:=(List.range n).map fun i=>mtext (k+i)
theorem marks_length (k n:Nat):(marks k n).length=n:=by simp [marks]
theorem marks_succ (k n:Nat):marks k (n+1)=marks k n++[mtext (k+n)]:=by simp [marks,List.range_succ]
def mixed (k i:Nat) (ss:List ByteArray):List Value:=(marks k i++ss.drop i).map Value.string
theorem mixed_length (k i:Nat) (ss:List ByteArray) (h:i<=ss.length):(mixed k i ss).length=ss.length:=by simp [mixed,marks_length];omega
theorem mixed_set (k i:Nat) (ss:List ByteArray) (h:i<ss.length):(mixed k i ss).set i (.string (mtext (k+i)))=mixed k (i+1) ss:=by
 unfold mixed
 rw [marks_succ,drop_at ss i ByteArray.empty h,List.map_append,List.map_append,List.map_append,List.map_cons,List.set_append_right _ _ (by simp [marks_length])]
 simp [marks_length]
set_option maxHeartbeats 16000000 in
theorem mark_strs (a:Option Addr) (ss:List ByteArray) (c k:Nat) (w:World) (h:OwnS w a (ss.map Value.string)) (hk:0<k) (hl:k+ss.length<=100000000) :
  Calls Tryz.prog 34 #[.slice a ss.length c,.int .i64 (k:Int)] w fun e w'=>e=.returned (.int .i64 ((k+ss.length:Nat):Int))/\w.grownBy w' (blk a ss.length)/\OwnS w' a ((marks k ss.length).map Value.string):=by
 by_cases hss:ss=[]
 ·subst hss
  go_enter Tryz.func34,Tryz.ntmps34
  go_wp2
  refine wp_loop_rounds 1 ?_
  rw [rounds_succ]
  go_wp2
  go_ret
  exact ⟨rfl,grown_refl _ _,.inl rfl⟩
 ·obtain ⟨g,rfl,hrow⟩:=h.resolve_left (by simpa using hss)
  rw [blk_pos g 0 ss.length (fun e=>hss (List.eq_nil_of_length_eq_zero e))]
  have hr0:Row w g (mixed k 0 ss):=by simpa [mixed,marks] using hrow
  clear hrow hss
  go_enter Tryz.func34,Tryz.ntmps34
  go_wp2
  go_loopw [1,5] (fun x i wr=>∃ j:Nat,j<=ss.length/\i=.int .i64 (j:Int)/\x=.int .i64 ((k+j:Nat):Int)/\Row wr g (mixed k j ss)/\w.grownBy wr (some g)) (fun _ i _=>ss.length-(intOf i).toNat)
  case atStart=>exact ⟨0,Nat.zero_le _,rfl,rfl,hr0,grown_refl _ _⟩
  case round =>
   clear hr0
   obtain ⟨j,hj,rfl,rfl,hrow,hgr⟩:=hrel
   have HR:=hid hrow
   have HG:=hid hgr
   clear hrow hgr
   by_cases hlt:j<ss.length
   ·have HL:=hid (mixed_length k j ss hj)
    have hkj:((k+j:Nat):Int)<=100000000:=by omega
    have hkj0:(0:Int)<((k+j:Nat):Int):=by omega
    go_wp2_with (go_at_call 75;refine (mark_text (k+j) _ (by omega) (by omega)).mono ?_;rintro e w2 ⟨rfl,hb2⟩;have hr2:=HR.out.below hb2;obtain ⟨u,hu⟩:∃ u,w2.cell? ⟨g,j,none⟩=some u:=⟨_,hr2.cell j _ (List.getElem?_eq_getElem (by rw [HL.out];omega))⟩;have hf:=hr2.froz j (by rw [HL.out];omega);have HR2:=hid hr2;have HB2:=hid hb2;clear hr2 hb2)
    go_roundw
    case rel=>exact ⟨j+1,by omega,by go_num,by go_num,by rw [<-mixed_set k j ss hlt];exact HR2.out.set j (by rw [HL.out];omega) _,grown_set (grown_trans HG.out (grown_of_below _ HB2.out)) _ _⟩
    case measure=>simp [intOf];omega
   ·have hjl:Hid (j=ss.length):=by show _=_;omega
    go_wp2
    go_ret
    refine ⟨ret_int (by rw [hjl.out]),HG.out,.inr ⟨g,rfl,?_⟩⟩
    have:=HR.out
    rw [hjl.out] at this
    simpa [mixed] using this
def wmarks (k n:Nat):List (Int×ByteArray):=(List.range n).map fun i=>(((k+2*i:Nat):Int),mtext (k+2*i+1))
theorem wmarks_length (k n:Nat):(wmarks k n).length=n:=by simp [wmarks]
theorem wmarks_succ (k n:Nat):wmarks k (n+1)=wmarks k n++[(((k+2*n:Nat):Int),mtext (k+2*n+1))]:=by simp [wmarks,List.range_succ]
def wmixed (k i:Nat) (ws:List (Int×ByteArray)):List Value:=wcells (wmarks k i++ws.drop i)
theorem wmixed_length (k i:Nat) (ws:List (Int×ByteArray)) (h:i<=ws.length):(wmixed k i ws).length=ws.length*2:=by simp [wmixed,wcells_length,wmarks_length];omega
theorem wmixed_set (k i:Nat) (ws:List (Int×ByteArray)) (h:i<ws.length):((wmixed k i ws).set (i*2) (.int .i64 ((k+2*i:Nat):Int))).set (i*2+1) (.string (mtext (k+2*i+1)))=wmixed k (i+1) ws:=by
 have el:(wcells (wmarks k i)).length=i*2:=by rw [wcells_length,wmarks_length]
 unfold wmixed
 rw [wmarks_succ,drop_at ws i (0,ByteArray.empty) h,wcells_append,wcells_append,wcells_append,List.set_append_right _ _ (by omega),List.set_append_right _ _ (by omega),el]
 simp [wcells]
set_option maxHeartbeats 16000000 in
theorem mark_wrs (a:Option Addr) (ws:List (Int×ByteArray)) (c k:Nat) (w:World) (h:OwnS w a (wcells ws)) (hk:0<k) (hl:k+2*ws.length<=100000000) :
  Calls Tryz.prog 74 #[.slice a ws.length c,.int .i64 (k:Int)] w fun e w'=>e=.returned (.int .i64 ((k+2*ws.length:Nat):Int))/\w.grownBy w' (blk a ws.length)/\OwnS w' a (wcells (wmarks k ws.length)):=by
 by_cases hss:ws=[]
 ·skip
  subst hss
  go_enter Tryz.func74,Tryz.ntmps74
  go_wp2
  refine wp_loop_rounds 1 ?_
  rw [rounds_succ]
  go_wp2
  go_ret
  exact ⟨rfl,grown_refl _ _,.inl rfl⟩
 ·obtain ⟨g,rfl,hrow⟩:=h.resolve_left (fun e=>hss (by have:=congrArg List.length e;rw [wcells_length,List.length_nil] at this;exact List.eq_nil_of_length_eq_zero (by omega)))
  rw [blk_pos g 0 ws.length (fun e=>hss (List.eq_nil_of_length_eq_zero e))]
  have hr0:Row w g (wmixed k 0 ws):=by simpa [wmixed,wmarks] using hrow
  clear hrow hss
  go_enter Tryz.func74,Tryz.ntmps74
  go_wp2
  go_loopw [1,5] (fun x i wr=>∃ j m:Nat,j<=ws.length/\i=.int .i64 (j:Int)/\x=.int .i64 (m:Int)/\Hid (m=k+2*j)/\Row wr g (wmixed k j ws)/\w.grownBy wr (some g)) (fun _ i _=>ws.length-(intOf i).toNat)
  case atStart=>exact ⟨0,k,Nat.zero_le _,rfl,rfl,hid rfl,hr0,grown_refl _ _⟩
  case round =>
   clear hr0
   obtain ⟨j,m,hj,rfl,rfl,HM,hrow,hgr⟩:=hrel
   have HR:=hid hrow
   have HG:=hid hgr
   clear hgr
   by_cases hlt:j<ws.length
   ·have hL:=wmixed_length k j ws hj
    obtain ⟨u,hu⟩:∃ u,wr.cell? ⟨g,j*2,none⟩=some u:=⟨_,hrow.cell (j*2) _ (List.getElem?_eq_getElem (by omega))⟩
    have hf:=hrow.froz (j*2) (by omega)
    have HL:=hid hL
    have hmj:(m:Int)<=99999999:=by have:=HM.out;omega
    have hmj0:(0:Int)<(m:Int):=by have:=HM.out;omega
    have HR1:=hid (hrow.set (j*2) (by omega) (.int .i64 (m:Int)))
    clear hL hrow
    go_wp2_with (go_at_call 75;refine (mark_text' ((m:Int)+1) (m+1) (by omega) _ (by omega) (by omega)).mono ?_;rintro e w2 ⟨rfl,hb2⟩;have hr2:=HR1.out.below hb2;obtain ⟨u2,hu2⟩:∃ u,w2.cell? ⟨g,j*2+1,none⟩=some u:=⟨_,hr2.cell (j*2+1) _ (List.getElem?_eq_getElem (by rw [List.length_set,HL.out];omega))⟩;have hf2:=hr2.froz (j*2+1) (by rw [List.length_set,HL.out];omega);have HR2:=hid hr2;have HB2:=hid hb2;clear hr2 hb2)
    have hset:((wmixed k j ws).set (j*2) (.int .i64 (m:Int))).set (j*2+1) (.string (mtext (m+1)))=wmixed k (j+1) ws:=by
     rw [HM.out];exact wmixed_set k j ws hlt
    go_roundw
    case rel=>exact ⟨j+1,m+2,by omega,by go_num,by go_num,by show _=_;have:=HM.out;omega,by rw [<-hset];exact HR2.out.set (j*2+1) (by rw [List.length_set,HL.out];omega) _,grown_set (grown_trans (grown_set HG.out _ _) (grown_of_below _ HB2.out)) _ _⟩
    case measure=>simp [intOf];omega
   ·have hjl:Hid (j=ws.length):=by show _=_;omega
    clear hrow
    go_wp2
    go_ret
    refine ⟨ret_int (by rw [HM.out,hjl.out]),HG.out,.inr ⟨g,rfl,?_⟩⟩
    have:=HR.out
    rw [hjl.out] at this
    simpa [wmixed] using this
set_option maxHeartbeats 16000000 in
theorem mark_disk (a:Option Addr) (ss:List ByteArray) (c:Nat) (a':Option Addr) (ws:List (Int×ByteArray)) (c' k:Nat) (w:World) (h:OwnD w a ss a' ws) (hk:0<k) (hl:k+ss.length+2*ws.length<=100000000) :
  Calls Tryz.prog 31 #[diskV a ss.length c a' ws.length c',.int .i64 (k:Int)] w fun e w'=>e=.returned (.int .i64 ((k+ss.length+2*ws.length:Nat):Int))/\(∃ w1 w2,Below w.heap.size w w1/\w1.grownBy w2 (blk a ss.length)/\w2.grownBy w' (blk a' ws.length))/\OwnD w' a (marks k ss.length) a' (wmarks (k+ss.length) ws.length):=by
 have hb0:∀ o,Below w.heap.size w (w.alloc o):=fun o=>(Below.refl _ _).alloc (Nat.le_refl _) _
 have l1:=h.s.lt ss.length strs_ne
 have l2:=h.p.lt ws.length wcells_ne
 go_enter Tryz.func31,Tryz.ntmps31
 go_wp2_with fail
 refine (mark_strs a ss c k _ (h.s.below (hb0 _)) hk (by omega)).mono ?_
 rintro e w1 ⟨rfl,hg1,ho1⟩
 have q1:w1.cell? ⟨w.heap.size,1,none⟩=some (.slice a' ws.length c'):=(World.cell?_of_block (a:=⟨w.heap.size,1,none⟩) (hg1.block w.heap.size (by simp) (fun e=>by have:=l1 _ e.symm;omega))).trans (by go_simp)
 have hp1:OwnS w1 a' (wcells ws):=(h.p.below (hb0 _)).grown hg1 (fun g hg hne=>by
  rcases h.ne with h0 | h0 | h0
  ·rw [h0];simp
  ·subst hg;rw [blk_pos g 0 _ (ne_of_wcells hne)] at h0;cases h0
  ·subst hg;rw [blk_pos g 0 _ (ne_of_wcells hne)] at h0;exact fun e=>h0 e.symm)
 have HG1:=hid hg1
 have HO1:=hid ho1
 obtain ⟨m,HM⟩:∃ m,Hid (m=k+ss.length):=⟨_,hid rfl⟩
 rw [<-HM.out]
 clear hg1 ho1
 go_wp2_with fail
 refine (mark_wrs a' ws c' m _ hp1 (by have:=HM.out;omega) (by have:=HM.out;omega)).mono ?_
 rintro e w2 ⟨rfl,hg2,ho2⟩
 clear q1 hp1
 have HG2:=hid hg2
 have HO2:=hid ho2
 clear hg2 ho2 l1 l2
 go_wp2
 go_ret
 refine ⟨ret_int (by have:=HM.out;omega),⟨_,w1,hb0 _,HG1.out,HG2.out⟩,?_,?_,?_⟩
 ·refine HO1.out.grown HG2.out (fun g hg hne=>?_)
  have hn1:ss.length≠0:=by have:=ne_of_strs hne;rwa [marks_length] at this
  subst hg
  rcases h.ne with h0 | h0 | h0
  ·rw [blk_pos g 0 _ hn1] at h0;cases h0
  ·rw [h0];simp
  ·rwa [blk_pos g 0 _ hn1] at h0
 ·rw [<-HM.out];exact HO2.out
 ·rw [marks_length,wmarks_length];exact h.ne
end Go.Proofs.YtcoegjnjjdndjaaGreatDoor
