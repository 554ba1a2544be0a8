import Derived.Deep.RegionLaw
import Derived.Test.YthdilmkbnpmdaaaPrG50
set_option maxHeartbeats 16000000
set_option maxRecDepth 8000
set_option linter.unusedVariables false
set_option linter.unusedSimpArgs false
namespace Go.Proofs.Ythdilmkbnpmdaaa
open Go.RowKit
theorem step_call {P:Program} {ops:Array Oper} {o:Oper} {a:Act} {w:World} {K:Act->World->Prop} {Q:Exit->Act->World->Prop} {E:Prop} (hgd:o.guard=none) (f:FuncId) (args:Array Value)
  (hrun:(execOp a.eval o).run P w=.ok (.enter f args) w) {C:Ending->World->Prop} (hc:Calls P f args w C) (h:∀ e w',C e w'->∃ v,e=.returned v/\K (a.put o.dst v) w') :
  if Region.wanted o (yielded ops a.tmps)=true then Oper.wp P o a w K Q else E:=by
 have hw:Region.wanted o (yielded ops a.tmps)=true:=by simp [Region.wanted,hgd]
 rw [if_pos hw]
 unfold Oper.wp
 rw [hrun,Oper.upon_enter]
 refine hc.mono fun e w'' hh=>?_
 obtain ⟨v,rfl,hk⟩:=h e w'' hh
 exact hk
def hv (n:Int):Int:=if 8<=n/\n<=200 then (n-2) / 2 else 0
theorem halves_s (n:Int) (w:World):Calls Try.prog 54 #[.int .i64 n] w fun e w'=>e=.returned (.int .i64 (hv n))/\w'=w:=by
 by_cases h1:8<=n
 ·by_cases h2:n<=200
  ·have hh:hv n=(n-2) / 2:=by unfold hv;rw [if_pos ⟨h1,h2⟩]
   go_enter Try.func54,Try.ntmps54
   go_wp2
   go_ret
   refine ⟨?_,rfl⟩
   rw [hh]
   rfl
  ·have hh:hv n=0:=by unfold hv;rw [if_neg (fun x=>h2 x.2)]
   rw [hh]
   go_enter Try.func54,Try.ntmps54
   go_wp2
   go_ret
   exact ⟨rfl,rfl⟩
 ·have hh:hv n=0:=by unfold hv;rw [if_neg (fun x=>h1 x.1)]
  rw [hh]
  go_enter Try.func54,Try.ntmps54
  go_wp2
  go_ret
  exact ⟨rfl,rfl⟩
def storeV (W S L T H F R U O:Int) (a:Option Addr) (n c:Nat):Value:=.agg #[.int .i64 W,.int .i64 S,.int .i64 L,.int .i64 T,.int .i64 H,.int .i64 F,.int .i64 R,.int .i64 U,.int .i64 O,.slice a n c]
theorem ret_bool' {a b:Bool} (h:a=b):Ending.returned (.bool a)=.returned (.bool b):=by rw [h]
def wOk (n:Nat) (x:Int×ByteArray):Bool:=decide (0<=x.1/\x.1<(n:Int)/\(x.2.size:Int)=64)
def diskOk (ss:List ByteArray) (ws:List (Int×ByteArray)):Bool:=decide (8<=ss.length/\ss.length<=200/\ws.length<=300) && ss.all (fun s=>decide ((s.size:Int)=64)) && ws.all (wOk ss.length)
theorem diskOk_no1 {ss:List ByteArray} {ws:List (Int×ByteArray)} (h:¬ (8<=ss.length/\ss.length<=200/\ws.length<=300)):diskOk ss ws=false:=by simp [diskOk,h]
theorem diskOk_no2 {ss:List ByteArray} {ws:List (Int×ByteArray)} {s:ByteArray} (hm:s∈ss) (h:¬ (s.size:Int)=64):diskOk ss ws=false:=by
 have:ss.all (fun s=>decide ((s.size:Int)=64))=false:=List.all_eq_false.2 ⟨s,hm,by simpa using h⟩
 simp [diskOk,this]
theorem diskOk_no3 {ss:List ByteArray} {ws:List (Int×ByteArray)} {x:Int×ByteArray} (hm:x∈ws) (h:wOk ss.length x=false):diskOk ss ws=false:=by
 have:ws.all (wOk ss.length)=false:=List.all_eq_false.2 ⟨x,hm,by simp [h]⟩
 simp [diskOk,this]
theorem diskOk_yes {ss:List ByteArray} {ws:List (Int×ByteArray)} (h:8<=ss.length/\ss.length<=200/\ws.length<=300) (h1:∀ s∈ss,(s.size:Int)=64) (h2:∀ x∈ws,wOk ss.length x=true):diskOk ss ws=true:=by
 simp only [diskOk,Bool.and_eq_true,decide_eq_true_eq,List.all_eq_true]
 exact ⟨⟨h,h1⟩,h2⟩
theorem diskOk_of {ss:List ByteArray} {ws:List (Int×ByteArray)} (h:diskOk ss ws=true):(8<=ss.length/\ss.length<=200/\ws.length<=300)/\(∀ s∈ss,(s.size:Int)=64)/\∀ x∈ws,wOk ss.length x=true:=by
 simp only [diskOk,Bool.and_eq_true,decide_eq_true_eq,List.all_eq_true] at h
 exact ⟨h.1.1,h.1.2,h.2⟩
theorem wOk_in {n:Nat} {x:Int} {s:ByteArray} (h0:0<=x) (h1:x<(n:Int)):((s.size:Int) == 64)=wOk n (x,s):=by
 rw [Bool.eq_iff_iff];simp [wOk,h0,h1]
theorem can_i (n:Nat) (x:Int) (s:ByteArray) (w:World) (hs:s.size<=1048576) (hn:n<=1048576) :
  Calls Try.prog 25 #[.int .i64 (n:Int),.int .i64 x,.string s] w fun e w'=>e=.returned (.bool (wOk n (x,s)))/\w'=w:=by
 by_cases h0:0<=x
 ·by_cases h1:x<(n:Int)
  ·go_enter Try.func25,Try.ntmps25
   go_wp2
   go_ret
   exact ⟨ret_bool' (wOk_in h0 h1),rfl⟩
  ·go_enter Try.func25,Try.ntmps25
   go_wp2
   go_ret
   exact ⟨ret_bool' (by simp [wOk];omega),rfl⟩
 ·go_enter Try.func25,Try.ntmps25
  go_wp2
  go_ret
  exact ⟨ret_bool' (by simp [wOk];omega),rfl⟩
theorem can_s (a:Option Addr) (n c:Nat) (a':Option Addr) (n' c':Nat) (x:Int) (s:ByteArray) (w:World) (hs:s.size<=1048576) (hn:n<=1048576) :
  Calls Try.prog 23 #[diskV a n c a' n' c',.int .i64 x,.string s] w fun e w'=>e=.returned (.bool (wOk n (x,s)))/\Below w.heap.size w w':=by
 by_cases h0:0<=x
 ·by_cases h1:x<(n:Int)
  ·go_enter Try.func23,Try.ntmps23
   go_wp2
   go_ret
   exact ⟨ret_bool' (wOk_in h0 h1),(Below.refl _ _).alloc (Nat.le_refl _) _⟩
  ·go_enter Try.func23,Try.ntmps23
   go_wp2
   go_ret
   exact ⟨ret_bool' (by simp [wOk];omega),(Below.refl _ _).alloc (Nat.le_refl _) _⟩
 ·go_enter Try.func23,Try.ntmps23
  go_wp2
  go_ret
  exact ⟨ret_bool' (by simp [wOk];omega),(Below.refl _ _).alloc (Nat.le_refl _) _⟩
theorem dsize_i (n:Int) (w:World):Calls Try.prog 24 #[.int .i64 n] w fun e w'=>e=.returned (.bool (decide (8<=n/\n<=200)))/\w'=w:=by
 by_cases h1:8<=n
 ·by_cases h2:n<=200
  ·go_enter Try.func24,Try.ntmps24
   go_wp2
   go_ret
   exact ⟨ret_bool' (by simp [h1,h2]),rfl⟩
  ·go_enter Try.func24,Try.ntmps24
   go_wp2
   go_ret
   exact ⟨ret_bool' (by simp [h2]),rfl⟩
 ·go_enter Try.func24,Try.ntmps24
  go_wp2
  go_ret
  exact ⟨ret_bool' (by simp;omega),rfl⟩
theorem valid_i (a:Option Addr) (ss:List ByteArray) (c:Nat) (a':Option Addr) (ws:List (Int×ByteArray)) (c':Nat) (w:World) (h:Strs w a ss) (h':Wrs w a' ws) (hl:ss.length<=1048576) (hl':ws.length<=1048576) (hs:∀ s∈ss,s.size<=1048576) (hs':∀ x∈ws,x.2.size<=1048576) :
  Calls Try.prog 9 #[diskV a ss.length c a' ws.length c'] w fun e w'=>e=.returned (.bool (diskOk ss ws))/\Below w.heap.size w w':=by
 have hb0:∀ o1,Below w.heap.size w (w.alloc o1):=fun o1=>(Below.refl _ _).alloc (Nat.le_refl _) _
 obtain ⟨R,HR⟩:∃ R,Hid (R=diskOk ss ws):=⟨_,hid rfl⟩
 rw [<-HR.out]
 by_cases hn:8<=(ss.length:Int)/\(ss.length:Int)<=200
 ·have hd:decide (8<=(ss.length:Int)/\(ss.length:Int)<=200)=true:=decide_eq_true hn
  obtain ⟨hn1,hn2⟩:=hn
  by_cases hp:(ws.length:Int)<=300
  ·go_enter Try.func9,Try.ntmps9
   go_wp2_with (go_at_call 24;refine (dsize_i _ _).mono ?_;rw [hd];rintro e w' ⟨rfl,rfl⟩)
   go_loop [4,21] (fun _ i=>∃ k:Nat,k<=ss.length/\i=.int .i64 k/\Hid (∀ s∈ss.take k,(s.size:Int)=64)) (fun _ i=>ss.length-(intOf i).toNat)
   case atStart=>exact ⟨0,Nat.zero_le _,rfl,by show ∀ s∈ss.take 0,_;simp⟩
   case round =>
    obtain ⟨k,hk,rfl,HA⟩:=hrel
    by_cases hlt:k<ss.length
    ·obtain ⟨b,o,s,rfl,hc,HS⟩:=(h.below (hb0 (.cells #[.slice a ss.length c,.slice a' ws.length c'] 26))).at hlt
     have hm:Hid (s∈ss):=by show _∈_;rw [HS.out];simp [List.getD,hlt]
     by_cases h64:((s.size:Int) != 64)=true
     ·go_wp2
      go_ret
      exact ⟨ret_bool' (by rw [HR.out];exact (diskOk_no2 hm.out (by simpa using h64)).symm),hb0 _⟩
     ·have h64':((s.size:Int) != 64)=false:=by simpa using h64
      have hs64:Hid ((s.size:Int)=64):=by show _=_;simpa using h64
      clear h64
      go_wp2
      go_round
      case rel=>exact ⟨k+1,by omega,by go_num,fun x hx=>by
             rw [List.take_succ_eq_append_getElem hlt] at hx
             rcases List.mem_append.1 hx with hx | hx
             ·exact HA.out x hx
             ·simp at hx;have e:=HS.out;simp [List.getD,hlt] at e;rw [hx,<-e];exact hs64.out⟩
      case measure=>simp [intOf];omega
    ·go_wp2
     have hall:∀ s∈ss,(s.size:Int)=64:=by have:=HA.out;rwa [List.take_of_length_le (by omega)] at this
     have HALL:=hid hall
     clear hall HA
     go_loopw [6,32] (fun _ i wr=>∃ k:Nat,k<=ws.length/\i=.int .i64 k/\Hid (∀ x∈ws.take k,wOk ss.length x=true)/\Below (w.heap.size+1) (w.alloc (.cells #[.slice a ss.length c,.slice a' ws.length c'] 26)) wr) (fun _ i _=>ws.length-(intOf i).toNat)
     case atStart=>exact ⟨0,Nat.zero_le _,rfl,by show ∀ s∈ws.take 0,_;simp,Below.refl _ _⟩
     case round =>
      obtain ⟨k2,hk2,rfl,HA2,hbel⟩:=hrel
      have q0:wr.cell? ⟨w.heap.size,0,none⟩=some (.slice a ss.length c):=(hbel.cell (p:=⟨w.heap.size,0,none⟩) (by show w.heap.size<_;omega)).trans (by go_simp)
      have q1:wr.cell? ⟨w.heap.size,1,none⟩=some (.slice a' ws.length c'):=(hbel.cell (p:=⟨w.heap.size,1,none⟩) (by show w.heap.size<_;omega)).trans (by go_simp)
      have hbw:Below w.heap.size w wr:=(hb0 _).trans (hbel.mono (by omega))
      have HBL:=hid hbel
      have HBW:=hid hbw
      by_cases hlt2:k2<ws.length
      ·obtain ⟨b,o,n,s,rfl,hc,hc2,HS⟩:=(h'.below hbw).at hlt2
       have hm:Hid ((n,s)∈ws):=by show _∈_;rw [HS.out];simp [List.getD,hlt2]
       have hsz:s.size<=1048576:=hs' (n,s) hm.out
       have hwl:w.heap.size+1<=wr.heap.size:=by have:=hbel.size;simpa using this
       have hwl':w.heap.size<wr.heap.size:=by omega
       clear hbel hbw
       cases hok:wOk ss.length (n,s) with
       | false =>
        go_wp2_with (go_at_call 25;refine (can_i ss.length n s _ hsz (by omega)).mono ?_;rw [hok];rintro e w' ⟨rfl,rfl⟩)
        go_ret
        exact ⟨ret_bool' (by rw [HR.out];exact (diskOk_no3 hm.out hok).symm),HBW.out.alloc HBW.out.size _⟩
       | true =>
        go_wp2_with (go_at_call 25;refine (can_i ss.length n s _ hsz (by omega)).mono ?_;rw [hok];rintro e w' ⟨rfl,rfl⟩)
        go_roundw
        case rel=>exact ⟨k2+1,by omega,by go_num,fun x hx=>by
               rw [List.take_succ_eq_append_getElem hlt2] at hx
               rcases List.mem_append.1 hx with hx | hx
               ·exact HA2.out x hx
               ·simp at hx;have e:=HS.out;simp [List.getD,hlt2] at e;rw [hx,<-e];exact hok,HBL.out.alloc (by omega) _⟩
        case measure=>simp [intOf];omega
      ·clear hbel hbw
       go_wp2
       go_ret
       refine ⟨ret_bool' ?_,HBW.out⟩
       rw [HR.out]
       have h2:=HA2.out
       rw [List.take_of_length_le (by omega)] at h2
       exact (diskOk_yes (by omega) HALL.out h2).symm
  ·go_enter Try.func9,Try.ntmps9
   go_wp2_with (go_at_call 24;refine (dsize_i _ _).mono ?_;rw [hd];rintro e w' ⟨rfl,rfl⟩)
   go_ret
   exact ⟨ret_bool' (by rw [HR.out];exact (diskOk_no1 (by omega)).symm),hb0 _⟩
 ·have hd:decide (8<=(ss.length:Int)/\(ss.length:Int)<=200)=false:=decide_eq_false hn
  go_enter Try.func9,Try.ntmps9
  go_wp2_with (go_at_call 24;refine (dsize_i _ _).mono ?_;rw [hd];rintro e w' ⟨rfl,rfl⟩)
  go_ret
  exact ⟨ret_bool' (by rw [HR.out];exact (diskOk_no1 (by omega)).symm),hb0 _⟩
theorem valid_s (a:Option Addr) (ss:List ByteArray) (c:Nat) (a':Option Addr) (ws:List (Int×ByteArray)) (c':Nat) (w:World) (h:Strs w a ss) (h':Wrs w a' ws) (hl:ss.length<=1048576) (hl':ws.length<=1048576) (hs:∀ s∈ss,s.size<=1048576) (hs':∀ x∈ws,x.2.size<=1048576) :
  Calls Try.prog 8 #[diskV a ss.length c a' ws.length c'] w fun e w'=>e=.returned (.bool (diskOk ss ws))/\Below w.heap.size w w':=by
 have hb0:∀ o1,Below w.heap.size w (w.alloc o1):=fun o1=>(Below.refl _ _).alloc (Nat.le_refl _) _
 obtain ⟨R,HR⟩:∃ R,Hid (R=diskOk ss ws):=⟨_,hid rfl⟩
 rw [<-HR.out]
 by_cases hn1:8<=(ss.length:Int)
 ·by_cases hn2:(ss.length:Int)<=200
  ·by_cases hp:(ws.length:Int)<=300
   ·go_enter Try.func8,Try.ntmps8
    go_wp2
    go_loop [3] (fun i=>∃ k:Nat,k<=ss.length/\i=.int .i64 k/\Hid (∀ s∈ss.take k,(s.size:Int)=64)) (fun i=>ss.length-(intOf i).toNat)
    case atStart=>exact ⟨0,Nat.zero_le _,rfl,by show ∀ s∈ss.take 0,_;simp⟩
    case round =>
     obtain ⟨k,hk,rfl,HA⟩:=hrel
     by_cases hlt:k<ss.length
     ·obtain ⟨b,o,s,rfl,hc,HS⟩:=(h.below (hb0 (.cells #[.slice a ss.length c,.slice a' ws.length c'] 26))).at hlt
      have hm:Hid (s∈ss):=by show _∈_;rw [HS.out];simp [List.getD,hlt]
      by_cases h64:((s.size:Int) != 64)=true
      ·go_wp2
       go_ret
       exact ⟨ret_bool' (by rw [HR.out];exact (diskOk_no2 hm.out (by simpa using h64)).symm),hb0 _⟩
      ·have h64':((s.size:Int) != 64)=false:=by simpa using h64
       have hs64:Hid ((s.size:Int)=64):=by show _=_;simpa using h64
       clear h64
       go_wp2
       go_round
       case rel=>exact ⟨k+1,by omega,by go_num,fun x hx=>by
              rw [List.take_succ_eq_append_getElem hlt] at hx
              rcases List.mem_append.1 hx with hx | hx
              ·exact HA.out x hx
              ·simp at hx;have e:=HS.out;simp [List.getD,hlt] at e;rw [hx,<-e];exact hs64.out⟩
       case measure=>simp [intOf];omega
     ·go_wp2
      have hall:∀ s∈ss,(s.size:Int)=64:=by have:=HA.out;rwa [List.take_of_length_le (by omega)] at this
      have HALL:=hid hall
      clear hall HA
      go_loopw [4] (fun i wr=>∃ k:Nat,k<=ws.length/\i=.int .i64 k/\Hid (∀ x∈ws.take k,wOk ss.length x=true)/\Below (w.heap.size+1) (w.alloc (.cells #[.slice a ss.length c,.slice a' ws.length c'] 26)) wr) (fun i _=>ws.length-(intOf i).toNat)
      case atStart=>exact ⟨0,Nat.zero_le _,rfl,by show ∀ s∈ws.take 0,_;simp,Below.refl _ _⟩
      case round =>
       obtain ⟨k2,hk2,rfl,HA2,hbel⟩:=hrel
       have q0:wr.cell? ⟨w.heap.size,0,none⟩=some (.slice a ss.length c):=(hbel.cell (p:=⟨w.heap.size,0,none⟩) (by show w.heap.size<_;omega)).trans (by go_simp)
       have q1:wr.cell? ⟨w.heap.size,1,none⟩=some (.slice a' ws.length c'):=(hbel.cell (p:=⟨w.heap.size,1,none⟩) (by show w.heap.size<_;omega)).trans (by go_simp)
       have hbw:Below w.heap.size w wr:=(hb0 _).trans (hbel.mono (by omega))
       have HBL:=hid hbel
       have HBW:=hid hbw
       by_cases hlt2:k2<ws.length
       ·obtain ⟨b,o,n,s,rfl,hc,hc2,HS⟩:=(h'.below hbw).at hlt2
        have hm:Hid ((n,s)∈ws):=by show _∈_;rw [HS.out];simp [List.getD,hlt2]
        have hsz:s.size<=1048576:=hs' (n,s) hm.out
        have hwl:w.heap.size+1<=wr.heap.size:=by have:=hbel.size;simpa using this
        have hwl':w.heap.size<wr.heap.size:=by omega
        have lt1:b<wr.heap.size:=by have:=World.block_lt_of_cell? wr _ hc;simpa using this
        have hk1:(k2:Int)<(ws.length:Int):=by omega
        have hk0:(0:Int)<=(k2:Int):=by omega
        have HQ:=hid (And.intro q0 (And.intro q1 (And.intro hc hc2)))
        go_wp2_with fail
        clear hbel hbw q0 q1 hc hc2
        go_region_held3 (fun w'=>w'.cell? ⟨w.heap.size,0,none⟩=some (.slice a ss.length c)/\w'.cell? ⟨w.heap.size,1,none⟩=some (.slice (some ⟨b,o,none⟩) ws.length c')/\w'.cell? ⟨b,o+k2*2,none⟩=some (.int .i64 n)/\w'.cell? ⟨b,o+k2*2+1,none⟩=some (.string s))
         (first | assumption | exact HQ.out | exact ⟨(hb2.cell (p:=⟨_,_,none⟩) hwl').trans HQ.out.1,(hb2.cell (p:=⟨_,_,none⟩) hwl').trans HQ.out.2.1,(hb2.cell (p:=⟨b,_,none⟩) lt1).trans HQ.out.2.2.1,(hb2.cell (p:=⟨b,_,none⟩) lt1).trans HQ.out.2.2.2⟩)
         (first | (go_at_call 23;refine (can_s a ss.length c (some ⟨b,o,none⟩) ws.length c' n s _ hsz (by omega)).mono ?_;rintro e w2 ⟨rfl,hb2⟩))
        cases hok:wOk ss.length (n,s) with
        | false =>
         go_wp2
         go_ret
         exact ⟨ret_bool' (by rw [HR.out];exact (diskOk_no3 hm.out hok).symm),HBW.out.drew.trans (hb2.mono HBW.out.size)⟩
        | true =>
         go_wp2
         go_roundw
         case rel=>exact ⟨k2+1,by omega,by go_num,fun x hx=>by
                rw [List.take_succ_eq_append_getElem hlt2] at hx
                rcases List.mem_append.1 hx with hx | hx
                ·exact HA2.out x hx
                ·simp at hx;have e:=HS.out;simp [List.getD,hlt2] at e;rw [hx,<-e];exact hok,HBL.out.drew.trans (hb2.mono hwl)⟩
         case measure=>simp [intOf];omega
       ·clear hbel hbw
        go_wp2
        go_ret
        refine ⟨ret_bool' ?_,HBW.out⟩
        rw [HR.out]
        have h2:=HA2.out
        rw [List.take_of_length_le (by omega)] at h2
        exact (diskOk_yes (by omega) HALL.out h2).symm
   ·go_enter Try.func8,Try.ntmps8
    go_wp2
    go_ret
    exact ⟨ret_bool' (by rw [HR.out];exact (diskOk_no1 (by omega)).symm),hb0 _⟩
  ·go_enter Try.func8,Try.ntmps8
   go_wp2
   go_ret
   exact ⟨ret_bool' (by rw [HR.out];exact (diskOk_no1 (by omega)).symm),hb0 _⟩
 ·go_enter Try.func8,Try.ntmps8
  go_wp2
  go_ret
  exact ⟨ret_bool' (by rw [HR.out];exact (diskOk_no1 (by omega)).symm),hb0 _⟩
structure Cx (w:World) (B:Nat) (v0 v1:Value):Prop where
 lt:B<w.heap.size
 c0:w.cell? ⟨B,0,none⟩=some v0
 c1:w.cell? ⟨B,1,none⟩=some v1
theorem Cx.below {w w':World} {B:Nat} {v0 v1:Value} (h:Cx w B v0 v1) (hb:Below w.heap.size w w'):Cx w' B v0 v1 :=
 ⟨Nat.lt_of_lt_of_le h.lt hb.size,(hb.cell (p:=⟨_,0,none⟩) h.lt).trans h.c0,(hb.cell (p:=⟨_,1,none⟩) h.lt).trans h.c1⟩
theorem Cx.grown {w w':World} {B:Nat} {v0 v1:Value} {r:Option Nat} (h:Cx w B v0 v1) (hg:w.grownBy w' r) (hn:some B≠r):Cx w' B v0 v1 :=
 ⟨Nat.lt_of_lt_of_le h.lt hg.size,(World.cell?_of_block (a:=⟨B,0,none⟩) (hg.block B h.lt hn)).trans h.c0,(World.cell?_of_block (a:=⟨B,1,none⟩) (hg.block B h.lt hn)).trans h.c1⟩
theorem Cx.drew {w:World} {B:Nat} {v0 v1:Value} (h:Cx w B v0 v1):Cx w.drew B v0 v1:=⟨h.lt,h.c0,h.c1⟩
theorem Cx.new (w:World) (v0 v1:Value) (t:TypeId):Cx (w.alloc (.cells #[v0,v1] t)) w.heap.size v0 v1 :=
 ⟨by simp,by rw [World.cell?_alloc_at _ _ _ _ rfl];rfl,by rw [World.cell?_alloc_at _ _ _ _ rfl];rfl⟩
theorem below_new (w:World) (o:Obj):Below w.heap.size w (w.alloc o):=(Below.refl _ _).alloc (Nat.le_refl _) _
theorem Below.then {B:Nat} {a b c:World} (h:Below B a b) (hB:B<=a.heap.size) (k:Below b.heap.size b c):Below B a c:=h.trans (k.mono (Nat.le_trans hB h.size))
end Go.Proofs.Ythdilmkbnpmdaaa
