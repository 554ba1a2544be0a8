import Derived.WalkKit
import Derived.WalkSpells
import Derived.WalkLawsBesides
import Derived.Outline
import Derived.BigQuiet
import Derived.Deep.QuietTactic
import Derived.Deep.RegionHeld3
import Derived.Test.YtcoegjnjjdndjaaGreatDoorProg
import Derived.Test.YtcoegjnjjdndjaaGreatDoorPrG44
import Derived.Deep.RegionLaw
import Derived.Test.YtcoegjnjjdndjaaGreatDoorPrG32
import Derived.Test.YtcoegjnjjdndjaaGreatDoorPrG49
import Derived.Deep.Onto
import Derived.Test.YtcoegjnjjdndjaaGreatDoorPrG48
import Derived.Deep.AppendSrc
set_option maxHeartbeats 16000000
set_option maxRecDepth 8000
set_option linter.unusedVariables false
set_option linter.unusedSimpArgs false
namespace Go.Proofs.YtcoegjnjjdndjaaGreatDoor
open Go.RowKit
set_option maxHeartbeats 16000000 in
theorem sz_strs (a:Option Addr) (ss:List ByteArray) (c:Nat) (left:Int) (w:World) (h:Strs w a ss) (h0:0<=left) (h1:left<=1048576) (hl:ss.length<=maxLen) (hs:∀ s∈ss,s.size<=maxLen) :
  Calls Tryz.prog 16 #[.slice a ss.length c,.int .i64 left] w fun e w'=>e=.returned (.int .i64 (szL (ss.length::ss.map ByteArray.size) left))/\w'=w:=by
 unfold maxLen at hl
 by_cases hn:left-(ss.length:Int)<0
 ·have HR:=hid (szL_cons_lt (ss.map ByteArray.size) hn)
  go_enter Tryz.func16,Tryz.ntmps16
  go_wp2
  go_ret
  exact ⟨ret_int HR.out.symm,rfl⟩
 ·have HR:=hid (szL_cons_ge (ss.map ByteArray.size) hn)
  obtain ⟨R,HE⟩:∃ R,Hid (R=szL (ss.length::ss.map ByteArray.size) left):=⟨_,hid rfl⟩
  rw [<-HE.out]
  go_enter Tryz.func16,Tryz.ntmps16
  go_wp2
  go_loop [1,5] (fun x i=>∃ (k:Nat) (y:Int),k<=ss.length/\i=.int .i64 k/\x=.int .i64 y/\0<=y/\y<=1048576/\Hid (szL ((ss.map ByteArray.size).drop k) y=R)) (fun _ i=>ss.length-(intOf i).toNat)
  case atStart=>exact ⟨0,_,Nat.zero_le _,rfl,rfl,by omega,by omega,by show _=_;rw [HE.out,HR.out,List.drop_zero]⟩
  case round =>
   obtain ⟨k,y,hk,rfl,rfl,hy0,hy1,HZ⟩:=hrel
   by_cases hlt:k<ss.length
   ·obtain ⟨b,o,s,rfl,hc,HS⟩:=h.at hlt
    have hsz:s.size<=9223372036854775807:=by
     have:=hs s (by rw [HS.out];simp [List.getD,hlt])
     unfold maxLen at this;exact this
    have HD:=hid (drop_at (ss.map ByteArray.size) k 0 (by simpa using hlt))
    have HG:Hid ((ss.map ByteArray.size).getD k 0=s.size):=by show _=_;rw [HS.out];simp [List.getD,hlt]
    by_cases hy:y-(s.size:Int)<0
    ·go_wp2
     go_ret
     refine ⟨ret_int ?_,rfl⟩
     rw [<-HZ.out,HD.out,HG.out,szL_cons_lt _ hy]
    ·go_wp2
     go_round
     case rel=>exact ⟨k+1,_,by omega,by go_num,rfl,by omega,by omega,by show _=_;rw [<-HZ.out,HD.out,HG.out,szL_cons_ge _ hy]⟩
     case measure=>simp [intOf];omega
   ·go_wp2
    go_ret
    refine ⟨ret_int ?_,rfl⟩
    rw [<-HZ.out,List.drop_of_length_le (by simp;omega)]
    rfl
set_option maxHeartbeats 16000000 in
theorem sz_wr (n:Int) (s:ByteArray) (y:Int) (w:World) (h0:0<=y) (h1:y<=1048576) (hs:s.size<=9223372036854775807) :
  Calls Tryz.prog 76 #[.agg #[.int .i64 n,.string s],.int .i64 y] w fun e w'=>e=.returned (.int .i64 (if y-(s.size:Int)<0 then -1 else y-(s.size:Int)))/\Below w.heap.size w w':=by
 by_cases hy:y-(s.size:Int)<0
 ·go_enter Tryz.func76,Tryz.ntmps76
  go_wp2
  go_ret
  exact ⟨rfl,(Below.refl _ _).alloc (Nat.le_refl _) _⟩
 ·go_enter Tryz.func76,Tryz.ntmps76
  go_wp2
  go_ret
  exact ⟨rfl,(Below.refl _ _).alloc (Nat.le_refl _) _⟩
set_option maxHeartbeats 16000000 in
theorem sz_wrs (a:Option Addr) (ws:List (Int×ByteArray)) (c:Nat) (left:Int) (w:World) (h:Wrs w a ws) (h0:0<=left) (h1:left<=1048576) (hl:ws.length<=maxLen) (hs:∀ s∈ws,s.2.size<=maxLen) :
  Calls Tryz.prog 37 #[.slice a ws.length c,.int .i64 left] w fun e w'=>e=.returned (.int .i64 (szL (ws.length::ws.map fun x=>x.2.size) left))/\Below w.heap.size w w':=by
 unfold maxLen at hl
 by_cases hn:left-(ws.length:Int)<0
 ·have HR:=hid (szL_cons_lt (ws.map fun x=>x.2.size) hn)
  go_enter Tryz.func37,Tryz.ntmps37
  go_wp2
  go_ret
  exact ⟨ret_int HR.out.symm,Below.refl _ _⟩
 ·have HR:=hid (szL_cons_ge (ws.map fun x=>x.2.size) hn)
  obtain ⟨R,HE⟩:∃ R,Hid (R=szL (ws.length::ws.map fun x=>x.2.size) left):=⟨_,hid rfl⟩
  rw [<-HE.out]
  go_enter Tryz.func37,Tryz.ntmps37
  go_wp2
  go_loopw [1,5] (fun x i wr=>∃ (k:Nat) (y:Int),k<=ws.length/\i=.int .i64 k/\x=.int .i64 y/\0<=y/\y<=1048576/\Hid (szL ((ws.map fun x=>x.2.size).drop k) y=R)/\Below w.heap.size w wr) (fun _ i _=>ws.length-(intOf i).toNat)
  case atStart=>exact ⟨0,_,Nat.zero_le _,rfl,rfl,by omega,by omega,by show _=_;rw [HE.out,HR.out,List.drop_zero],Below.refl _ _⟩
  case round =>
   obtain ⟨k,y,hk,rfl,rfl,hy0,hy1,HZ,hbel⟩:=hrel
   by_cases hlt:k<ws.length
   ·obtain ⟨b,o,n,s,rfl,hc,hc2,HS⟩:=(h.below hbel).at hlt
    have hsz:s.size<=9223372036854775807:=by
     have:=hs (n,s) (by rw [HS.out];simp [List.getD,hlt])
     unfold maxLen at this;exact this
    have HD:=hid (drop_at (ws.map fun x=>x.2.size) k 0 (by simpa using hlt))
    have HG:Hid ((ws.map fun x=>x.2.size).getD k 0=s.size):=by
     show _=_
     have e:=HS.out
     simp only [List.getD,List.getElem?_map]
     simp only [List.getD] at e
     rw [List.getElem?_eq_getElem hlt] at e ⊢
     simp only [Option.getD_some] at e
     simp [<-e]
    by_cases hy:y-(s.size:Int)<0
    ·have hneg:(-1:Int)<0:=by omega
     go_wp2_with (go_at_call 76;refine (sz_wr n s y _ hy0 hy1 hsz).mono ?_;rw [if_pos hy];rintro e w2 ⟨rfl,hb2⟩)
     go_ret
     refine ⟨ret_int ?_,hbel.trans (hb2.mono hbel.size)⟩
     rw [<-HZ.out,HD.out,HG.out,szL_cons_lt _ hy]
    ·have hy2:0<=y-(s.size:Int):=by omega
     go_wp2_with (go_at_call 76;refine (sz_wr n s y _ hy0 hy1 hsz).mono ?_;rw [if_neg hy];rintro e w2 ⟨rfl,hb2⟩)
     go_roundw
     case rel=>exact ⟨k+1,_,by omega,by go_num,rfl,by omega,by omega,by show _=_;rw [<-HZ.out,HD.out,HG.out,szL_cons_ge _ (by omega)],hbel.trans (hb2.mono hbel.size)⟩
     case measure=>simp [intOf];omega
   ·go_wp2
    go_ret
    refine ⟨ret_int ?_,hbel⟩
    rw [<-HZ.out,List.drop_of_length_le (by simp;omega)]
    rfl
@[reducible] def diskV (a:Option Addr) (n c:Nat) (a':Option Addr) (n' c':Nat):Value:=.agg #[.slice a n c,.slice a' n' c']
def szs (ss:List ByteArray) (ws:List (Int×ByteArray)):List Nat:=(ss.length::ss.map ByteArray.size)++(ws.length::ws.map fun x=>x.2.size)
set_option maxHeartbeats 16000000 in
theorem sz_disk (a:Option Addr) (ss:List ByteArray) (c:Nat) (a':Option Addr) (ws:List (Int×ByteArray)) (c':Nat) (w:World) (h:Strs w a ss) (h':Wrs w a' ws)
  (hl:ss.length<=maxLen) (hs:∀ s∈ss,s.size<=maxLen) (hl':ws.length<=maxLen) (hs':∀ s∈ws,s.2.size<=maxLen) :
  Calls Tryz.prog 13 #[diskV a ss.length c a' ws.length c',.int .i64 1048576] w fun e w'=>e=.returned (.int .i64 (szL (szs ss ws) 1048576))/\Below w.heap.size w w':=by
 have hb0:∀ o,Below w.heap.size w (w.alloc o):=fun o=>(Below.refl _ _).alloc (Nat.le_refl _) _
 have hbd:=szL_bd (ss.length::ss.map ByteArray.size) 1048576 (by omega)
 have hno:=szL_append_no (ss.length::ss.map ByteArray.size) (ws.length::ws.map fun x=>x.2.size) 1048576 (by omega)
 have hyes:=szL_append_yes (ss.length::ss.map ByteArray.size) (ws.length::ws.map fun x=>x.2.size) 1048576 (by omega)
 obtain ⟨x,HX⟩:∃ x,Hid (x=szL (ss.length::ss.map ByteArray.size) 1048576):=⟨_,hid rfl⟩
 obtain ⟨R,HR⟩:∃ R,Hid (R=szL (szs ss ws) 1048576):=⟨_,hid rfl⟩
 rw [<-HR.out]
 unfold szs at HR
 rw [<-HX.out] at hbd hno hyes
 by_cases hx:x<0
 ·have hRm:R=-1:=by rw [HR.out,hno hx]
  have hx1:x=-1:=by omega
  clear hno hyes hbd
  have HRm:=hid hRm
  have HX1:=hid hx1
  clear hRm hx1
  go_enter Tryz.func13,Tryz.ntmps13
  go_wp2_with fail
  refine (sz_strs a ss c 1048576 _ (h.below (hb0 _)) (by omega) (by omega) hl hs).mono ?_
  rw [<-HX.out]
  rintro e w1 ⟨rfl,rfl⟩
  go_wp2
  go_ret
  exact ⟨ret_int HRm.out.symm,hb0 _⟩
 ·have HRm:=hid (HR.out.trans (hyes (by omega)))
  have hx0:0<=x:=by omega
  have hx1:x<=1048576:=by omega
  clear hno hyes hbd hx
  have hbd2:=szL_bd (ws.length::ws.map fun x=>x.2.size) x hx0
  rw [<-HRm.out] at hbd2
  go_enter Tryz.func13,Tryz.ntmps13
  go_wp2_with fail
  refine (sz_strs a ss c 1048576 _ (h.below (hb0 _)) (by omega) (by omega) hl hs).mono ?_
  rw [<-HX.out]
  rintro e w1 ⟨rfl,rfl⟩
  go_wp2_with fail
  refine (sz_wrs a' ws c' x _ (h'.below (hb0 _)) hx0 hx1 hl' hs').mono ?_
  rw [<-HRm.out]
  rintro e w1 ⟨rfl,hb1⟩
  have hb2:=(hb0 _).trans (hb1.mono (by simp))
  clear hb1
  by_cases hR:R<0
  ·have hR1:Hid (R=-1):=by show R=-1;omega
   clear hbd2
   go_wp2
   go_ret
   exact ⟨ret_int hR1.out.symm,hb2⟩
  ·clear hbd2
   go_wp2
   go_ret
   exact ⟨rfl,hb2⟩
theorem infoStr:(Tryz.prog.info? 9).map (fun i=>(i.zero,i.size,i.bytes))=some (some (.string ByteArray.empty),1,16):=by kernel_rfl
theorem infoWr:(Tryz.prog.info? 121).map (fun i=>(i.zero,i.size,i.bytes))=some (some (.agg #[.int .i64 0,.string ByteArray.empty]),2,24):=by kernel_rfl
set_option maxHeartbeats 16000000 in
theorem to_strs (a:Option Addr) (ss:List ByteArray) (c:Nat) (w:World) (h:Strs w a ss) (hl:ss.length<=1048576) :
  Calls Tryz.prog 23 #[.slice a ss.length c] w fun e w'=>∃ g,e=.returned (.slice (some ⟨g,0,none⟩) ss.length ss.length)/\w.heap.size<=g/\Row w' g (ss.map Value.string)/\Below w.heap.size w w':=by
 go_enter Tryz.func23,Tryz.ntmps23
 go_wp2_with (at_make;refine wpList_make_new rfl _ _ 22 rfl 9 _ 1 16 Tryz.underlying22 infoStr ss.length rfl rfl (by omega) (by omega) ?_;intro wx hrow hbx hsx;rw [made_strs] at hrow)
 have hr0:Row wx w.heap.size (upTo ss 0):=by simpa [upTo] using hrow
 clear hrow
 go_loopw [4] (fun i wr=>∃ k:Nat,k<=ss.length/\i=.int .i64 k/\Row wr w.heap.size (upTo ss k)/\Below w.heap.size w wr) (fun i _=>ss.length-(intOf i).toNat)
 case atStart=>exact ⟨0,Nat.zero_le _,rfl,hr0,hbx⟩
 case round =>
  obtain ⟨k,hk,rfl,hrow,hbel⟩:=hrel
  by_cases hlt:k<ss.length
  ·obtain ⟨b,o,s,rfl,hc,HS⟩:=(h.below hbel).at hlt
   have hlu:=upTo_length ss k hk
   obtain ⟨u,hu⟩:∃ u,wr.cell? ⟨w.heap.size,k,none⟩=some u:=⟨_,hrow.cell k _ (List.getElem?_eq_getElem (by omega))⟩
   have hf:=hrow.froz k (by omega)
   have HR:=hid (hrow.set k (by omega) (.string s))
   have HU:Hid ((upTo ss k).set k (.string s)=upTo ss (k+1)):=by show _=_;rw [HS.out];exact upTo_set ss k hlt
   clear hrow hlu
   go_wp2
   go_roundw
   case rel=>exact ⟨k+1,by omega,by go_num,by rw [<-HU.out];exact HR.out,hbel.setCell (Nat.le_refl _) _⟩
   case measure=>simp [intOf];omega
  ·go_wp2
   go_ret
   exact ⟨w.heap.size,rfl,Nat.le_refl _,by rw [<-upTo_all ss k (by omega)];exact hrow,hbel⟩
theorem bcell {W w1:World} (hb:Below W.heap.size W w1):(∀ b o,b<W.heap.size->w1.cell? ⟨b,o,none⟩=W.cell? ⟨b,o,none⟩)/\(∀ b o,b<W.heap.size->w1.frozen? ⟨b,o,none⟩=W.frozen? ⟨b,o,none⟩) :=
 ⟨fun b o h=>hb.cell (p:=⟨b,o,none⟩) h,fun b o h=>hb.frozen (p:=⟨b,o,none⟩) h⟩
set_option maxHeartbeats 16000000 in
theorem to_wr (n:Int) (s:ByteArray) (w:World) :
  Calls Tryz.prog 95 #[.agg #[.int .i64 n,.string s]] w fun e w'=>e=.returned (.agg #[.int .i64 n,.string s])/\Below w.heap.size w w':=by
 go_enter Tryz.func95,Tryz.ntmps95
 go_wp2
 exact bodyPost_ret (v:=.agg #[.int .i64 n,.string s]) (by simp [results,Tryz.results95,go_sem]) rfl ⟨rfl,(((Below.refl _ _).alloc (Nat.le_refl _) _).alloc (by simp) _).alloc (by simp;omega) _⟩
set_option maxHeartbeats 16000000 in
theorem to_wrs (a:Option Addr) (ws:List (Int×ByteArray)) (c:Nat) (w:World) (h:Wrs w a ws) (hl:ws.length<=1048576) :
  Calls Tryz.prog 54 #[.slice a ws.length c] w fun e w'=>∃ g,e=.returned (.slice (some ⟨g,0,none⟩) ws.length ws.length)/\w.heap.size<=g/\Row w' g (wcells ws)/\Below w.heap.size w w':=by
 go_enter Tryz.func54,Tryz.ntmps54
 go_wp2_with (at_make;refine wpList_make_new rfl _ _ 42 rfl 121 _ 2 24 Tryz.underlying42 infoWr ws.length rfl rfl (by omega) (by omega) ?_;intro wx hrow hbx hsx;rw [made_wrs] at hrow)
 have hr0:Row wx w.heap.size (wupTo ws 0):=by simpa [wupTo,wcells_nil] using hrow
 clear hrow
 go_loopw [4] (fun i wr=>∃ k:Nat,k<=ws.length/\i=.int .i64 k/\Row wr w.heap.size (wupTo ws k)/\Below w.heap.size w wr) (fun i _=>ws.length-(intOf i).toNat)
 case atStart=>exact ⟨0,Nat.zero_le _,rfl,hr0,hbx⟩
 case round =>
  obtain ⟨k,hk,rfl,hrow,hbel⟩:=hrel
  by_cases hlt:k<ws.length
  ·obtain ⟨b,o,n,s,rfl,hc,hc2,HS⟩:=(h.below hbel).at hlt
   have HB:=hid hbel
   have HR:=hid hrow
   clear hrow hbel
   go_wp2_with (go_at_call 95;refine (to_wr n s _).mono ?_;rintro e w2 ⟨rfl,hb2⟩;have hr2:=HR.out.below hb2;have hl2:=wupTo_length ws k hk;obtain ⟨u,hu⟩:∃ u,w2.cell? ⟨w.heap.size,k*2,none⟩=some u:=⟨_,hr2.cell (k*2) _ (List.getElem?_eq_getElem (by omega))⟩;obtain ⟨u',hu'⟩:∃ u',w2.cell? ⟨w.heap.size,k*2+1,none⟩=some u':=⟨_,hr2.cell (k*2+1) _ (List.getElem?_eq_getElem (by omega))⟩;have hf:=hr2.froz (k*2) (by omega);have hf':=hr2.froz (k*2+1) (by omega);have HR2:=hid hr2;have HL2:=hid hl2;clear hr2 hl2)
   have hrs:=(HR2.out.set (k*2) (by rw [HL2.out];omega) (.int .i64 n)).set (k*2+1) (by rw [List.length_set,HL2.out];omega) (.string s)
   have hus:((wupTo ws k).set (k*2) (.int .i64 n)).set (k*2+1) (.string s)=wupTo ws (k+1):=by
    have e:=HS.out
    rw [show n=(ws.getD k (0,ByteArray.empty)).1 by rw [<-e],show s=(ws.getD k (0,ByteArray.empty)).2 by rw [<-e]]
    exact wupTo_set ws k hlt
   rw [hus] at hrs
   go_roundw
   case rel=>exact ⟨k+1,by omega,by go_num,hrs,((HB.out.trans (hb2.mono HB.out.size)).setCell (Nat.le_refl _) _).setCell (Nat.le_refl _) _⟩
   case measure=>simp [intOf];omega
  ·go_wp2
   go_ret
   exact ⟨w.heap.size,rfl,Nat.le_refl _,by rw [<-wupTo_all ws k (by omega)];exact hrow,hbel⟩
set_option maxHeartbeats 16000000 in
theorem to_disk (a:Option Addr) (ss:List ByteArray) (c:Nat) (a':Option Addr) (ws:List (Int×ByteArray)) (c':Nat) (w:World) (h:Strs w a ss) (h':Wrs w a' ws) (hl:ss.length<=1048576) (hl':ws.length<=1048576) :
  Calls Tryz.prog 20 #[diskV a ss.length c a' ws.length c'] w fun e w'=>∃ g g',e=.returned (diskV (some ⟨g,0,none⟩) ss.length ss.length (some ⟨g',0,none⟩) ws.length ws.length)/\w.heap.size<=g/\w.heap.size<=g'/\g≠g'/\Row w' g (ss.map Value.string)/\Row w' g' (wcells ws)/\Below w.heap.size w w':=by
 have hb0:∀ o1 o2 o3,Below w.heap.size w (((w.alloc o1).alloc o2).alloc o3):=fun o1 o2 o3=>(((Below.refl _ _).alloc (Nat.le_refl _) _).alloc (by simp) _).alloc (by simp;omega) _
 go_enter Tryz.func20,Tryz.ntmps20
 go_wp2_with fail
 refine (to_strs a ss c _ (h.below (hb0 _ _ _)) hl).mono ?_
 rintro e w1 ⟨g,rfl,hg,hr1,hb1⟩
 have hB1:=(hb0 _ _ _).trans (hb1.mono (by simp;omega))
 have hs1:=hb1.size
 obtain ⟨q1,q2⟩:=bcell hb1
 simp only [World.size_alloc] at hg hs1
 have HB1:=hid hb1
 have HR1:=hid hr1
 have HBB:=hid hB1
 clear hb1 hr1 hB1
 go_wp2_with fail
 have hBW:=HBB.out.setCell (p:=⟨w.heap.size+1+1,0,none⟩) (by show w.heap.size<=w.heap.size+1+1;omega) (Value.slice (some ⟨g,0,none⟩) ss.length ss.length)
 have HRW:=hid (HR1.out.other ⟨w.heap.size+1+1,0,none⟩ (by show w.heap.size+1+1≠g;omega) (Value.slice (some ⟨g,0,none⟩) ss.length ss.length))
 refine (to_wrs a' ws c' _ (h'.below hBW) hl').mono ?_
 rintro e w2 ⟨g',rfl,hg',hr2,hb2⟩
 have HBW:=hid (hBW.trans (hb2.mono hBW.size))
 have HRX:=hid (HRW.out.below hb2)
 have HR2:=hid hr2
 simp only [World.size_setCell] at hg'
 have hgl:g<w1.heap.size:=HR1.out.lt
 have hlt1:w.heap.size+1+1<(w1.setCell ⟨w.heap.size+1+1,0,none⟩ (Value.slice (some ⟨g,0,none⟩) ss.length ss.length)).heap.size:=by simp only [World.size_setCell];omega
 have c20:w2.cell? ⟨w.heap.size+1+1,0,none⟩=some (.slice (some ⟨g,0,none⟩) ss.length ss.length):=(hb2.cell (p:=⟨w.heap.size+1+1,0,none⟩) hlt1).trans (by go_simp)
 have c21:w2.cell? ⟨w.heap.size+1+1,1,none⟩=some (.slice none 0 0):=(hb2.cell (p:=⟨w.heap.size+1+1,1,none⟩) hlt1).trans (by go_simp)
 have f21:w2.frozen? ⟨w.heap.size+1+1,1,none⟩=false:=(hb2.frozen (p:=⟨w.heap.size+1+1,1,none⟩) hlt1).trans (by go_simp)
 have c10:w2.cell? ⟨w.heap.size+1,0,none⟩=some (.slice none 0 0):=(hb2.cell (p:=⟨w.heap.size+1,0,none⟩) (by show w.heap.size+1<_;omega)).trans (by go_simp)
 have c11:w2.cell? ⟨w.heap.size+1,1,none⟩=some (.slice none 0 0):=(hb2.cell (p:=⟨w.heap.size+1,1,none⟩) (by show w.heap.size+1<_;omega)).trans (by go_simp)
 have f10:w2.frozen? ⟨w.heap.size+1,0,none⟩=false:=(hb2.frozen (p:=⟨w.heap.size+1,0,none⟩) (by show w.heap.size+1<_;omega)).trans (by go_simp)
 have f11:w2.frozen? ⟨w.heap.size+1,1,none⟩=false:=(hb2.frozen (p:=⟨w.heap.size+1,1,none⟩) (by show w.heap.size+1<_;omega)).trans (by go_simp)
 clear hb2 hr2 HB1 HR1 HBB HRW hBW q1 q2 hlt1
 go_wp2
 have hgs:w.heap.size+1+1<g:=by omega
 have hgs':w.heap.size+1+1<g':=by omega
 refine bodyPost_ret (v:=diskV (some ⟨g,0,none⟩) ss.length ss.length (some ⟨g',0,none⟩) ws.length ws.length) (by simp [results,Tryz.results20,go_sem,c10,c11]) rfl ⟨g,g',rfl,by omega,by omega,by omega,?_,?_,?_⟩
 ·exact ((HRX.out.other _ (by show w.heap.size+1+1≠g;omega) _).other _ (by show w.heap.size+1≠g;omega) _).other _ (by show w.heap.size+1≠g;omega) _
 ·exact ((HR2.out.other _ (by show w.heap.size+1+1≠g';omega) _).other _ (by show w.heap.size+1≠g';omega) _).other _ (by show w.heap.size+1≠g';omega) _
 ·exact ((HBW.out.setCell (by show w.heap.size<=w.heap.size+1+1;omega) _).setCell (by show w.heap.size<=w.heap.size+1;omega) _).setCell (by show w.heap.size<=w.heap.size+1;omega) _
theorem Dsk.start (w:World) (t1 t2 e e':TypeId):Dsk w ((w.alloc (.cells #[.slice none 0 0,.slice none 0 0] t1)).alloc (.cells #[.slice none 0 0,.slice none 0 0] t2)) w.heap.size (w.heap.size+1) (w.heap.size+1+1) e e' (.slice none 0 0) (.slice none 0 0) [] []:=by
 have hb:Below w.heap.size w ((w.alloc (.cells #[.slice none 0 0,.slice none 0 0] t1)).alloc (.cells #[.slice none 0 0,.slice none 0 0] t2)):=((Below.refl _ _).alloc (Nat.le_refl _) _).alloc (by simp) _
 have r1:=(row_new w #[.slice none 0 0,.slice none 0 0] t1).alloc (.cells #[.slice none 0 0,.slice none 0 0] t2)
 have r2:=row_new (w.alloc (.cells #[.slice none 0 0,.slice none 0 0] t1)) #[.slice none 0 0,.slice none 0 0] t2
 simp only [World.size_alloc] at r2
 exact ⟨Nat.le_refl _,by omega,by omega,by omega,by omega,by simp,hb,r1.cell 0 _ rfl,r1.cell 1 _ rfl,r1.froz 0 (by simp),r1.froz 1 (by simp),r2.cell 0 _ rfl,r2.cell 1 _ rfl,r2.froz 0 (by simp),r2.froz 1 (by simp),World.ownsRow_nil _ _ _ _,World.ownsRow_nil _ _ _ _,.inl rfl⟩
theorem info_parts' {P:Program} {e:TypeId} {z:Value} {size bytes:Nat} (h:(P.info? e).map (fun i=>(i.zero,i.size,i.bytes))=some (some z,size,bytes)):∃ i,P.info? e=some i/\i.zero=some z/\i.size=size/\i.bytes=bytes:=by
 obtain ⟨i,hi,hh⟩:=Option.map_eq_some_iff.1 h
 simp only [Prod.mk.injEq] at hh
 exact ⟨i,hi,hh⟩
theorem at_load {P:Program} {ops:Array Oper} {rest:List Oper} {op:Oper} {a:Act} {w:World} {Q:Exit->Act->World->Prop} (ty:TypeId) (x:Operand) (_ho:op.op=.load ty x) (h:wpList P ops Q (op::rest) a w):wpList P ops Q (op::rest) a w:=h
theorem at_store {P:Program} {ops:Array Oper} {rest:List Oper} {op:Oper} {a:Act} {w:World} {Q:Exit->Act->World->Prop} (ty:TypeId) (x y:Operand) (_ho:op.op=.store ty x y) (h:wpList P ops Q (op::rest) a w):wpList P ops Q (op::rest) a w:=h
def Plt (w:World) (a:Option Addr) (ps:List (List Int)):Prop :=
 ps=[]\/∃ b o,a=some ⟨b,o,none⟩/\b<w.heap.size/\∀ i,i<ps.length->w.rangeAt b (o+i*64) ((ps.getD i []).map (Value.int .u8))
def Hld (w:World) (a:Option Addr) (hs:List (Int×List Int)):Prop :=
 hs=[]\/∃ b o,a=some ⟨b,o,none⟩/\b<w.heap.size/\∀ i,i<hs.length->w.rangeAt b (o+i*65) (.int .i64 (hs.getD i (0,[])).1::(hs.getD i (0,[])).2.map (Value.int .u8))
theorem range_below {w w':World} {b o:Nat} {cs:List Value} (h:w.rangeAt b o cs) (hb:Below w.heap.size w w') (hlt:b<w.heap.size):w'.rangeAt b o cs:=fun j v hv=>(hb.cell (p:=⟨b,o+j,none⟩) hlt).trans (h j v hv)
theorem Plt.below {w w':World} {a:Option Addr} {ps:List (List Int)} (h:Plt w a ps) (hb:Below w.heap.size w w'):Plt w' a ps:=by
 rcases h with h | ⟨b,o,h1,h2,h3⟩
 ·exact .inl h
 ·exact .inr ⟨b,o,h1,Nat.lt_of_lt_of_le h2 hb.size,fun i hi=>range_below (h3 i hi) hb h2⟩
theorem Hld.below {w w':World} {a:Option Addr} {hs:List (Int×List Int)} (h:Hld w a hs) (hb:Below w.heap.size w w'):Hld w' a hs:=by
 rcases h with h | ⟨b,o,h1,h2,h3⟩
 ·exact .inl h
 ·exact .inr ⟨b,o,h1,Nat.lt_of_lt_of_le h2 hb.size,fun i hi=>range_below (h3 i hi) hb h2⟩
theorem Plt.at {w:World} {a:Option Addr} {ps:List (List Int)} (h:Plt w a ps) {k:Nat} (hk:k<ps.length):∃ b o x,a=some ⟨b,o,none⟩/\b<w.heap.size/\w.rangeAt b (o+k*64) (x.map (Value.int .u8))/\Hid (x=ps.getD k []):=by
 rcases h with h | ⟨b,o,h1,h2,h3⟩
 ·subst h;simp at hk
 ·exact ⟨b,o,_,h1,h2,h3 k hk,hid rfl⟩
theorem Hld.at {w:World} {a:Option Addr} {hs:List (Int×List Int)} (h:Hld w a hs) {k:Nat} (hk:k<hs.length):∃ b o n x,a=some ⟨b,o,none⟩/\b<w.heap.size/\w.rangeAt b (o+k*65) (.int .i64 n::x.map (Value.int .u8))/\Hid ((n,x)=hs.getD k (0,[])):=by
 rcases h with h | ⟨b,o,h1,h2,h3⟩
 ·subst h;simp at hk
 ·exact ⟨b,o,_,_,h1,h2,h3 k hk,hid rfl⟩
theorem held_one (n:Int) (xs:List Int):∀ v∈Value.int .i64 n::xs.map (Value.int .u8),v.oneCell'=true:=fun v hv=>by
 rcases List.mem_cons.1 hv with rfl | hv
 ·rfl
 ·exact ints_one xs v hv
theorem there_any (w:World) (A:Array Value) (t:TypeId):(w.alloc (.cells A t)).there w.heap.size 0 A.size:=fun j hj=>by
 rw [Nat.zero_add,World.cell?_alloc_at _ _ _ _ rfl,frozen?_alloc_cells]
 exact ⟨by simp [hj],frozen_past _ _ _ (Nat.le_refl _)⟩
theorem wpList_store_cells {P:Program} {ops:Array Oper} {rest:List Oper} {op:Oper} {a:Act} {w:World} {Q:Exit->Act->World->Prop} (hgd:op.guard=none) (ty:TypeId) (x y:Operand) (ho:op.op=.store ty x y)
  (cs:List Value) (h1:∀ v∈cs,v.oneCell'=true) (hx:a.eval x=.pointer (some ⟨w.heap.size,0,none⟩)) (hy:a.eval y=.agg cs.toArray) (A:Array Value) (t:TypeId) (hA:A.size=cs.length)
  (hi:(P.info? ty).map (·.size)=some cs.length)
  (h:∀ wx,Row wx w.heap.size cs->Below w.heap.size w wx->wx.heap.size=w.heap.size+1->wpList P ops Q rest (a.put op.dst undef) wx):wpList P ops Q (op::rest) a (w.alloc (.cells A t)):=by
 have hth:=there_any w A t
 rw [hA] at hth
 have hz:cs.toArray.size=cs.length:=by simp
 refine wpList_store_mid hgd ty x y ho w.heap.size 0 _ hx hy (by rw [hz];exact hth) (by rw [hz];exact hi) (all_oneCell_toArray h1) ?_
 have hr:=World.rangeAt_setCells_same (w.alloc (.cells A t)) w.heap.size 0 cs hth
 refine h _ ⟨by rw [setCells_size];simp,fun i v hv=>?_,fun i hi=>?_⟩ (Go.below_setCells (Nat.le_refl _) _ _ _ ((Below.refl _ _).alloc (Nat.le_refl _) _)) (by rw [setCells_size];simp)
 ·have:=hr i v hv
  simpa using this
 ·rw [World.frozen?_setCells,frozen?_alloc_cells];exact frozen_past _ _ _ (Nat.le_refl _)
theorem Row.text {P:Program} {w:World} {g:Nat} {cs:List Value} (h:Row w g cs) (xs:List Int) (o n cap:Nat) (hx:xs.length=n) (hc:∀ i,i<n->cs[o+i]?=some (.int .u8 (xs.getD i 0))) (src e dst:TypeId) (hs:P.underlying src=some (.slice e)) (he:P.underlying e=some (.int .u8)) (hd:P.underlying dst=some .string) :
  (convert src dst (.slice (some ⟨g,o,none⟩) n cap)).run P w=.ok (.string (strOfNums xs)) w :=
 run_convert_bytes_arg (P:=P) w src e hs he g o n cap xs hx (fun i hi=>h.cell _ _ (hc i hi)) dst hd
theorem Dsk.far {W w w1:World} {R D base:Nat} {e e':TypeId} {v v':Value} {ss:List ByteArray} {ws:List (Int×ByteArray)} (h:Dsk W w R D base e e' v v' ss ws) (hg:w.grownBy w1 v.ownBlock) (b i j:Nat) (hb:b<base) (hn:b≠D) (u:Value):(w1.setCell ⟨D,j,none⟩ u).cell? ⟨b,i,none⟩=w.cell? ⟨b,i,none⟩:=by
 have lb:b<w.heap.size:=Nat.lt_of_lt_of_le hb h.sz
 have nb:some b≠v.ownBlock:=fun he=>by have:=(h.own.lt b he.symm).1;omega
 rw [World.cell?_setCell_other (w:=w1) (h:=show (⟨D,j,none⟩:Addr)≠⟨b,i,none⟩ from fun he=>hn (by injection he with h1;exact h1.symm))]
 exact hg.cell_far ⟨b,i,none⟩ lb nb
def secs (ps:List (List Int)):List ByteArray:=ps.map strOfNums
def held (hs:List (Int×List Int)):List (Int×ByteArray):=hs.map fun x=>(x.1,strOfNums x.2)
def heldZ:Array Value:=#[.int .i64 0]++Array.replicate 64 (.int .u8 0)
theorem zeroHeld (w:World):(zeroValue 196).run Tryz.prog w=.ok (.agg heldZ) w:=by kernel_rfl
def secZ:Value:=.agg (Array.replicate 64 (.int .u8 0))
theorem infoSec:(Tryz.prog.info? 193).map (fun i=>(i.zero,i.size,i.bytes))=some (some secZ,64,64):=by kernel_rfl
theorem made_secs (n:Nat):(madeCells secZ.cells (n*64)).toList=List.replicate (n*64) (.int .u8 0):=by
 unfold madeCells
 rw [Array.toList_map,Array.toList_range,List.eq_replicate_iff]
 refine ⟨by simp,fun b hb=>?_⟩
 obtain ⟨i,_,rfl⟩:=List.mem_map.1 hb
 have e1:secZ.cells=Array.replicate 64 (.int .u8 0):=rfl
 have e2:i % (Array.replicate 64 (Value.int .u8 0)).size<64:=by rw [Array.size_replicate];omega
 rw [e1]
 rw [getElem!_pos _ _ (by rw [Array.size_replicate] at e2 ⊢;exact e2)]
 simp
structure Cx (w:World) (B:Nat) (v0 v1:Value):Prop where
 lt:B<w.heap.size
 c0:w.cell? ⟨B,0,none⟩=some v0
 c1:w.cell? ⟨B,1,none⟩=some v1
theorem Cx.below {w w':World} {B:Nat} {v0 v1:Value} (h:Cx w B v0 v1) (hb:Below w.heap.size w w'):Cx w' B v0 v1 :=
 ⟨Nat.lt_of_lt_of_le h.lt hb.size,(hb.cell (p:=⟨_,0,none⟩) h.lt).trans h.c0,(hb.cell (p:=⟨_,1,none⟩) h.lt).trans h.c1⟩
theorem Cx.grown {w w':World} {B:Nat} {v0 v1:Value} {r:Option Nat} (h:Cx w B v0 v1) (hg:w.grownBy w' r) (hn:some B≠r):Cx w' B v0 v1 :=
 ⟨Nat.lt_of_lt_of_le h.lt hg.size,(World.cell?_of_block (a:=⟨B,0,none⟩) (hg.block B h.lt hn)).trans h.c0,(World.cell?_of_block (a:=⟨B,1,none⟩) (hg.block B h.lt hn)).trans h.c1⟩
theorem Cx.drew {w:World} {B:Nat} {v0 v1:Value} (h:Cx w B v0 v1):Cx w.drew B v0 v1:=⟨h.lt,h.c0,h.c1⟩
theorem Cx.new (w:World) (v0 v1:Value) (t:TypeId):Cx (w.alloc (.cells #[v0,v1] t)) w.heap.size v0 v1 :=
 ⟨by simp,by rw [World.cell?_alloc_at _ _ _ _ rfl];rfl,by rw [World.cell?_alloc_at _ _ _ _ rfl];rfl⟩
theorem below_new (w:World) (o:Obj):Below w.heap.size w (w.alloc o):=(Below.refl _ _).alloc (Nat.le_refl _) _
theorem Below.then {B:Nat} {a b c:World} (h:Below B a b) (hB:B<=a.heap.size) (k:Below b.heap.size b c):Below B a c:=h.trans (k.mono (Nat.le_trans hB h.size))
theorem row_new' (w:World) (A:Array Value) (t:TypeId) (g:Nat) (hg:g=w.heap.size):Row (w.alloc (.cells A t)) g A.toList:=by subst hg;exact row_new w A t
theorem at_copy {P:Program} {ops:Array Oper} {rest:List Oper} {op:Oper} {a:Act} {w:World} {Q:Exit->Act->World->Prop} (d x:Operand) (ts:Array TypeId) (_ho:op.op=.call { callee:=.builtin .copy,args:=#[d,x],argTypes:=ts }) (h:wpList P ops Q (op::rest) a w):wpList P ops Q (op::rest) a w:=h
theorem wpList_copy_text {P:Program} {ops:Array Oper} {rest:List Oper} {o:Oper} {a:Act} {w:World} {Q:Exit->Act->World->Prop} (hgd:o.guard=none) (d x:Operand) (dT sT:TypeId)
  (hop:o.op=.call { callee:=.builtin .copy,args:=#[d,x],argTypes:=#[dT,sT] }) (elem:TypeId) (hu:P.underlying dT=some (.slice elem)) (hz:∀ w,(Go.sizeOf elem).run P w=.ok 1 w)
  (g n cap:Nat) (hd:a.eval d=.slice (some ⟨g,0,none⟩) n cap) (t:ByteArray) (hx:a.eval x=.string t) (hn:t.size=n) (cs:List Value) (hrow:Row w g cs) (hcs:cs.length=n)
  (h:∀ wx,Row wx g ((nums t).map (Value.int .u8))->w.grownBy wx (some g)->wx.heap.size=w.heap.size->wpList P ops Q rest (a.put o.dst (goInt t.size)) wx):wpList P ops Q (o::rest) a w:=by
 have hc:∀ j,j<t.size->(w.cell? ⟨g,0+j,none⟩).isSome=true:=fun j hj=>by
  rw [Nat.zero_add,hrow.cell j _ (List.getElem?_eq_getElem (by omega))];rfl
 have hf:∀ j,j<t.size->w.frozen? ⟨g,0+j,none⟩=false:=fun j hj=>by rw [Nat.zero_add];exact hrow.froz j (by omega)
 have hrun:=run_copy_string (P:=P) w dT sT o.type elem g 0 n cap t hu hz (by omega) hc hf
 have hW:=wrote_setCells w g 0 t hc
 refine wpList_plain hgd fun K hK=>?_
 unfold Oper.wp
 simp [execOp,hop,resolve,invoke,builtin,hd,hx,hrun,Result.andThen]
 refine hK _ _ (h _ ⟨by rw [hW.size];exact hrow.lt,fun i v hv=>?_,fun i hi=>?_⟩ ⟨hW.os,hW.tape,hW.output,Nat.le_of_eq hW.size.symm,fun k _ hk=>hW.others k (fun e=>hk (by rw [e]))⟩ hW.size)
 ·obtain ⟨hj,e⟩:=List.getElem?_eq_some_iff.1 hv
  simp at hj
  have:=hW.inside i (by simpa [nums_length] using hj)
  rw [Nat.zero_add] at this
  rw [this]
  simp at e
  subst e
  simp [List.getD,List.getElem?_eq_getElem hj]
 ·rw [hW.frozen];exact hrow.froz i (by simp [nums_length] at hi;omega)
theorem Row.range {w:World} {g:Nat} {cs:List Value} (h:Row w g cs):w.rangeAt g 0 cs:=fun j v hv=>by rw [Nat.zero_add];exact h.cell j v hv
theorem Row.there {w:World} {g n:Nat} {cs:List Value} (h:Row w g cs) (hn:n=cs.length):w.there g 0 n:=fun j hj=>by
 rw [Nat.zero_add,h.cell j _ (List.getElem?_eq_getElem (by omega))];exact ⟨rfl,h.froz j (by omega)⟩
def sec64:Array Value:=Array.replicate 64 (.int .u8 0)
set_option maxRecDepth 4000 in
set_option maxHeartbeats 16000000 in
theorem sec_i (t:ByteArray) (w:World) (ht:t.size=64) :
  Calls Tryz.prog 133 #[.string t] w fun e w'=>e=.returned (.agg ((nums t).map (Value.int .u8)).toArray)/\Below w.heap.size w w':=by
 have hnl:(nums t).length=64:=by rw [nums_length,ht]
 have HI64:Hid ((Tryz.prog.info? 193).map (·.size)=some ((nums t).map (Value.int .u8)).length):=by show _=_;rw [List.length_map,hnl];kernel_rfl
 have hlm:((nums t).map (Value.int .u8)).toArray.size=64:=by simp [hnl]
 have HT:=hid ht
 clear ht
 go_enter Tryz.func133,Tryz.ntmps133
 go_wp2_with (first | (with_reducible refine at_copy _ _ _ rfl ?_;refine wpList_copy_text rfl _ _ _ _ rfl 5 Tryz.underlying158 (fun _=>by kernel_rfl) (w.heap.size+1) 64 64 rfl t rfl HT.out _ (by exact row_new' _ _ _ _ (by simp)) (by kernel_rfl) ?_;intro wx hrow hgr hsz;have hR:=(((row_new w _ _).alloc _).grown hgr (by simp));have HB:=hid ((((Below.refl _ _).alloc (Nat.le_refl _) _).alloc (by simp) _).trans (grown_below hgr (by simp;omega) (fun g hg=>by cases hg;omega)));clear hgr hsz) | (with_reducible refine at_load 193 _ rfl ?_;refine wpList_load_mid rfl 193 _ rfl (w.heap.size+1) 0 rfl ((nums t).map (Value.int .u8)) _ hrow.range Tryz.underlying193 rfl HI64.out ?_) | (with_reducible refine at_store 193 _ _ rfl ?_;refine wpList_store_mid rfl 193 _ _ rfl w.heap.size 0 ((nums t).map (Value.int .u8)).toArray rfl rfl (by rw [hlm];exact hR.there (by kernel_rfl)) (by rw [hlm];kernel_rfl) (all_oneCell_toArray (ints_one (nums t))) ?_))
 refine bodyPost_ret (v:=.agg ((nums t).map (Value.int .u8)).toArray) (results_cell1 (p:=2) Tryz.results133 _ _ w.heap.size 0 rfl ((nums t).map (Value.int .u8)) _ (World.rangeAt_setCells_same _ _ _ _ (by rw [List.length_map,hnl];exact hR.there (by kernel_rfl))) Tryz.underlying193 rfl HI64.out) rfl ⟨rfl,?_⟩
 exact Go.below_setCells (Nat.le_refl _) _ _ _ HB.out
theorem nsc (n:Nat) (h:0<n):Builtin.nextslicecap n 0=n:=by
 unfold Builtin.nextslicecap
 simp
 omega
theorem step_append_copy {P:Program} {ops:Array Oper} {o:Oper} {a:Act} {w:World} {K:Act->World->Prop} {Q:Exit->Act->World->Prop} {E:Prop}
  (hgd:o.guard=none) (s x:Operand) (t:TypeId) (hop:o.op=.call { callee:=.builtin .append,args:=#[s,x],argTypes:=#[t,t] })
  (e:TypeId) (i:TypeInfo) (z:Value) (size bytes:Nat) (ht:P.underlying t=some (.slice e)) (hi:P.info? e=some i) (hz:i.zero=some z) (hsize:i.size=size) (hby:i.bytes=bytes)
  (b:Nat) (hs:a.eval s=.slice (some ⟨b,0,none⟩) 0 0) (v:Value) (hx:a.eval x=v) (n:Nat) (news:List Value) (hsrc:Src P size t v n news w) (hl:news.length=n*size) (hn:n<=1048576) (hbn:n*bytes<=281474976710656)
  (h:∀ g cap wx,(n=0\/(g=w.heap.size/\Row wx g news))->Below w.heap.size w wx->K (a.put o.dst (.slice (some ⟨g,0,none⟩) n cap)) wx) :
  if Region.wanted o (yielded ops a.tmps)=true then Oper.wp P o a w K Q else E:=by
 have hw:Region.wanted o (yielded ops a.tmps)=true:=by simp [Region.wanted,hgd]
 rw [if_pos hw]
 subst hsize hby
 by_cases h0:n=0
 ·subst h0
  have hnil:news=[]:=List.eq_nil_of_length_eq_zero (by omega)
  subst hnil
  have hrun:=run_append_room_src (P:=P) w t t o.type e i ht hi b 0 0 0 v 0 [] hsrc (by omega) (by simp) (by simp)
  unfold Oper.wp
  simp [execOp,hop,resolve,invoke,builtin,hs,hx,hrun,Result.andThen]
  exact h b 0 _ (.inl rfl) (Below.refl _ _)
 ·have hold:(Builtin.firstCells i.size 0 (.slice (some ⟨b,0,none⟩) 0 0)).run P w.drew=.ok ([]:List Value).toArray w.drew:=run_firstCells_some w.drew i.size 0 _ 0 0 [] (by simp) (by simp)
  have hrun:=run_append_grow_src (P:=P) w t t o.type e i z ht hi hz (some ⟨b,0,none⟩) 0 0 [] hold v n news hsrc (by omega) (by omega) (by rw [Nat.zero_add,nsc n (by omega)];exact hbn)
  unfold Oper.wp
  simp [execOp,hop,resolve,invoke,builtin,hs,hx,hrun,Result.andThen]
  refine h w.heap.size _ _ (.inr ⟨rfl,?_⟩) ((Below.refl _ _).drew.alloc (Nat.le_refl _) _)
  have hr:=row_new w.drew ((([]:List Value)++news).toArray++Builtin.zeroCells z.cells (grownCap w (0+n) 0 e-(0+n))) e
  refine ⟨by simp,fun j u hu=>?_,fun j hj=>?_⟩
  ·have:=hr.cell j u (by
    obtain ⟨hj,_⟩:=List.getElem?_eq_some_iff.1 hu
    simp [List.getElem?_append_left hj,hu])
   simpa using this
  ·have:=hr.froz j (by simp;omega)
   simpa using this
theorem src_strs {P:Program} {w:World} {a:Option Addr} {ss:List ByteArray} (h:Strs w a ss) (t e:TypeId) (ht:P.underlying t=some (.slice e)) (c:Nat):Src P 1 t (.slice a ss.length c) ss.length (ss.map Value.string) w:=by
 rcases h with h | ⟨b,o,rfl,hb,hc⟩
 ·subst h
  cases a with
  | none=>exact Src.ofNil w ht c
  | some x=>exact Src.ofSlice w ht x 0 c [] (by simp) (by simp) (by simp)
 ·refine Src.ofSlice w ht ⟨b,o,none⟩ ss.length c _ (by simp) (fun j u hu=>?_) (fun u hu=>by obtain ⟨s,_,rfl⟩:=List.mem_map.1 hu;rfl)
  obtain ⟨hj,e⟩:=List.getElem?_eq_some_iff.1 hu
  simp only [List.length_map] at hj
  have ha:(⟨b,o,none⟩:Addr).add j=⟨b,o+j,none⟩:=by unfold Addr.add;split<;>simp_all
  rw [ha,hc j hj,<-e]
  simp [List.getD,hj]
theorem src_wrs {P:Program} {w:World} {a:Option Addr} {ws:List (Int×ByteArray)} (h:Wrs w a ws) (t e:TypeId) (ht:P.underlying t=some (.slice e)) (c:Nat):Src P 2 t (.slice a ws.length c) ws.length (wcells ws) w:=by
 rcases h with h | ⟨b,o,rfl,hb,hc⟩
 ·subst h
  cases a with
  | none=>exact Src.ofNil w ht c
  | some x=>exact Src.ofSlice w ht x 0 c [] (by simp) (by simp) (by simp)
 ·refine Src.ofSlice w ht ⟨b,o,none⟩ ws.length c _ (wcells_length ws) (fun j u hu=>?_) (fun u hu=>?_)
  ·obtain ⟨hj,e⟩:=List.getElem?_eq_some_iff.1 hu
   rw [wcells_length] at hj
   have ha:(⟨b,o,none⟩:Addr).add j=⟨b,o+j,none⟩:=by unfold Addr.add;split<;>simp_all
   obtain ⟨q,hq⟩:∃ q,j=q*2\/j=q*2+1:=⟨j / 2,by omega⟩
   have hql:q<ws.length:=by omega
   have hw:=wcells_at ws q hql
   rcases hq with rfl | rfl
   ·rw [ha,(hc q hql).1,<-hu,hw.1]
   ·rw [ha,<-Nat.add_assoc,(hc q hql).2,<-hu,hw.2]
  ·unfold wcells at hu
   obtain ⟨x,_,hx⟩:=List.mem_flatMap.1 hu
   simp at hx
   rcases hx with rfl | rfl<;>rfl
def cval (w:World) (p:Addr):Value:=(w.cell? p).getD (.int .i64 0)
theorem cval_some {w:World} {p:Addr} (h:(w.cell? p).isSome=true):w.cell? p=some (cval w p):=by
 unfold cval
 cases e:w.cell? p with
 | none=>rw [e] at h;exact absurd h (by simp)
 | some v=>rfl
theorem cval_is {w:World} {p:Addr} {v:Value} (h:w.cell? p=some v):(w.cell? p).isSome=true:=by rw [h];rfl
def KeepC (wy:World) (X:Nat) (v0 v1:Value) (w:World):Prop :=
 w.cell? ⟨X,0,none⟩=some v0/\w.cell? ⟨X,1,none⟩=some v1/\w.cell? ⟨X+1,0,none⟩=some (cval w ⟨X+1,0,none⟩)/\w.cell? ⟨X+1,1,none⟩=some (cval w ⟨X+1,1,none⟩)/\w.frozen? ⟨X+1,0,none⟩=false/\w.frozen? ⟨X+1,1,none⟩=false/\wy.grownBy w (some (X+1))/\X+1<w.heap.size
theorem KeepC.below {wy w w':World} {X:Nat} {v0 v1:Value} (h:KeepC wy X v0 v1 w) (hb:Below w.heap.size w w'):KeepC wy X v0 v1 w':=by
 obtain ⟨h1,h2,h3,h4,h5,h6,h7,h8⟩:=h
 refine ⟨(hb.cell (p:=⟨X,0,none⟩) (by show X<_;omega)).trans h1,(hb.cell (p:=⟨X,1,none⟩) (by show X<_;omega)).trans h2,?_,?_,?_,?_,⟨hb.os.trans h7.os,hb.tape.trans h7.tape,hb.output.trans h7.output,Nat.le_trans h7.size hb.size,fun i hi hne=>(hb.block i (Nat.lt_of_lt_of_le hi h7.size)).trans (h7.block i hi hne)⟩,Nat.lt_of_lt_of_le h8 hb.size⟩
 ·exact cval_some (by rw [hb.cell (p:=⟨X+1,0,none⟩) h8];exact cval_is h3)
 ·exact cval_some (by rw [hb.cell (p:=⟨X+1,1,none⟩) h8];exact cval_is h4)
 ·rw [hb.frozen (p:=⟨X+1,0,none⟩) h8];exact h5
 ·rw [hb.frozen (p:=⟨X+1,1,none⟩) h8];exact h6
theorem KeepC.set {wy w:World} {X:Nat} {v0 v1:Value} (h:KeepC wy X v0 v1 w) (j:Nat) (v:Value):KeepC wy X v0 v1 (w.setCell ⟨X+1,j,none⟩ v):=by
 obtain ⟨h1,h2,h3,h4,h5,h6,h7,h8⟩:=h
 have hs:∀ p,(w.cell? p).isSome=true->((w.setCell ⟨X+1,j,none⟩ v).cell? p).isSome=true:=fun p hp=>by
  by_cases e:(⟨X+1,j,none⟩:Addr)=p
  ·subst e
   obtain ⟨u,hu⟩:=Option.isSome_iff_exists.1 hp
   rw [World.cell?_setCell_same (w:=w) (h:=hu)];rfl
  ·rw [World.cell?_setCell_other (w:=w) (h:=e)];exact hp
 refine ⟨(World.cell?_setCell_far _ _ _ _ (by show X+1≠X;omega)).trans h1,(World.cell?_setCell_far _ _ _ _ (by show X+1≠X;omega)).trans h2,cval_some (hs _ (cval_is h3)),cval_some (hs _ (cval_is h4)),by rw [World.frozen?_setCell];exact h5,by rw [World.frozen?_setCell];exact h6,⟨(setCells_os (X+1) [v] j w).1.trans h7.os,(setCells_os (X+1) [v] j w).2.1.trans h7.tape,(setCells_os (X+1) [v] j w).2.2.trans h7.output,by simpa using h7.size,fun i hi hne=>?_⟩,by simpa using h8⟩
 rw [<-h7.block i hi hne]
 exact setCells_other (X+1) [v] j w i (fun e=>hne (by rw [e]))
theorem cp_end (B R:Nat) (wx1 wx2:World) (ss:List ByteArray) (ws:List (Int×ByteArray)) (g1 g2 n1 n2:Nat) (v0 v1:Value) (hn1:B<=n1) (hR:R<n1) (hg1:ss.length=0\/g1=n1/\Row wx1 g1 (ss.map Value.string)) (hb2:Below wx1.heap.size wx1 wx2) (hs1:n1<=wx1.heap.size) (hn2:wx1.heap.size<=n2) (hg2:ws.length=0\/g2=n2/\Row wx2 g2 (wcells ws)) :
  OwnD ((wx2.setCell ⟨R,0,none⟩ v0).setCell ⟨R,1,none⟩ v1) (some ⟨g1,0,none⟩) ss (some ⟨g2,0,none⟩) ws/\(∀ k,blk (some ⟨g1,0,none⟩) ss.length=some k->B<=k)/\(∀ k,blk (some ⟨g2,0,none⟩) ws.length=some k->B<=k):=by
 have hk1:∀ k,blk (some ⟨g1,0,none⟩) ss.length=some k->k=n1/\k<wx1.heap.size:=fun k hk=>by
  unfold blk at hk
  split at hk
  ·exact absurd hk (by simp)
  ·rename_i h0
   rcases hg1 with e | ⟨rfl,hr⟩
   ·exact absurd e h0
   ·simp at hk
    exact ⟨hk.symm,by rw [<-hk];exact hr.lt⟩
 have hk2:∀ k,blk (some ⟨g2,0,none⟩) ws.length=some k->k=n2:=fun k hk=>by
  unfold blk at hk
  split at hk
  ·exact absurd hk (by simp)
  ·rename_i h0
   rcases hg2 with e | ⟨rfl,hr⟩
   ·exact absurd e h0
   ·simp at hk
    exact hk.symm
 refine ⟨⟨?_,?_,?_⟩,fun k hk=>by have:=hk1 k hk;omega,fun k hk=>by have:=hk2 k hk;omega⟩
 ·rcases hg1 with e | ⟨rfl,hr⟩
  ·exact .inl (by rw [List.eq_nil_of_length_eq_zero e];rfl)
  ·exact .inr ⟨g1,rfl,((hr.below hb2).other ⟨R,0,none⟩ (by show R≠_;omega) _).other ⟨R,1,none⟩ (by show R≠_;omega) _⟩
 ·rcases hg2 with e | ⟨rfl,hr⟩
  ·exact .inl (by rw [List.eq_nil_of_length_eq_zero e];rfl)
  ·exact .inr ⟨g2,rfl,(hr.other ⟨R,0,none⟩ (by show R≠_;omega) _).other ⟨R,1,none⟩ (by show R≠_;omega) _⟩
 ·cases e1:blk (some ⟨g1,0,none⟩) ss.length with
  | none=>exact .inl rfl
  | some k1 =>
   cases e2:blk (some ⟨g2,0,none⟩) ws.length with
   | none=>exact .inr (.inl rfl)
   | some k2 =>
    have h1:=hk1 k1 e1
    have h2:=hk2 k2 e2
    exact .inr (.inr (fun e=>by injection e with e;omega))
set_option maxRecDepth 4000 in
set_option maxHeartbeats 16000000 in
theorem copy_s (a:Option Addr) (ss:List ByteArray) (c:Nat) (a':Option Addr) (ws:List (Int×ByteArray)) (c':Nat) (w:World) (h:Strs w a ss) (h':Wrs w a' ws) (hl:ss.length<=200) (hl':ws.length<=300) :
  Calls Tryz.prog 81 #[diskV a ss.length c a' ws.length c'] w fun e w'=>∃ g c1 g' c1',e=.returned (diskV (some ⟨g,0,none⟩) ss.length c1 (some ⟨g',0,none⟩) ws.length c1')/\OwnD w' (some ⟨g,0,none⟩) ss (some ⟨g',0,none⟩) ws/\(∀ k,blk (some ⟨g,0,none⟩) ss.length=some k->w.heap.size<=k)/\(∀ k,blk (some ⟨g',0,none⟩) ws.length=some k->w.heap.size<=k)/\Below w.heap.size w w':=by
 obtain ⟨i0,hi0,hz0,hz1,hz2⟩:=info_parts' infoStr
 have HI:=hid (And.intro hi0 (And.intro hz0 (And.intro hz1 hz2)))
 clear hi0 hz0 hz1 hz2
 obtain ⟨i1,hi0,hz0,hz1,hz2⟩:=info_parts' infoWr
 have HI1:=hid (And.intro hi0 (And.intro hz0 (And.intro hz1 hz2)))
 clear hi0 hz0 hz1 hz2
 have hb0:∀ o1 o2,Below w.heap.size w ((w.alloc o1).alloc o2):=fun o1 o2=>((Below.refl _ _).alloc (Nat.le_refl _) _).alloc (by simp) _
 go_enter Tryz.func81,Tryz.ntmps81
 go_wp2_with fail
 have hxb:=(Cx.new w (.slice a ss.length c) (.slice a' ws.length c') 44).below (below_new _ (.cells #[.slice none 0 0,.slice none 0 0] 44))
 have rR:=row_new' (w.alloc (.cells #[.slice a ss.length c,.slice a' ws.length c'] 44)) #[.slice none 0 0,.slice none 0 0] 44 (w.heap.size+1) (by simp)
 have hB:=hb0 (.cells #[.slice a ss.length c,.slice a' ws.length c'] 44) (.cells #[.slice none 0 0,.slice none 0 0] 44)
 have hsy:((w.alloc (.cells #[.slice a ss.length c,.slice a' ws.length c'] 44)).alloc (.cells #[.slice none 0 0,.slice none 0 0] 44)).heap.size=w.heap.size+1+1:=by simp
 obtain ⟨wy,HWY⟩:∃ wy,wy=(w.alloc (.cells #[.slice a ss.length c,.slice a' ws.length c'] 44)).alloc (.cells #[.slice none 0 0,.slice none 0 0] 44):=⟨_,rfl⟩
 rw [<-HWY] at hxb rR hB hsy ⊢
 clear HWY
 have HX:=hid hxb
 have HR:=hid rR
 have HB:=hid hB
 have HSY:=hid hsy
 clear hxb rR hB hsy
 have hk0:KeepC wy w.heap.size (.slice a ss.length c) (.slice a' ws.length c') wy:=⟨HX.out.c0,HX.out.c1,cval_some (cval_is (HR.out.cell 0 _ rfl)),cval_some (cval_is (HR.out.cell 1 _ rfl)),HR.out.froz 0 (by simp),HR.out.froz 1 (by simp),⟨rfl,rfl,rfl,Nat.le_refl _,fun _ _ _=>rfl⟩,by rw [HSY.out];omega⟩
 have HK:=hid hk0
 clear hk0
 have hbz:∀ wz,KeepC wy w.heap.size (.slice a ss.length c) (.slice a' ws.length c') wz->Below w.heap.size w wz:=fun wz hz=>HB.out.trans (grown_below hz.2.2.2.2.2.2.1 (by rw [HSY.out];omega) (fun g hg=>by injection hg with hg;omega))
 have HBZ:=hid hbz
 clear hbz
 go_region_held3 (fun w'=>w'.cell? ⟨w.heap.size,0,none⟩=some (.slice a ss.length c)/\w'.cell? ⟨w.heap.size,1,none⟩=some (.slice a' ws.length c')/\w'.cell? ⟨w.heap.size+1,0,none⟩=some (cval w' ⟨w.heap.size+1,0,none⟩)/\w'.cell? ⟨w.heap.size+1,1,none⟩=some (cval w' ⟨w.heap.size+1,1,none⟩)/\w'.frozen? ⟨w.heap.size+1,0,none⟩=false/\w'.frozen? ⟨w.heap.size+1,1,none⟩=false/\wy.grownBy w' (some (w.heap.size+1))/\w.heap.size+1<w'.heap.size)
  (first | assumption | exact HK.out.below ((Below.refl _ _).drew) | exact KeepC.below (by assumption) (by assumption) | exact KeepC.below (by assumption) (below_new _ _) | exact KeepC.set (KeepC.set (by assumption) 0 _) 1 _)
  (first | (refine step_append_copy (by rfl) _ _ 22 (by rfl) 9 _ _ 1 16 Tryz.underlying22 HI.out.1 HI.out.2.1 HI.out.2.2.1 HI.out.2.2.2 _ (by rfl) _ (by rfl) ss.length _ (by exact src_strs (h.below (HBZ.out _ (by assumption))) _ _ (by rfl) _) (by simp) (by omega) (by omega) ?_;intro g1 c1 wx1 hg1 hb1) | (refine step_append_copy (by rfl) _ _ 42 (by rfl) 121 _ _ 2 24 Tryz.underlying42 HI1.out.1 HI1.out.2.1 HI1.out.2.2.1 HI1.out.2.2.2 _ (by rfl) _ (by rfl) ws.length _ (by exact src_wrs (h'.below (HBZ.out _ (by assumption))) _ _ (by rfl) _) (by exact wcells_length ws) (by omega) (by omega) ?_;intro g2 c2 wx2 hg2 hb2;have hk2:KeepC wy w.heap.size (.slice a ss.length c) (.slice a' ws.length c') wx2:=KeepC.below (by assumption) hb2))
 all_goals
  rename_i hHeld
  have hzz:=hHeld
  clear hHeld
  have hfb:=HBZ.out _ hzz
  have hend:=by
   first
   | exact cp_end w.heap.size (w.heap.size+1) wx1 wx2 ss ws g1 g2 _ _ (Value.slice (some ⟨g1,0,none⟩) ss.length c1) (Value.slice (some ⟨g2,0,none⟩) ws.length c2) (by simp [HSY.out]<;>omega) (by simp [HSY.out]<;>omega) hg1 hb2 hb1.size (Nat.le_refl _) hg2
   | exact cp_end w.heap.size (w.heap.size+1) wx1 wx2 ss ws g1 g2 _ _ (Value.slice (some ⟨g1,0,none⟩) ss.length c1) (Value.slice (some ⟨g2,0,none⟩) ws.length c2) (by simp [HSY.out]<;>omega) (by simp [HSY.out]<;>omega) hg1 (Go.Proofs.YtcoegjnjjdndjaaGreatDoor.Below.then (below_new wx1 _) (Nat.le_refl _) hb2) hb1.size (by simp) hg2
  have hend':=hid hend
  have hi0:=cval_is hk2.2.2.1
  have hi1:=cval_is hk2.2.2.2.1
  clear hend hg1 hb1 hg2 hb2 hk2 hzz
  go_wp2
  exact bodyPost_ret (v:=diskV (some ⟨g1,0,none⟩) ss.length c1 (some ⟨g2,0,none⟩) ws.length c2) (by simp [results,Tryz.results81,go_sem,hi0,hi1]) rfl ⟨g1,c1,g2,⟨c2,rfl⟩,hend'.out.1,hend'.out.2.1,hend'.out.2.2,hfb⟩
set_option maxHeartbeats 16000000 in
theorem eq_strs (a b:Option Addr) (ss:List ByteArray) (c c':Nat) (w:World) (h:Strs w a ss) (h':Strs w b ss) (hl:ss.length<=1048576) :
  Calls Tryz.prog 30 #[.slice a ss.length c,.slice b ss.length c'] w fun e w'=>e=.returned (.bool true)/\Below w.heap.size w w':=by
 go_enter Tryz.func30,Tryz.ntmps30
 go_wp2
 go_loopw [5] (fun i wr=>∃ k:Nat,k<=ss.length/\i=.int .i64 k/\Below w.heap.size w wr) (fun i _=>ss.length-(intOf i).toNat)
 case atStart=>exact ⟨0,Nat.zero_le _,rfl,Below.refl _ _⟩
 case round =>
  obtain ⟨k,hk,rfl,hbel⟩:=hrel
  by_cases hlt:k<ss.length
  ·obtain ⟨b1,o1,s,rfl,hc,HS⟩:=(h.below hbel).at hlt
   obtain ⟨b2,o2,s',rfl,hc',HS'⟩:=(h'.below hbel).at hlt
   obtain rfl:s=s':=HS.out.trans HS'.out.symm
   have hk1:(k:Int)<(ss.length:Int):=by omega
   have hk0:(0:Int)<=(k:Int):=by omega
   clear HS HS'
   go_wp2_with fail
   go_quiet (fail)
   go_wp2
   go_roundw
   case rel=>exact ⟨k+1,by omega,by go_num,below_drewN hbel _⟩
   case measure=>simp [intOf];omega
  ·go_wp2
   go_ret
   exact ⟨rfl,hbel⟩
set_option maxHeartbeats 16000000 in
theorem eq_wr (n:Int) (s:ByteArray) (w:World) :
  Calls Tryz.prog 122 #[.agg #[.int .i64 n,.string s],.agg #[.int .i64 n,.string s]] w fun e w'=>e=.returned (.bool true)/\Below w.heap.size w w':=by
 go_enter Tryz.func122,Tryz.ntmps122
 go_wp2
 go_ret
 exact ⟨rfl,((Below.refl _ _).alloc (Nat.le_refl _) _).alloc (by simp) _⟩
set_option maxHeartbeats 16000000 in
theorem eq_wrs (a b:Option Addr) (ws:List (Int×ByteArray)) (c c':Nat) (w:World) (h:Wrs w a ws) (h':Wrs w b ws) (hl:ws.length<=1048576) :
  Calls Tryz.prog 72 #[.slice a ws.length c,.slice b ws.length c'] w fun e w'=>e=.returned (.bool true)/\Below w.heap.size w w':=by
 go_enter Tryz.func72,Tryz.ntmps72
 go_wp2
 go_loopw [5] (fun i wr=>∃ k:Nat,k<=ws.length/\i=.int .i64 k/\Below w.heap.size w wr) (fun i _=>ws.length-(intOf i).toNat)
 case atStart=>exact ⟨0,Nat.zero_le _,rfl,Below.refl _ _⟩
 case round =>
  obtain ⟨k,hk,rfl,hbel⟩:=hrel
  by_cases hlt:k<ws.length
  ·obtain ⟨b1,o1,n,s,rfl,hc,hd,HS⟩:=(h.below hbel).at hlt
   obtain ⟨b2,o2,n',s',rfl,hc',hd',HS'⟩:=(h'.below hbel).at hlt
   obtain ⟨rfl,rfl⟩:n=n'/\s=s':=by have:=HS.out.trans HS'.out.symm;simpa using this
   have hk1:(k:Int)<(ws.length:Int):=by omega
   have hk0:(0:Int)<=(k:Int):=by omega
   have lt1:b1<wr.heap.size:=by have:=World.block_lt_of_cell? wr _ hc;simpa using this
   have lt2:b2<wr.heap.size:=by have:=World.block_lt_of_cell? wr _ hc';simpa using this
   have HQ:=hid (And.intro hc (And.intro hd (And.intro hc' hd')))
   clear HS HS' hc hd hc' hd'
   go_wp2_with fail
   go_region_held3 (fun w'=>w'.cell? ⟨b1,o1+k*2,none⟩=some (.int .i64 n)/\w'.cell? ⟨b1,o1+k*2+1,none⟩=some (.string s)/\w'.cell? ⟨b2,o2+k*2,none⟩=some (.int .i64 n)/\w'.cell? ⟨b2,o2+k*2+1,none⟩=some (.string s))
    (first | assumption | exact HQ.out | exact ⟨(hb2.cell (p:=⟨b1,_,none⟩) lt1).trans HQ.out.1,(hb2.cell (p:=⟨b1,_,none⟩) lt1).trans HQ.out.2.1,(hb2.cell (p:=⟨b2,_,none⟩) lt2).trans HQ.out.2.2.1,(hb2.cell (p:=⟨b2,_,none⟩) lt2).trans HQ.out.2.2.2⟩)
    (first | (go_at_call 122;refine (eq_wr n s _).mono ?_;rintro e w2 ⟨rfl,hb2⟩))
   go_wp2
   go_roundw
   case rel=>exact ⟨k+1,by omega,by go_num,hbel.drew.trans (hb2.mono hbel.size)⟩
   case measure=>simp [intOf];omega
  ·go_wp2
   go_ret
   exact ⟨rfl,hbel⟩
set_option maxHeartbeats 16000000 in
theorem eq_disk (a b:Option Addr) (ss:List ByteArray) (c d:Nat) (a' b':Option Addr) (ws:List (Int×ByteArray)) (c' d':Nat) (w:World) (h1:Strs w a ss) (h2:Strs w b ss) (h3:Wrs w a' ws) (h4:Wrs w b' ws) (hl:ss.length<=1048576) (hl':ws.length<=1048576) :
  Calls Tryz.prog 27 #[diskV a ss.length c a' ws.length c',diskV b ss.length d b' ws.length d'] w fun e w'=>e=.returned (.bool true)/\Below w.heap.size w w':=by
 have hb0:∀ o1 o2,Below w.heap.size w ((w.alloc o1).alloc o2):=fun o1 o2=>((Below.refl _ _).alloc (Nat.le_refl _) _).alloc (by simp) _
 go_enter Tryz.func27,Tryz.ntmps27
 go_wp2_with fail
 refine (eq_strs a b ss c d _ (h1.below (hb0 _ _)) (h2.below (hb0 _ _)) hl).mono ?_
 rintro e w1 ⟨rfl,hb1⟩
 have hB1:=(hb0 _ _).trans (hb1.mono (by simp;omega))
 obtain ⟨q1,q2⟩:=bcell hb1
 clear hb1
 go_wp2_with fail
 refine (eq_wrs a' b' ws c' d' _ (h3.below hB1) (h4.below hB1) hl').mono ?_
 rintro e w2 ⟨rfl,hb2⟩
 clear q1 q2
 go_wp2
 go_ret
 exact ⟨rfl,hB1.trans (hb2.mono hB1.size)⟩
end Go.Proofs.YtcoegjnjjdndjaaGreatDoor
