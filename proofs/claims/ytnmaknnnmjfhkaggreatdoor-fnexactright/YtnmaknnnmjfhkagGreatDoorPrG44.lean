import Derived.WalkKit
import Derived.WalkSpells
import Derived.WalkLawsBesides
import Derived.Outline
import Derived.BigQuiet
import Derived.Deep.QuietTactic
import Derived.Deep.RegionHeld3
import Derived.Test.YtnmaknnnmjfhkagGreatDoorProg
import Derived.Test.YtnmaknnnmjfhkagGreatDoorPrG34
import Derived.Deep.AppendLies
import Derived.Deep.AppendSrc
import Derived.Test.YtnmaknnnmjfhkagGreatDoorPrG43
import Derived.Test.YtnmaknnnmjfhkagGreatDoorPrG51
import Derived.Test.YtnmaknnnmjfhkagGreatDoorPrG35
import Derived.Test.YtnmaknnnmjfhkagGreatDoorPrG36
set_option maxHeartbeats 16000000
set_option maxRecDepth 8000
set_option linter.unusedVariables false
set_option linter.unusedSimpArgs false
namespace Go.Proofs.YtnmaknnnmjfhkagGreatDoor
open Go.RowKit
theorem info_pr:(Tryz.prog.info? 144).map (fun i=>(i.zero,i.size,i.bytes))=some (some (.agg #[.string ByteArray.empty,.string ByteArray.empty]),2,32):=by kernel_rfl
set_option maxHeartbeats 16000000 in
theorem sz_pr (s0:ByteArray) (s1:ByteArray) (left:Int) (w:World) (h0:0<=left) (h1:left<=1048576) (hs0:s0.size<=9223372036854775807) (hs1:s1.size<=9223372036854775807) :
  Calls Tryz.prog 283 #[.agg #[.string s0,.string s1],.int .i64 left] w fun e w'=>e=.returned (.int .i64 (szL [s0.size,s1.size] left))/\Below w.heap.size w w':=by
 by_cases c0:left-(s0.size:Int)<0
 ·have HE:szL [s0.size,s1.size] left=-1:=by simp [szL,c0]
  go_enter Tryz.func283,Tryz.ntmps283
  go_wp2
  go_ret
  exact ⟨ret_int (by first | rfl | exact HE.symm),(Below.refl _ _).alloc (Nat.le_refl _) _⟩
 ·by_cases c1:left-(s0.size:Int)-(s1.size:Int)<0
  ·have HE:szL [s0.size,s1.size] left=-1:=by simp [szL,c0,c1]
   go_enter Tryz.func283,Tryz.ntmps283
   go_wp2
   go_ret
   exact ⟨ret_int (by first | rfl | exact HE.symm),(Below.refl _ _).alloc (Nat.le_refl _) _⟩
  ·have HE:szL [s0.size,s1.size] left=left-(s0.size:Int)-(s1.size:Int):=by simp [szL,c0,c1]
   go_enter Tryz.func283,Tryz.ntmps283
   go_wp2
   go_ret
   exact ⟨ret_int (by first | rfl | exact HE.symm),(Below.refl _ _).alloc (Nat.le_refl _) _⟩
set_option maxHeartbeats 16000000 in
theorem sz_prs (a:Option Addr) (rs:List (ByteArray×ByteArray)) (c:Nat) (left:Int) (w:World) (h:Prs w a rs) (h0:0<=left) (h1:left<=1048576) (hl:rs.length<=maxLen) (hs:∀ s∈rs,s.1.size<=maxLen/\s.2.size<=maxLen) :
  Calls Tryz.prog 257 #[.slice a rs.length c,.int .i64 left] w fun e w'=>e=.returned (.int .i64 (szL (rs.length::rs.flatMap prsz) left))/\Below w.heap.size w w':=by
 unfold maxLen at hl
 by_cases hn:left-(rs.length:Int)<0
 ·have HR:=hid (szL_cons_lt (rs.flatMap prsz) hn)
  go_enter Tryz.func257,Tryz.ntmps257
  go_wp2
  go_ret
  exact ⟨ret_int HR.out.symm,Below.refl _ _⟩
 ·have HR:=hid (szL_cons_ge (rs.flatMap prsz) hn)
  obtain ⟨R,HE⟩:∃ R,Hid (R=szL (rs.length::rs.flatMap prsz) left):=⟨_,hid rfl⟩
  rw [<-HE.out]
  go_enter Tryz.func257,Tryz.ntmps257
  go_wp2
  go_loopw [1,5] (fun x i wr=>∃ (k:Nat) (y:Int),k<=rs.length/\i=.int .i64 k/\x=.int .i64 y/\0<=y/\y<=1048576/\Hid (szL ((rs.drop k).flatMap prsz) y=R)/\Below w.heap.size w wr) (fun _ i _=>rs.length-(intOf i).toNat)
  case atStart=>exact ⟨0,_,Nat.zero_le _,rfl,rfl,by omega,by omega,by show _=_;rw [HE.out,HR.out,List.drop_zero],Below.refl _ _⟩
  case round =>
   obtain ⟨k,y,hk,rfl,rfl,hy0,hy1,HZ,hbel⟩:=hrel
   by_cases hlt:k<rs.length
   ·obtain ⟨b,o,s0,s1,rfl,hc0,hc1,HS⟩:=(h.below hbel).at hlt
    obtain ⟨q0,q1⟩:s0.size<=9223372036854775807/\s1.size<=9223372036854775807:=by
     have:=hs (s0,s1) (by rw [HS.out];simp [List.getD,hlt])
     unfold maxLen at this;exact this
    obtain ⟨y',HY⟩:∃ y',Hid (y'=szL [s0.size,s1.size] y):=⟨_,hid rfl⟩
    have hbd:=szL_bd [s0.size,s1.size] y hy0
    rw [<-HY.out] at hbd
    have HD:Hid (szL ((rs.drop k).flatMap prsz) y=szL ([s0.size,s1.size]++(rs.drop (k+1)).flatMap prsz) y):=by
     show _=_
     rw [drop_at rs k (ByteArray.empty,ByteArray.empty) hlt,<-HS.out]
     rfl
    by_cases hy:y'<0
    ·have hy2:y'=-1:=by omega
     have HN:=hid (szL_append_no [s0.size,s1.size] ((rs.drop (k+1)).flatMap prsz) y hy0 (by rw [<-HY.out];exact hy))
     clear hbd
     subst hy2
     go_wp2_with (go_at_call 283;refine (sz_pr s0 s1 y _ hy0 hy1 q0 q1).mono ?_;rw [<-HY.out];rintro e w2 ⟨rfl,hb2⟩)
     go_ret
     refine ⟨ret_int ?_,hbel.trans (hb2.mono hbel.size)⟩
     rw [<-HZ.out,HD.out,HN.out]
    ·have hy2:0<=y':=by omega
     have hy3:y'<=1048576:=by omega
     have HN:=hid (szL_append_yes [s0.size,s1.size] ((rs.drop (k+1)).flatMap prsz) y hy0 (by rw [<-HY.out];exact hy2))
     clear hbd
     go_wp2_with (go_at_call 283;refine (sz_pr s0 s1 y _ hy0 hy1 q0 q1).mono ?_;rw [<-HY.out];rintro e w2 ⟨rfl,hb2⟩)
     go_roundw
     case rel=>exact ⟨k+1,_,by omega,by go_num,rfl,by omega,by omega,by show _=_;rw [<-HZ.out,HD.out,HN.out,<-HY.out],hbel.trans (hb2.mono hbel.size)⟩
     case measure=>simp [intOf];omega
   ·go_wp2
    go_ret
    refine ⟨ret_int ?_,hbel⟩
    rw [<-HZ.out,List.drop_of_length_le (by omega)]
    rfl
set_option maxHeartbeats 16000000 in
theorem to_pr (s0:ByteArray) (s1:ByteArray) (w:World) :
  Calls Tryz.prog 284 #[.agg #[.string s0,.string s1]] w fun e w'=>e=.returned (.agg #[.string s0,.string s1])/\Below w.heap.size w w':=by
 go_enter Tryz.func284,Tryz.ntmps284
 go_wp2
 exact bodyPost_ret (v:=.agg #[.string s0,.string s1]) (by simp [results,Tryz.results284,go_sem]) rfl ⟨rfl,(((Below.refl _ _).alloc (Nat.le_refl _) _).alloc (by simp) _).alloc (by simp;omega) _⟩
set_option maxHeartbeats 16000000 in
theorem to_prs (a:Option Addr) (rs:List (ByteArray×ByteArray)) (c:Nat) (w:World) (h:Prs w a rs) (hl:rs.length<=1048576) :
  Calls Tryz.prog 258 #[.slice a rs.length c] w fun e w'=>∃ g,e=.returned (.slice (some ⟨g,0,none⟩) rs.length rs.length)/\w.heap.size<=g/\Row w' g (prcells rs)/\Below w.heap.size w w':=by
 go_enter Tryz.func258,Tryz.ntmps258
 go_wp2_with (at_make;refine wpList_make_new rfl _ _ 29 rfl 144 _ 2 _ Tryz.underlying29 info_pr rs.length rfl rfl (by omega) (by omega) ?_;intro wx hrow hbx hsx;rw [made_prs] at hrow)
 have hr0:Row wx w.heap.size (prupTo rs 0):=by simpa [prupTo,prcells_nil] using hrow
 clear hrow
 go_loopw [4] (fun i wr=>∃ k:Nat,k<=rs.length/\i=.int .i64 k/\Row wr w.heap.size (prupTo rs k)/\Below w.heap.size w wr) (fun i _=>rs.length-(intOf i).toNat)
 case atStart=>exact ⟨0,Nat.zero_le _,rfl,hr0,hbx⟩
 case round =>
  obtain ⟨k,hk,rfl,hrow,hbel⟩:=hrel
  by_cases hlt:k<rs.length
  ·obtain ⟨b,o,s0,s1,rfl,hc0,hc1,HS⟩:=(h.below hbel).at hlt
   have HB:=hid hbel
   have HR:=hid hrow
   clear hrow hbel
   go_wp2_with (go_at_call 284;refine (to_pr s0 s1 _).mono ?_;rintro e w2 ⟨rfl,hb2⟩;have hr2:=HR.out.below hb2;have hl2:=prupTo_length rs k hk;obtain ⟨u0,hu0⟩:∃ u,w2.cell? ⟨w.heap.size,k*2,none⟩=some u:=⟨_,hr2.cell (k*2) _ (List.getElem?_eq_getElem (by omega))⟩;obtain ⟨u1,hu1⟩:∃ u,w2.cell? ⟨w.heap.size,k*2+1,none⟩=some u:=⟨_,hr2.cell (k*2+1) _ (List.getElem?_eq_getElem (by omega))⟩;have hf0:=hr2.froz (k*2) (by omega);have hf1:=hr2.froz (k*2+1) (by omega);have HR2:=hid hr2;have HL2:=hid hl2;clear hr2 hl2)
   have hrs:=(HR2.out.set (k*2) (by rw [HL2.out];omega) (.string s0)).set (k*2+1) (by rw [List.length_set,HL2.out];omega) (.string s1)
   have hus:((prupTo rs k).set (k*2) (.string s0)).set (k*2+1) (.string s1)=prupTo rs (k+1):=by
    have e:=HS.out
    rw [show s0=(rs.getD k (ByteArray.empty,ByteArray.empty)).1 by rw [<-e],show s1=(rs.getD k (ByteArray.empty,ByteArray.empty)).2 by rw [<-e]]
    exact prupTo_set rs k hlt
   rw [hus] at hrs
   go_roundw
   case rel=>exact ⟨k+1,by omega,by go_num,hrs,((HB.out.trans (hb2.mono HB.out.size)).setCell (Nat.le_refl _) _).setCell (Nat.le_refl _) _⟩
   case measure=>simp [intOf];omega
  ·go_wp2
   go_ret
   exact ⟨w.heap.size,rfl,Nat.le_refl _,by rw [<-prupTo_all rs k (by omega)];exact hrow,hbel⟩
set_option maxHeartbeats 16000000 in
theorem eq_pr (s0:ByteArray) (s1:ByteArray) (w:World) :
  Calls Tryz.prog 264 #[.agg #[.string s0,.string s1],.agg #[.string s0,.string s1]] w fun e w'=>e=.returned (.bool true)/\Below w.heap.size w w':=by
 go_enter Tryz.func264,Tryz.ntmps264
 go_wp2
 go_ret
 exact ⟨rfl,((Below.refl _ _).alloc (Nat.le_refl _) _).alloc (by simp) _⟩
set_option maxHeartbeats 16000000 in
theorem eq_prs (a b:Option Addr) (rs:List (ByteArray×ByteArray)) (c c':Nat) (w:World) (h:Prs w a rs) (h':Prs w b rs) (hl:rs.length<=1048576) :
  Calls Tryz.prog 229 #[.slice a rs.length c,.slice b rs.length c'] w fun e w'=>e=.returned (.bool true)/\Below w.heap.size w w':=by
 go_enter Tryz.func229,Tryz.ntmps229
 go_wp2
 go_loopw [5] (fun i wr=>∃ k:Nat,k<=rs.length/\i=.int .i64 k/\Below w.heap.size w wr) (fun i _=>rs.length-(intOf i).toNat)
 case atStart=>exact ⟨0,Nat.zero_le _,rfl,Below.refl _ _⟩
 case round =>
  obtain ⟨k,hk,rfl,hbel⟩:=hrel
  by_cases hlt:k<rs.length
  ·obtain ⟨b1,o1,s0,s1,rfl,hc0,hc1,HS⟩:=(h.below hbel).at hlt
   obtain ⟨b2,o2,s0x,s1x,rfl,hd0,hd1,HS'⟩:=(h'.below hbel).at hlt
   obtain ⟨rfl,rfl⟩:s0=s0x/\s1=s1x:=by have:=HS.out.trans HS'.out.symm;simpa using this
   have hk1:(k:Int)<(rs.length:Int):=by omega
   have hk0:(0:Int)<=(k:Int):=by omega
   have lt1:b1<wr.heap.size:=by have:=World.block_lt_of_cell? wr _ hc0;simpa using this
   have lt2:b2<wr.heap.size:=by have:=World.block_lt_of_cell? wr _ hd0;simpa using this
   have HQ:Hid (wr.cell? ⟨b1,o1+k*2,none⟩=some (.string s0)/\wr.cell? ⟨b1,o1+k*2+1,none⟩=some (.string s1)/\wr.cell? ⟨b2,o2+k*2,none⟩=some (.string s0)/\wr.cell? ⟨b2,o2+k*2+1,none⟩=some (.string s1)):=⟨hc0,hc1,hd0,hd1⟩
   clear HS HS' hc0 hc1 hd0 hd1
   go_wp2_with fail
   go_region_held3 (fun w'=>w'.cell? ⟨b1,o1+k*2,none⟩=some (.string s0)/\w'.cell? ⟨b1,o1+k*2+1,none⟩=some (.string s1)/\w'.cell? ⟨b2,o2+k*2,none⟩=some (.string s0)/\w'.cell? ⟨b2,o2+k*2+1,none⟩=some (.string s1))
    (first | assumption | exact HQ.out | exact ⟨(hb2.cell (p:=⟨b1,_,none⟩) lt1).trans HQ.out.1,(hb2.cell (p:=⟨b1,_,none⟩) lt1).trans HQ.out.2.1,(hb2.cell (p:=⟨b2,_,none⟩) lt2).trans HQ.out.2.2.1,(hb2.cell (p:=⟨b2,_,none⟩) lt2).trans HQ.out.2.2.2⟩)
    (first | (go_at_call 264;refine (eq_pr s0 s1 _).mono ?_;rintro e w2 ⟨rfl,hb2⟩))
   go_wp2
   go_roundw
   case rel=>exact ⟨k+1,by omega,by go_num,hbel.drew.trans (hb2.mono hbel.size)⟩
   case measure=>simp [intOf];omega
  ·go_wp2
   go_ret
   exact ⟨rfl,hbel⟩
@[reducible] def stV (a:Option Addr) (n c:Nat):Value:=.agg #[.slice a n c]
set_option maxHeartbeats 16000000 in
theorem sz_state (a:Option Addr) (rs:List (ByteArray×ByteArray)) (c:Nat) (w:World) (h:Prs w a rs) (left:Int) (h0:0<=left) (h1:left<=1048576) (hl:rs.length<=maxLen) (hs:∀ s∈rs,s.1.size<=maxLen/\s.2.size<=maxLen) :
  Calls Tryz.prog 209 #[stV a rs.length c,.int .i64 left] w fun e w'=>e=.returned (.int .i64 (szL (rs.length::rs.flatMap prsz) left))/\Below w.heap.size w w':=by
 have hb0:∀ o,Below w.heap.size w (w.alloc o):=fun o=>(Below.refl _ _).alloc (Nat.le_refl _) _
 have hbd:=szL_bd (rs.length::rs.flatMap prsz) left (by omega)
 obtain ⟨x,HX⟩:∃ x,Hid (x=szL (rs.length::rs.flatMap prsz) left):=⟨_,hid rfl⟩
 rw [<-HX.out] at hbd ⊢
 by_cases hx:x<0
 ·have hx1:x=-1:=by omega
  have HX1:=hid hx1
  clear hbd hx1
  go_enter Tryz.func209,Tryz.ntmps209
  go_wp2_with fail
  refine (sz_prs a rs c left _ (h.below (hb0 _)) (by omega) (by omega) hl hs).mono ?_
  rw [<-HX.out]
  rintro e w1 ⟨rfl,hb1⟩
  go_wp2
  go_ret
  exact ⟨ret_int HX1.out.symm,(hb0 _).trans (hb1.mono (by simp))⟩
 ·clear hbd
  go_enter Tryz.func209,Tryz.ntmps209
  go_wp2_with fail
  refine (sz_prs a rs c left _ (h.below (hb0 _)) (by omega) (by omega) hl hs).mono ?_
  rw [<-HX.out]
  rintro e w1 ⟨rfl,hb1⟩
  go_wp2
  go_ret
  exact ⟨rfl,(hb0 _).trans (hb1.mono (by simp))⟩
set_option maxHeartbeats 16000000 in
theorem to_state (a:Option Addr) (rs:List (ByteArray×ByteArray)) (c:Nat) (w:World) (h:Prs w a rs) (hl:rs.length<=1048576) :
  Calls Tryz.prog 211 #[stV a rs.length c] w fun e w'=>∃ g,e=.returned (stV (some ⟨g,0,none⟩) rs.length rs.length)/\w.heap.size<=g/\Row w' g (prcells rs)/\Below w.heap.size w w':=by
 have hb0:∀ o1 o2 o3,Below w.heap.size w (((w.alloc o1).alloc o2).alloc o3):=fun o1 o2 o3=>(((Below.refl _ _).alloc (Nat.le_refl _) _).alloc (by simp) _).alloc (by simp;omega) _
 go_enter Tryz.func211,Tryz.ntmps211
 go_wp2_with fail
 refine (to_prs a rs c _ (h.below (hb0 _ _ _)) hl).mono ?_
 rintro e w1 ⟨g,rfl,hg,hr1,hb1⟩
 have hB1:=(hb0 _ _ _).trans (hb1.mono (by simp;omega))
 have hs1:=hb1.size
 simp only [World.size_alloc] at hg hs1
 have c20:w1.cell? ⟨w.heap.size+1+1,0,none⟩=some (.slice none 0 0):=(hb1.cell (p:=⟨w.heap.size+1+1,0,none⟩) (by simp)).trans (by go_simp)
 have f20:w1.frozen? ⟨w.heap.size+1+1,0,none⟩=false:=(hb1.frozen (p:=⟨w.heap.size+1+1,0,none⟩) (by simp)).trans (by go_simp)
 have c10:w1.cell? ⟨w.heap.size+1,0,none⟩=some (.slice none 0 0):=(hb1.cell (p:=⟨w.heap.size+1,0,none⟩) (by simp<;>omega)).trans (by go_simp)
 have f10:w1.frozen? ⟨w.heap.size+1,0,none⟩=false:=(hb1.frozen (p:=⟨w.heap.size+1,0,none⟩) (by simp<;>omega)).trans (by go_simp)
 have HR1:=hid hr1
 have HBB:=hid hB1
 clear hb1 hr1 hB1
 go_wp2
 refine bodyPost_ret (v:=stV (some ⟨g,0,none⟩) rs.length rs.length) (by simp [results,Tryz.results211,go_sem,c10]) rfl ⟨g,rfl,by omega,?_,?_⟩
 ·exact (HR1.out.other _ (by show w.heap.size+1+1≠g;omega) _).other _ (by show w.heap.size+1≠g;omega) _
 ·exact (HBB.out.setCell (by show w.heap.size<=w.heap.size+1+1;omega) _).setCell (by show w.heap.size<=w.heap.size+1;omega) _
set_option maxHeartbeats 16000000 in
theorem eq_state (a b:Option Addr) (rs:List (ByteArray×ByteArray)) (c d:Nat) (w:World) (h1:Prs w a rs) (h2:Prs w b rs) (hl:rs.length<=1048576) :
  Calls Tryz.prog 167 #[stV a rs.length c,stV b rs.length d] w fun e w'=>e=.returned (.bool true)/\Below w.heap.size w w':=by
 have hb0:∀ o1 o2,Below w.heap.size w ((w.alloc o1).alloc o2):=fun o1 o2=>((Below.refl _ _).alloc (Nat.le_refl _) _).alloc (by simp) _
 go_enter Tryz.func167,Tryz.ntmps167
 go_wp2_with fail
 refine (eq_prs a b rs c d _ (h1.below (hb0 _ _)) (h2.below (hb0 _ _)) hl).mono ?_
 rintro e w1 ⟨rfl,hb1⟩
 have hB1:=(hb0 _ _).trans (hb1.mono (by simp;omega))
 clear hb1
 go_wp2
 go_ret
 exact ⟨rfl,hB1⟩
theorem info_prC:(Tryz.prog.info? 144).map (fun i=>(i.zero,i.size,i.bytes))=some (some (.agg #[.string ByteArray.empty,.string ByteArray.empty]),2,32):=by kernel_rfl
theorem info_partsP {P:Program} {e:TypeId} {z:Value} {size bytes:Nat} (h:(P.info? e).map (fun i=>(i.zero,i.size,i.bytes))=some (some z,size,bytes)):∃ i,P.info? e=some i/\i.zero=some z/\i.size=size/\i.bytes=bytes:=by
 obtain ⟨i,hi,hh⟩:=Option.map_eq_some_iff.1 h
 simp only [Prod.mk.injEq] at hh
 exact ⟨i,hi,hh⟩
theorem nscP (n:Nat) (h:0<n):Builtin.nextslicecap n 0=n:=by
 unfold Builtin.nextslicecap
 simp
 omega
theorem copy_run {P:Program} {w:World} (t ty e:TypeId) (i:TypeInfo) (z:Value) (size bytes:Nat) (ht:P.underlying t=some (.slice e)) (hi:P.info? e=some i) (hz:i.zero=some z) (hsize:i.size=size) (hby:i.bytes=bytes)
  (base:Option Addr) (hbase:base=none\/∃ b,base=some ⟨b,0,none⟩) (v:Value) (n:Nat) (news:List Value) (hsrc:Src P size t v n news w) (hn:n<=1048576) (hbn:n*bytes<=281474976710656) :
  ∃ a' cap wx,(Builtin.append_ #[t,t] ty #[.slice base 0 0,v]).run P w=.ok (.slice a' n cap) wx/\n<=cap/\(n=0\/(a'=some ⟨w.heap.size,0,none⟩/\Row wx w.heap.size news))/\Below w.heap.size w wx:=by
 subst hsize hby
 by_cases h0:n=0
 ·subst h0
  have hnil:news=[]:=List.eq_nil_of_length_eq_zero (by have:=hsrc.newsLen;omega)
  subst hnil
  rcases hbase with rfl | ⟨b,rfl⟩
  ·refine ⟨none,0,w,?_,Nat.le_refl _,.inl rfl,Below.refl _ _⟩
   rcases hsrc.kind with ⟨e',hk⟩ | hk<;>simp [Builtin.append_,run_underlying ht,run_underlying hk,sizeOf,typeInfo,hi,hsrc.len,hsrc.cells]
  ·have hrun:=run_append_room_src (P:=P) w t t ty e i ht hi b 0 0 0 v 0 [] hsrc (by omega) (by simp) (by simp)
   exact ⟨_,_,_,hrun,Nat.le_refl _,.inl rfl,Below.refl _ _⟩
 ·have hold:(Builtin.firstCells i.size 0 (.slice base 0 0)).run P w.drew=.ok ([]:List Value).toArray w.drew:=by
   rcases hbase with rfl | ⟨b,rfl⟩
   ·simp [Builtin.firstCells,Sem.run_pure]
   ·exact run_firstCells_some w.drew i.size 0 _ 0 0 [] (by simp) (by simp)
  have hrun:=run_append_grow_src (P:=P) w t t ty e i z ht hi hz base 0 0 [] hold v n news hsrc (by omega) (by omega) (by rw [Nat.zero_add,nscP n (by omega)];exact hbn)
  refine ⟨_,_,_,by rw [hrun,Nat.zero_add],?_,.inr ⟨rfl,?_⟩,(Below.refl _ _).drew.alloc (Nat.le_refl _) _⟩
  ·have:=grownCap_ge w (0+n) 0 e
   rw [Nat.zero_add] at this
   exact this
  have hr:=row_new w.drew ((([]:List Value)++news).toArray++Builtin.zeroCells z.cells (grownCap w (0+n) 0 e-(0+n))) e
  refine ⟨by simp,fun j u hu=>?_,fun j hj=>?_⟩
  ·have:=hr.cell j u (by
    obtain ⟨hj,_⟩:=List.getElem?_eq_some_iff.1 hu
    simp [List.getElem?_append_left hj,hu])
   simpa using this
  ·have:=hr.froz j (by simp;omega)
   simpa using this
theorem wpList_append_copy {P:Program} {w:World} {ops:Array Oper} {rest:List Oper} {o:Oper} {a:Act} {Q:Exit->Act->World->Prop} (hgd:o.guard=none) (s x:Operand) (t:TypeId)
  (ho:o.op=.call { callee:=.builtin .append,args:=#[s,x],argTypes:=#[t,t] }) (e:TypeId) (i:TypeInfo) (z:Value) (size bytes:Nat) (ht:P.underlying t=some (.slice e)) (hi:P.info? e=some i) (hz:i.zero=some z) (hsize:i.size=size) (hby:i.bytes=bytes)
  (base:Option Addr) (hs:a.eval s=.slice base 0 0) (hbase:base=none\/∃ b,base=some ⟨b,0,none⟩) (v:Value) (hx:a.eval x=v) (n:Nat) (news:List Value) (hsrc:Src P size t v n news w) (hn:n<=1048576) (hbn:n*bytes<=281474976710656)
  (h:∀ a' cap wx,n<=cap->(n=0\/(a'=some ⟨w.heap.size,0,none⟩/\Row wx w.heap.size news))->Below w.heap.size w wx->wpList P ops Q rest (a.put o.dst (.slice a' n cap)) wx):wpList P ops Q (o::rest) a w:=by
 refine wpList_plain hgd fun K hK=>?_
 obtain ⟨a',cap,wx,hrun,h1,h2,h3⟩:=copy_run (P:=P) (w:=w) t o.type e i z size bytes ht hi hz hsize hby base hbase v n news hsrc hn hbn
 unfold Oper.wp
 simp [execOp,ho,resolve,invoke,builtin,hs,hx,hrun,Result.andThen]
 exact hK _ _ (h a' cap wx h1 h2 h3)
theorem src_prs {P:Program} {w:World} {a:Option Addr} {rs:List (ByteArray×ByteArray)} (h:Prs w a rs) (t e:TypeId) (ht:P.underlying t=some (.slice e)) (c:Nat):Src P 2 t (.slice a rs.length c) rs.length (prcells rs) w:=by
 rcases h with h | ⟨b,o,rfl,hb,hc⟩
 ·subst h
  cases a with
  | none=>exact Src.ofNil w ht c
  | some x=>exact Src.ofSlice w ht x 0 c [] (by simp) (by simp) (by simp)
 ·refine Src.ofSlice w ht ⟨b,o,none⟩ rs.length c _ (prcells_length rs) (fun j u hu=>?_) (fun u hu=>?_)
  ·obtain ⟨hj,e⟩:=List.getElem?_eq_some_iff.1 hu
   rw [prcells_length] at hj
   have ha:(⟨b,o,none⟩:Addr).add j=⟨b,o+j,none⟩:=by unfold Addr.add;split<;>simp_all
   obtain ⟨q,hq⟩:∃ q,j=q*2\/j=q*2+1:=⟨j / 2,by omega⟩
   have hql:q<rs.length:=by omega
   have hw:=prcells_at rs q hql
   rcases hq with rfl | rfl
   ·rw [ha,(hc q hql).1,<-hu,hw.1]
   ·rw [ha,<-Nat.add_assoc,(hc q hql).2,<-hu,hw.2]
  ·unfold prcells at hu
   obtain ⟨x,_,hx⟩:=List.mem_flatMap.1 hu
   simp at hx
   rcases hx with rfl | rfl<;>rfl
def CpPost (w w':World) (e:Ending) (rs:List (ByteArray×ByteArray)):Prop:=∃ a c,e=.returned (stV a rs.length c)/\rs.length<=c/\OwnS w' a (prcells rs)/\(∀ g,blk a rs.length=some g->w.heap.size<=g)/\Below w.heap.size w w'
theorem cp_endP {w wx:World} {a':Option Addr} {rs:List (ByteArray×ByteArray)} {H:Nat} (h:rs.length=0\/(a'=some ⟨H,0,none⟩/\Row wx H (prcells rs))) (hH:w.heap.size<=H):OwnS wx a' (prcells rs)/\(∀ g,blk a' rs.length=some g->w.heap.size<=g/\g=H):=by
 rcases h with h | ⟨rfl,hr⟩
 ·have:rs=[]:=List.eq_nil_of_length_eq_zero h
  subst this
  exact ⟨.inl rfl,fun g hg=>by cases hg⟩
 ·refine ⟨.inr ⟨H,rfl,hr⟩,fun g hg=>?_⟩
  by_cases h0:rs.length=0
  ·rw [h0] at hg;cases hg
  ·rw [blk_pos _ _ _ h0] at hg;cases hg;exact ⟨hH,rfl⟩
set_option maxHeartbeats 16000000 in
theorem copy_st_s (a:Option Addr) (rs:List (ByteArray×ByteArray)) (c:Nat) (w:World) (h:Prs w a rs) (hl:rs.length<=1048576) :
  Calls Tryz.prog 104 #[stV a rs.length c] w fun e w'=>CpPost w w' e rs:=by
 obtain ⟨i0,hi0,hz0,hz1,hz2⟩:=info_partsP info_prC
 have HI:=hid (And.intro hi0 (And.intro hz0 (And.intro hz1 hz2)))
 clear hi0 hz0 hz1 hz2
 have hb0:∀ o1 o2 o3,Below w.heap.size w (((w.alloc o1).alloc o2).alloc o3):=fun o1 o2 o3=>(((Below.refl _ _).alloc (Nat.le_refl _) _).alloc (by simp) _).alloc (by simp;omega) _
 go_enter Tryz.func104,Tryz.ntmps104
 go_wp2_with (at_builtin;refine wpList_append_copy rfl _ _ 29 rfl 144 i0 _ 2 32 Tryz.underlying29 HI.out.1 HI.out.2.1 HI.out.2.2.1 HI.out.2.2.2 _ rfl (.inr ⟨_,rfl⟩) _ rfl rs.length _ (src_prs (h.below (hb0 _ _ _)) _ _ Tryz.underlying29 c) hl (by omega) ?_;intro a' cap wx hcap hrow hbx;have c1:wx.cell? ⟨w.heap.size+1,0,none⟩=some (.slice none 0 0):=(hbx.cell (p:=⟨w.heap.size+1,0,none⟩) (by simp<;>omega)).trans (by go_simp);have f1:wx.frozen? ⟨w.heap.size+1,0,none⟩=false:=(hbx.frozen (p:=⟨w.heap.size+1,0,none⟩) (by simp<;>omega)).trans (by go_simp);have HBX:=hid ((hb0 _ _ _).trans (hbx.mono (by simp<;>omega)));have HRW:=hid (cp_endP (w:=w) hrow (by simp;omega));have hszx:w.heap.size+1<wx.heap.size:=Nat.lt_of_lt_of_le (by simp) hbx.size;clear hrow hbx)
 refine bodyPost_ret (v:=stV a' rs.length cap) (by simp [results,Tryz.results104,go_sem,c1]) rfl ⟨a',cap,rfl,hcap,?_,fun g hg=>(HRW.out.2 g hg).1,HBX.out.setCell (by show w.heap.size<=w.heap.size+1;omega) _⟩
 rcases HRW.out.1 with h1 | ⟨g,rfl,h1⟩
 ·exact .inl h1
 ·by_cases h0:rs.length=0
  ·exact .inl (by rw [List.eq_nil_of_length_eq_zero h0];rfl)
  ·have:=(HRW.out.2 g (blk_pos _ _ _ h0)).2
   exact .inr ⟨g,rfl,h1.other _ (by show w.heap.size+1≠g;rw [this];simp<;>omega) _⟩
abbrev OpT:=Bool×Int×ByteArray
def Ops (w:World) (a:Option Addr) (rs:List (Bool×Int×ByteArray)):Prop :=
 rs=[]\/∃ b o,a=some ⟨b,o,none⟩/\b<w.heap.size/\∀ i,i<rs.length->w.cell? ⟨b,o+i*3,none⟩=some (.bool (rs.getD i (false,0,ByteArray.empty)).1)/\w.cell? ⟨b,o+i*3+1,none⟩=some (.int .i64 (rs.getD i (false,0,ByteArray.empty)).2.1)/\w.cell? ⟨b,o+i*3+2,none⟩=some (.string (rs.getD i (false,0,ByteArray.empty)).2.2)
theorem Ops.below {w w':World} {a:Option Addr} {rs:List (Bool×Int×ByteArray)} (h:Ops w a rs) (hb:Below w.heap.size w w'):Ops w' a rs:=by
 rcases h with h | ⟨b,o,h1,h2,h3⟩
 ·exact .inl h
 ·exact .inr ⟨b,o,h1,Nat.lt_of_lt_of_le h2 hb.size,fun i hi=>⟨(hb.cell (p:=⟨b,o+i*3,none⟩) h2).trans (h3 i hi).1,(hb.cell (p:=⟨b,o+i*3+1,none⟩) h2).trans (h3 i hi).2.1,(hb.cell (p:=⟨b,o+i*3+2,none⟩) h2).trans (h3 i hi).2.2⟩⟩
theorem Ops.at {w:World} {a:Option Addr} {rs:List (Bool×Int×ByteArray)} (h:Ops w a rs) {k:Nat} (hk:k<rs.length):∃ b o g0 n1 s2,a=some ⟨b,o,none⟩/\w.cell? ⟨b,o+k*3,none⟩=some (.bool g0)/\w.cell? ⟨b,o+k*3+1,none⟩=some (.int .i64 n1)/\w.cell? ⟨b,o+k*3+2,none⟩=some (.string s2)/\Hid ((g0,n1,s2)=rs.getD k (false,0,ByteArray.empty)):=by
 rcases h with h | ⟨b,o,h1,h2,h3⟩
 ·subst h;simp at hk
 ·exact ⟨b,o,_,_,_,h1,(h3 k hk).1,(h3 k hk).2.1,(h3 k hk).2.2,hid rfl⟩
def opcells (rs:List (Bool×Int×ByteArray)):List Value:=rs.flatMap fun x=>[.bool x.1,.int .i64 x.2.1,.string x.2.2]
theorem opcells_append (a b:List (Bool×Int×ByteArray)):opcells (a++b)=opcells a++opcells b:=by simp [opcells]
theorem opcells_length (rs:List (Bool×Int×ByteArray)):(opcells rs).length=rs.length*3:=by
 induction rs with
 | nil=>rfl
 | cons x r ih=>simp [opcells] at ih ⊢;omega
theorem opcells_at:∀ (rs:List (Bool×Int×ByteArray)) (i:Nat),i<rs.length->(opcells rs)[i*3]?=some (.bool (rs.getD i (false,0,ByteArray.empty)).1)/\(opcells rs)[i*3+1]?=some (.int .i64 (rs.getD i (false,0,ByteArray.empty)).2.1)/\(opcells rs)[i*3+2]?=some (.string (rs.getD i (false,0,ByteArray.empty)).2.2)
 | x::r,0,_=>by simp [opcells]
 | x::r,i+1,h=>by
  have ih:=opcells_at r i (by simpa using h)
  have e:opcells (x::r)=.bool x.1::.int .i64 x.2.1::.string x.2.2::opcells r:=by simp [opcells]
  rw [e,show (i+1)*3=i*3+3 by omega]
  simpa using ih
theorem Row.ops {w:World} {g:Nat} {rs:List (Bool×Int×ByteArray)} (h:Row w g (opcells rs)):Ops w (some ⟨g,0,none⟩) rs :=
 .inr ⟨g,0,rfl,h.lt,fun i hi=>by
  rw [Nat.zero_add]
  exact ⟨h.cell _ _ (opcells_at rs i hi).1,h.cell _ _ (opcells_at rs i hi).2.1,h.cell _ _ (opcells_at rs i hi).2.2⟩⟩
structure Dd where
 (C W S L T H F R U O:Int)
 rs:List Pr
 ops:List OpT
def dnV (d:Dd) (a:Option Addr) (c:Nat) (b:Option Addr) (e:Nat):Value:=.agg #[.int .i64 d.C,.int .i64 d.W,.int .i64 d.S,.int .i64 d.L,.int .i64 d.T,.int .i64 d.H,.int .i64 d.F,.int .i64 d.R,.int .i64 d.U,.int .i64 d.O,.slice a d.rs.length c,.slice b d.ops.length e]
def Apart (a:Option Addr) (n:Nat) (b:Option Addr) (m:Nat):Prop:=blk a n=none\/blk b m=none\/blk a n≠blk b m
structure OwnDn (w:World) (rs:List Pr) (ops:List OpT) (a b:Option Addr):Prop where
 s:OwnS w a (prcells rs)
 p:OwnS w b (opcells ops)
 ne:Apart a rs.length b ops.length
theorem OwnDn.below {w w':World} {rs:List Pr} {ops:List OpT} {a b:Option Addr} (h:OwnDn w rs ops a b) (hb:Below w.heap.size w w'):OwnDn w' rs ops a b:=⟨h.s.below hb,h.p.below hb,h.ne⟩
theorem OwnS.prs {w:World} {a:Option Addr} {rs:List Pr} (h:OwnS w a (prcells rs)):Prs w a rs:=by
 rcases h with h | ⟨g,rfl,h⟩
 ·exact .inl (by have:=congrArg List.length h;rw [prcells_length,List.length_nil] at this;exact List.eq_nil_of_length_eq_zero (by omega))
 ·exact h.prs
theorem OwnS.ops {w:World} {a:Option Addr} {rs:List OpT} (h:OwnS w a (opcells rs)):Ops w a rs:=by
 rcases h with h | ⟨g,rfl,h⟩
 ·exact .inl (by have:=congrArg List.length h;rw [opcells_length,List.length_nil] at this;exact List.eq_nil_of_length_eq_zero (by omega))
 ·exact h.ops
theorem ne_of_prcells {rs:List Pr} (h:prcells rs≠[]):rs.length≠0:=fun e=>h (by rw [List.eq_nil_of_length_eq_zero e];rfl)
theorem ne_of_opcells {rs:List OpT} (h:opcells rs≠[]):rs.length≠0:=fun e=>h (by rw [List.eq_nil_of_length_eq_zero e];rfl)
def DnPost (w w':World) (x:Ending) (d:Dd):Prop:=∃ a c b e,x=.returned (dnV d a c b e)/\d.rs.length<=c/\OwnDn w' d.rs d.ops a b/\(∀ g,blk a d.rs.length=some g->w.heap.size<=g)/\(∀ g,blk b d.ops.length=some g->w.heap.size<=g)/\Below w.heap.size w w'
def noD (C:Int):Dd:=⟨C,0,0,0,0,0,0,0,0,0,[],[]⟩
theorem OwnS.set' {w:World} {a:Option Addr} {cs:List Value} (h:OwnS w a cs) (p:Addr) (hp:∀ g,a=some ⟨g,0,none⟩->cs≠[]->p.block≠g) (v:Value):OwnS (w.setCell p v) a cs:=by
 by_cases h0:cs=[]
 ·exact .inl h0
 ·obtain ⟨g,rfl,hr⟩:=h.resolve_left h0
  exact .inr ⟨g,rfl,hr.other p (hp g rfl h0) v⟩
theorem row_at {w:World} {A:Array Value} {t:TypeId} {g:Nat} (hg:w.heap.size=g):Row (w.alloc (.cells A t)) g A.toList:=by subst hg;exact row_new w A t
theorem dn_no {w w':World} {x:Ending} {C:Int} {a b:Option Addr} {c e:Nat} (hx:x=.returned (dnV (noD C) a c b e)) (hb:Below w.heap.size w w'):DnPost w w' x (noD C) :=
 ⟨a,c,b,e,hx,Nat.zero_le _,⟨.inl rfl,.inl rfl,.inl rfl⟩,fun g h=>(by cases h),fun g h=>(by cases h),hb⟩
theorem OwnS.drew' {w:World} {a:Option Addr} {cs:List Value} (h:OwnS w a cs):OwnS w.drew a cs:=h.below (Below.refl _ _).drew
end Go.Proofs.YtnmaknnnmjfhkagGreatDoor
