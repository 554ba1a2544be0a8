import Derived.Test.YtnmaknnnmjfhkagGreatDoorPrG34
import Derived.Test.YtnmaknnnmjfhkagGreatDoorPrG36
import Derived.Test.YtnmaknnnmjfhkagGreatDoorPrFbI
import Derived.Test.YtnmaknnnmjfhkagGreatDoorPrG35
import Derived.Test.YtnmaknnnmjfhkagGreatDoorPrG38
import Derived.Test.YtnmaknnnmjfhkagGreatDoorPrFbS
import Derived.Test.YtnmaknnnmjfhkagGreatDoorPrG51
import Derived.Test.YtnmaknnnmjfhkagGreatDoorPrHv
set_option maxHeartbeats 16000000
set_option maxRecDepth 8000
set_option linter.unusedVariables false
set_option linter.unusedSimpArgs false
namespace Go.Proofs.YtnmaknnnmjfhkagGreatDoor
open Go.RowKit
theorem builder_below {T e:TypeId} {B b:Nat} {bs:List Value} {w w':World} (h:Lib.IsBuilder T e B b bs w) (hb:Below w.heap.size w w'):Lib.IsBuilder T e B b bs w':=by
 have key:∀ p,Lib.BuilderAt T e B b p bs w->Lib.BuilderAt T e B b p bs w':=fun p hp=>by
  obtain ⟨h1,v,h2,h3,h4⟩:=hp
  have hlt:b<w.heap.size:=by
   rcases Nat.lt_or_ge b w.heap.size with h | h
   ·exact h
   ·rw [Array.getElem?_eq_none h] at h2;cases h2
  exact ⟨h1,v,by rw [hb.block b hlt];exact h2,owns_below h3 hb,h4⟩
 rcases h with h | h
 ·exact .inl (key _ h)
 ·exact .inr (key _ h)
theorem bytes_step (f s:ByteArray):Lib.byteCells f.data.toList++Lib.strCells s=Lib.byteCells (f++s).data.toList:=by
 rw [Lib.strCells_eq,<-Lib.byteCells_append]
 congr 1
set_option maxHeartbeats 16000000 in
theorem formrem_i (k:ByteArray) (w:World) (hk:k.size<=255):Calls Tryz.prog 315 #[.agg #[.string k]] w fun e w'=>e=.returned (.string (strOfNums [1]++(strOfNums [(k.size:Int)]++k)))/\Below w.heap.size w w':=by
 have hb1:∀ o,Below w.heap.size w (w.alloc o):=fun o=>(Below.refl _ _).alloc (Nat.le_refl _) _
 have hb0:∀ o o',Below w.heap.size w ((w.alloc o).alloc o'):=fun o o'=>(hb1 o).alloc (by simp) _
 have hb2:∀ (x:World) (b:Nat),x.cell? ⟨b,0,none⟩=some (.int .u8 1)->(convert 47 9 (.slice (some ⟨b,0,none⟩) 1 1)).run Tryz.prog x=.ok (.string (strOfNums [1])) x:=fun x b h=>bytes_any x b 1 h
 have n1:¬ 9223372036854775807<1+(1+k.size):=by omega
 have z0:(strOfNums [1]).size=1:=by rw [strOfNums_size];rfl
 have z1:(strOfNums [(k.size:Int)]++k).size=1+k.size:=by rw [ByteArray.size_append,strOfNums_size];rfl
 go_enter Tryz.func315,Tryz.ntmps315
 go_wp2_with fail
 go_region_law (refine step_call (by rfl) 317 #[.string k] (by go_simp) (sized_i k _ hk) ?_;rintro e w7 ⟨rfl,hb7⟩;refine ⟨_,rfl,?_⟩;have hs7:=hb7.size;simp only [World.size_alloc,World.size_drew] at hs7;have l70:w.heap.size<w7.heap.size:=(by omega);have l71:=Nat.lt_of_succ_le hs7;obtain ⟨q7,_⟩:=bcell1F hb7;have HB7:=hid hb7;clear hb7)
 all_goals
  go_wp2
  go_ret
  refine ⟨rfl,?_⟩
  first
   | exact bs (hb0 _ _).drew HB7.out
   | exact (bs (hb1 _).drew HB7.out).alloc (bs (hb1 _).drew HB7.out).size _
theorem meth_set (j:Nat) (v v':Value) (w:World):Sem.run Tryz.prog (method (j+1) 298 (.agg #[v,v']) "loop.example/kilnstone/impl.form") w=.ok (319,.agg #[v,v']) w:=by kernel_rfl
theorem meth_rem (j:Nat) (v:Value) (w:World):Sem.run Tryz.prog (method (j+1) 296 (.agg #[v]) "loop.example/kilnstone/impl.form") w=.ok (315,.agg #[v]) w:=by kernel_rfl
set_option maxHeartbeats 16000000 in
theorem formbatch_i (a:Option Addr) (rs:List (ByteArray×ByteArray×Bool)) (c:Nat) (w:World) (h:Chs w a rs) (hl:rs.length<=1048576) (hs:∀ x∈rs,x.1.size<=1048576/\x.2.1.size<=1048576) :
  Calls Tryz.prog 94 #[.slice a rs.length c] w fun e w'=>e=.returned (.string (bOut rs))/\Below w.heap.size w w':=by
 unfold bOut
 cases hok:batchOk rs with
 | false =>
  simp only [Bool.false_eq_true,if_false]
  go_enter Tryz.func94,Tryz.ntmps94
  go_wp2_with (go_at_call 92;refine (vbatch_i a rs c _ h hl hs).mono ?_;rw [hok];rintro e w2 ⟨rfl,hb2⟩)
  go_ret
  exact ⟨rfl,hb2⟩
 | true =>
  simp only [if_true]
  obtain ⟨hn,hall⟩:=batchOk_of hok
  have HALL:=hid hall
  clear hall
  obtain ⟨F,HF⟩:∃ F,Hid (F=bForm rs):=⟨_,hid rfl⟩
  rw [<-HF.out]
  go_enter Tryz.func94,Tryz.ntmps94
  go_wp2_with (go_at_call 92;refine (vbatch_i a rs c _ h hl hs).mono ?_;rw [hok];rintro e w2 ⟨rfl,hb2⟩)
  go_loopw [5,11] (fun _ i wr=>∃ k:Nat,k<=rs.length/\i=.int .i64 k/\Lib.IsBuilder 210 5 w2.heap.size w2.heap.size (Lib.byteCells (bForm (rs.take k)).data.toList) wr/\Below w2.heap.size w2 wr) (fun _ i _=>rs.length-(intOf i).toNat)
  case atStart=>exact ⟨0,Nat.zero_le _,rfl,by rw [List.take_zero];exact Lib.fresh_isBuilder _ _ _,(Below.refl _ _).alloc (Nat.le_refl _) _⟩
  case round =>
   obtain ⟨k,hk,rfl,hbd,hbel⟩:=hrel
   by_cases hlt:k<rs.length
   ·obtain ⟨b,o,s0,s1,g2,rfl,hc0,hc1,hc2,HS⟩:=(h.below (hb2.trans (hbel.mono hb2.size))).at hlt
    have hm:Hid ((s0,s1,g2)∈rs):=by show _∈_;rw [HS.out];simp [List.getD,hlt]
    have hco:=HALL.out _ hm.out
    have hz0:s0.size<=255:=by simp [chOk,kOk,vOk] at hco;omega
    have hz1:s1.size<=255:=by simp [chOk,kOk,vOk] at hco;omega
    have HCS:=hid (chN_size _ hco)
    have HBS:=hid (bForm_size (rs.take k) (fun x hx=>HALL.out x (List.mem_of_mem_take hx)))
    have HST:=hid (bForm_succ rs k _ _ hlt HS.out)
    have hlen:(Lib.byteCells (bForm (rs.take k)).data.toList).length+(strOfNums (chN (s0,s1,g2))).size<=140737488355328:=by
     rw [Lib.byteCells_length]
     have h1:(bForm (rs.take k)).data.toList.length=(bForm (rs.take k)).size:=rfl
     have h2:=HBS.out
     have h3:=HCS.out
     rw [List.length_take] at h2
     omega
    have hlt':(k:Int)<(rs.length:Int):=by omega
    have hsz:=hbel.size
    have HB:=hid hbel
    have HBD:=hid hbd
    clear hbd hbel hco
    cases g2 with
    | false =>
     have hms:=fun j w=>meth_set j (.string s0) (.string s1) w
     go_wp2_with (first | (go_at_call 186;refine (edit_i0 s0 s1 _).mono ?_;rintro e w4 ⟨rfl,hb4⟩) | (go_at_call 319;refine (formset_i s0 s1 _ hz0 hz1).mono ?_;rw [chN_set];rintro e w5 ⟨rfl,hb5⟩;have hbx:=bs (bs ((Below.refl wr.heap.size wr).alloc (Nat.le_refl _) _) hb4) hb5;have HBX:=hid hbx;have HBY:=hid (builder_below HBD.out hbx);have hsx:=hbx.size;clear hb4 hb5 hbx) | (go_at_call 155;refine (b_write _ _ _ _ _ HBY.out hlen (by omega)).mono ?_;rintro e w6 ⟨rfl,hb6,hb7⟩))
     refine ⟨⟨k+1,by omega,by go_num,?_,HB.out.trans ((HBX.out.mono hsz).trans hb7)⟩,by simp [intOf];omega⟩
     rw [HST.out,<-bytes_step]
     exact .inr hb6
    | true =>
     have hms:=fun j w=>meth_rem j (.string s0) w
     go_wp2_with (first | (go_at_call 186;refine (edit_i1 s0 s1 _).mono ?_;rintro e w4 ⟨rfl,hb4⟩) | (go_at_call 315;refine (formrem_i s0 _ hz0).mono ?_;rw [chN_rem s0 s1];rintro e w5 ⟨rfl,hb5⟩;have hbx:=bs (bs ((Below.refl wr.heap.size wr).alloc (Nat.le_refl _) _) hb4) hb5;have HBX:=hid hbx;have HBY:=hid (builder_below HBD.out hbx);have hsx:=hbx.size;clear hb4 hb5 hbx) | (go_at_call 155;refine (b_write _ _ _ _ _ HBY.out hlen (by omega)).mono ?_;rintro e w6 ⟨rfl,hb6,hb7⟩))
     refine ⟨⟨k+1,by omega,by go_num,?_,HB.out.trans ((HBX.out.mono hsz).trans hb7)⟩,by simp [intOf];omega⟩
     rw [HST.out,<-bytes_step]
     exact .inr hb6
   ·have hkl:k=rs.length:=by omega
    subst hkl
    have hsz:=hbel.size
    have HBD:=hid hbd
    clear hbd
    rw [List.take_length,<-HF.out] at HBD
    go_wp2_with (go_at_call 157;refine (b_string _ _ _ _ HBD.out hsz).mono ?_;rintro e w6 ⟨rfl,hb6⟩)
    go_ret
    refine ⟨?_,hb2.trans ((hbel.trans hb6).mono hb2.size)⟩
    have e:(⟨F.data.toList.toArray⟩:ByteArray)=F:=by simp
    first | rw [<-e];rfl | (simp;rfl)
def roomOf (bss:List (List Ch)) (n:Int):Int:=(bss.map fun b=>npages (bOut b).size n).sum
theorem npages_bound (l:Nat) (n:Int):0<=npages l n/\npages l n<=(l:Int)+1:=by
 unfold npages nparts
 split
 ·split
  ·omega
  ·have h:=Nat.div_le_self (l-1) (56-n).toNat
   obtain ⟨q,hq⟩:∃ q,q=(l-1) / (56-n).toNat:=⟨_,rfl⟩
   rw [<-hq] at h ⊢
   omega
 ·omega
theorem bOut_bound (b:List Ch):(bOut b).size<=2460:=by
 unfold bOut
 split
 ·rename_i h
  obtain ⟨h1,h2⟩:=batchOk_of h
  have:=bForm_size b h2
  omega
 ·simp
theorem roomOf_nil (n:Int):roomOf [] n=0:=rfl
theorem roomOf_snoc (bss:List (List Ch)) (b:List Ch) (n:Int):roomOf (bss++[b]) n=roomOf bss n+npages (bOut b).size n:=by simp [roomOf]
theorem roomOf_bound (bss:List (List Ch)) (n:Int):0<=roomOf bss n/\roomOf bss n<=2461*(bss.length:Int):=by
 induction bss with
 | nil=>exact ⟨Int.le_refl _,by simp [roomOf]⟩
 | cons b r ih =>
  have e:roomOf (b::r) n=npages (bOut b).size n+roomOf r n:=by simp [roomOf]
  have h1:=npages_bound (bOut b).size n
  have h2:=bOut_bound b
  rw [e,List.length_cons]
  omega
theorem takeR_snoc {α:Type} (l:List α) (k:Nat) (d:α) (h:k<l.length):l.take (k+1)=l.take k++[l.getD k d]:=by
 rw [List.take_succ_eq_append_getElem h]
 simp [List.getD,h]
set_option maxHeartbeats 16000000 in
theorem room_s (a:Option Addr) (rs:List Pr) (c:Nat) (n:Int) (w:World) (h:Prs w a rs) (hl:rs.length<=1048576) (hs:∀ x∈rs,x.1.size<=1048576/\x.2.size<=1048576) :
  Calls Tryz.prog 31 #[.agg #[.slice a rs.length c],.int .i64 n] w fun e w'=>e=.returned (.int .i64 (roomOf (snapOf rs) n))/\Below w.heap.size w w':=by
 have hb0:Below w.heap.size w (w.alloc (.cells #[.slice a rs.length c] 31)):=(Below.refl _ _).alloc (Nat.le_refl _) _
 have hv:=snap_s a rs c (w.alloc (.cells #[.slice a rs.length c] 31)) (h.below hb0) hl hs
 have HV:=hid hv
 have HB0:=hid hb0
 clear hv hb0
 obtain ⟨bss,hbss⟩:∃ bss,bss=snapOf rs:=⟨_,rfl⟩
 have hbl:=snapOf_len rs
 have HMB:Hid (∀ b∈bss,b.length<=1048576/\∀ x∈b,x.1.size<=1048576/\x.2.1.size<=1048576):=by
  intro b hb
  rw [hbss] at hb
  obtain ⟨h1,h2⟩:=snapOf_mem hb
  exact ⟨by omega,fun x hx=>hs _ (h2 x hx)⟩
 rw [<-hbss] at HV hbl ⊢
 clear hbss
 go_enter Tryz.func31,Tryz.ntmps31
 go_wp2_with (go_at_call 105;refine HV.out.mono ?_;rintro e w2 ⟨v,rfl,hbat,hb2⟩)
 obtain ⟨va,vc,rfl,hbt⟩:=hbat.bts
 have HBT:=hid hbt
 have HBW:=hid (HB0.out.trans (hb2.mono HB0.out.size))
 clear hbat hb2 hbt HV HB0
 go_loopw [5,7] (fun y i wr=>∃ k:Nat,k<=bss.length/\i=.int .i64 (k:Int)/\y=.int .i64 (roomOf (bss.take k) n)/\Below w2.heap.size w2 wr) (fun _ i _=>bss.length-(intOf i).toNat)
 case atStart=>exact ⟨0,Nat.zero_le _,rfl,rfl,Below.refl _ _⟩
 case round =>
  obtain ⟨k,hk,rfl,rfl,hbel⟩:=hrel
  by_cases hlt:k<bss.length
  ·obtain ⟨g,p,cc,rfl,hg,hc,hch⟩:=(HBT.out.below hbel).at hlt
   have hlt':(k:Int)<(bss.length:Int):=by omega
   have hk0:(0:Int)<=(k:Int):=by omega
   have hmem:=HMB.out (bss.getD k []) (by simp [List.getD,hlt])
   have HST:=hid (roomOf_snoc (bss.take k) (bss.getD k []) n)
   rw [<-takeR_snoc bss k [] hlt] at HST
   have hR:=roomOf_bound (bss.take k) n
   have hRl:(bss.take k).length<=5:=by rw [List.length_take];omega
   have hP:=npages_bound (bOut (bss.getD k [])).size n
   have hO:=bOut_bound (bss.getD k [])
   obtain ⟨b,hb⟩:∃ b,b=bss.getD k []:=⟨_,rfl⟩
   rw [<-hb] at hc hch hmem HST hP hO
   obtain ⟨r,hr⟩:∃ r,r=roomOf (bss.take k) n:=⟨_,rfl⟩
   rw [<-hr] at HST hR ⊢
   have HF:=hid (fun W (hW:Chs W p b)=>formbatch_s p b cc W hW hmem.1 hmem.2)
   have HG:=hid (fun W=>pages_s (bOut b) n W (by omega))
   have HCH:=hid hch
   have HBL:=hid hbel
   obtain ⟨q,hq⟩:∃ q,q=npages (bOut b).size n:=⟨_,rfl⟩
   rw [<-hq] at HG hP HST
   obtain ⟨bo,hbo⟩:∃ bo,bo=bOut b:=⟨_,rfl⟩
   rw [<-hbo] at HF HG hP hO
   have hw0:IntKind.i64.wrap (r+q)=r+q:=by simp [IntKind.wrap,IntKind.bits,IntKind.signed];omega
   clear hb hr hq hbo hmem hch hbel
   go_wp2_with (first | (go_at_call 103;refine (HF.out _ HCH.out).mono ?_;rintro e w3 ⟨rfl,hb3⟩) | (go_at_call 106;refine (HG.out _).mono ?_;rintro e w4 ⟨rfl,hb4⟩))
   refine ⟨⟨k+1,by omega,by go_num,?_,?_⟩,by simp [intOf];omega⟩
   ·rw [HST.out]
   ·exact HBL.out.trans ((hb3.trans (hb4.mono hb3.size)).mono HBL.out.size)
  ·have hkl:k=bss.length:=by omega
   subst hkl
   go_wp2
   go_ret
   exact ⟨by simp,HBW.out.trans (hbel.mono HBW.out.size)⟩
set_option maxHeartbeats 16000000 in
theorem room_i (a:Option Addr) (rs:List Pr) (c:Nat) (n:Int) (w:World) (h:Prs w a rs) (hc0:rs.length<=c) (hl:rs.length<=1048576) (hs:∀ x∈rs,x.1.size<=1048576/\x.2.size<=1048576) :
  Calls Tryz.prog 159 #[.agg #[.slice a rs.length c],.int .i64 n] w fun e w'=>e=.returned (.int .i64 (roomOf (snapOf rs) n))/\Below w.heap.size w w':=by
 have hb0:Below w.heap.size w (w.alloc (.cells #[.slice a rs.length c] 31)):=(Below.refl _ _).alloc (Nat.le_refl _) _
 have hv:=snap_i a rs c (w.alloc (.cells #[.slice a rs.length c] 31)) (h.below hb0) hc0 hl hs
 have HV:=hid hv
 have HB0:=hid hb0
 clear hv hb0
 obtain ⟨bss,hbss⟩:∃ bss,bss=snapOf rs:=⟨_,rfl⟩
 have hbl:=snapOf_len rs
 have HMB:Hid (∀ b∈bss,b.length<=1048576/\∀ x∈b,x.1.size<=1048576/\x.2.1.size<=1048576):=by
  intro b hb
  rw [hbss] at hb
  obtain ⟨h1,h2⟩:=snapOf_mem hb
  exact ⟨by omega,fun x hx=>hs _ (h2 x hx)⟩
 rw [<-hbss] at HV hbl ⊢
 clear hbss
 go_enter Tryz.func159,Tryz.ntmps159
 go_wp2_with (go_at_call 163;refine HV.out.mono ?_;rintro e w2 ⟨v,rfl,hbat,hb2⟩;obtain ⟨va,vc,rfl,hbt⟩:=hbat.bts)
 have HBT:=hid hbt
 have HBW:=hid (HB0.out.trans (hb2.mono HB0.out.size))
 clear hbat hb2 hbt HV HB0
 go_loopw [5,11] (fun y i wr=>∃ k:Nat,k<=bss.length/\i=.int .i64 (k:Int)/\y=.int .i64 (roomOf (bss.take k) n)/\Below w2.heap.size w2 wr) (fun _ i _=>bss.length-(intOf i).toNat)
 case atStart=>exact ⟨0,Nat.zero_le _,rfl,rfl,Below.refl _ _⟩
 case round =>
  obtain ⟨k,hk,rfl,rfl,hbel⟩:=hrel
  by_cases hlt:k<bss.length
  ·obtain ⟨g,p,cc,rfl,hg,hc,hch⟩:=(HBT.out.below hbel).at hlt
   have hlt':(k:Int)<(bss.length:Int):=by omega
   have hk0:(0:Int)<=(k:Int):=by omega
   have hmem:=HMB.out (bss.getD k []) (by simp [List.getD,hlt])
   have HST:=hid (roomOf_snoc (bss.take k) (bss.getD k []) n)
   rw [<-takeR_snoc bss k [] hlt] at HST
   have hR:=roomOf_bound (bss.take k) n
   have hRl:(bss.take k).length<=5:=by rw [List.length_take];omega
   have hP:=npages_bound (bOut (bss.getD k [])).size n
   have hO:=bOut_bound (bss.getD k [])
   obtain ⟨b,hb⟩:∃ b,b=bss.getD k []:=⟨_,rfl⟩
   rw [<-hb] at hc hch hmem HST hP hO
   obtain ⟨r,hr⟩:∃ r,r=roomOf (bss.take k) n:=⟨_,rfl⟩
   rw [<-hr] at HST hR ⊢
   have HF:=hid (fun W (hW:Chs W p b)=>formbatch_i p b cc W hW hmem.1 hmem.2)
   have HG:=hid (fun W=>pages_i (bOut b) n W (by omega))
   have HCH:=hid hch
   have HBL:=hid hbel
   obtain ⟨q,hq⟩:∃ q,q=npages (bOut b).size n:=⟨_,rfl⟩
   rw [<-hq] at HG hP HST
   obtain ⟨bo,hbo⟩:∃ bo,bo=bOut b:=⟨_,rfl⟩
   rw [<-hbo] at HF HG hP hO
   have hw0:IntKind.i64.wrap (r+q)=r+q:=by simp [IntKind.wrap,IntKind.bits,IntKind.signed];omega
   clear hb hr hq hbo hmem hch hbel
   go_wp2_with (first | (go_at_call 94;refine (HF.out _ HCH.out).mono ?_;rintro e w3 ⟨rfl,hb3⟩) | (go_at_call 95;refine (HG.out _).mono ?_;rintro e w4 ⟨rfl,hb4⟩))
   refine ⟨⟨k+1,by omega,by go_num,?_,?_⟩,by simp [intOf];omega⟩
   ·rw [HST.out]
   ·exact HBL.out.trans ((hb3.trans (hb4.mono hb3.size)).mono HBL.out.size)
  ·have hkl:k=bss.length:=by omega
   subst hkl
   go_wp2
   go_ret
   exact ⟨by simp,HBW.out.trans (hbel.mono HBW.out.size)⟩
def rootOk (T H F R:Int):Bool:=decide (0<=T/\T<=1000000000) && decide (0<=R/\R<=60000) && decide (0<=H/\H<=1) && decide (1<=F/\F<=999999000)
def storeOk (W S L T H F R U O:Int) (rs:List Pr):Bool:=decide (1<=W/\W<=8) && decide (8<=S/\S<=200) && decide (1<=L/\L<=60000) && rootOk T H F R && decide (0<=U/\U<=hv S) && decide (0<=O/\O<=U) && stateOk rs && decide (roomOf (snapOf rs) W<=hv S-1)
theorem in_s (n lo hi:Int) (b:Bool) (h:decide (lo<=n/\n<=hi)=b) (w:World):Calls Tryz.prog 84 #[.int .i64 n,.int .i64 lo,.int .i64 hi] w fun e w'=>e=.returned (.bool b)/\w'=w:=by
 subst h
 by_cases h1:lo<=n<;>by_cases h2:n<=hi<;>(go_enter Tryz.func84,Tryz.ntmps84;go_wp2;go_ret;simp [h1,h2])
theorem hv_yes {S:Int} (h:8<=S/\S<=200):3<=hv S/\hv S<=99:=by unfold hv;rw [if_pos h];omega
theorem hv_no {S:Int} (h:¬ (8<=S/\S<=200)):hv S=0:=by unfold hv;rw [if_neg h]
theorem store_no (W S L T H F R U O:Int) (rs:List Pr) (h:¬ (1<=W/\W<=8)\/¬ (8<=S/\S<=200)\/¬ (1<=L/\L<=60000)\/rootOk T H F R=false\/¬ (0<=U/\U<=hv S)\/¬ (0<=O/\O<=U)\/stateOk rs=false\/¬ (roomOf (snapOf rs) W<=hv S-1)):storeOk W S L T H F R U O rs=false:=by
 unfold storeOk
 rcases h with h | h | h | h | h | h | h | h<;>simp [h]
theorem root_no (T H F R:Int) (h:¬ (0<=T/\T<=1000000000)\/¬ (0<=R/\R<=60000)\/¬ (0<=H/\H<=1)\/¬ (1<=F/\F<=999999000)):rootOk T H F R=false:=by
 unfold rootOk
 rcases h with h | h | h | h<;>simp [h]
set_option maxHeartbeats 16000000 in
theorem vstore_s (W S L T H F R U O:Int) (a:Option Addr) (rs:List Pr) (c:Nat) (w:World) (h:Prs w a rs) (hl:rs.length<=1048576) (hs:∀ x∈rs,x.1.size<=1048576/\x.2.size<=1048576) :
  Calls Tryz.prog 20 #[storeV W S L T H F R U O a rs.length c] w fun e w'=>e=.returned (.bool (storeOk W S L T H F R U O rs))/\Below w.heap.size w w':=by
 unfold storeV
 have hb0:∀ o,Below w.heap.size w (w.alloc o):=fun o=>(Below.refl _ _).alloc (Nat.le_refl _) _
 have hb1:∀ o p,Below w.heap.size w ((w.alloc o).alloc p):=fun o p=>((Below.refl _ _).alloc (Nat.le_refl _) _).alloc (by simp) _
 have HVS:=hid (fun o p=>vstate_s a rs c ((w.alloc o).alloc p) (h.below (hb1 o p)) hl hs)
 have HRM:=hid (fun w2 (h2:Below w.heap.size w w2)=>room_s a rs c W w2 (h.below h2) hl hs)
 obtain ⟨E,HE⟩:∃ E,Hid (E=storeOk W S L T H F R U O rs):=⟨_,hid rfl⟩
 rw [<-HE.out]
 obtain ⟨Q,hQ⟩:∃ Q,Q=hv S:=⟨_,rfl⟩
 have HQ:=hid hQ
 have no:=store_no W S L T H F R U O rs
 rw [<-HE.out,<-hQ] at no
 have NO:=hid no
 clear no hQ
 by_cases c1:1<=W/\W<=8
 case neg =>
  have d1:decide (1<=W/\W<=8)=false:=decide_eq_false c1
  have he:E=false:=NO.out (.inl (c1))
  subst he
  go_enter Tryz.func20,Tryz.ntmps20
  go_wp2_with (first | (go_at_call 30;refine (halves_s _ _).mono ?_;rw [<-HQ.out];rintro e wz ⟨rfl,hwz⟩;rw [hwz];clear hwz wz) | (go_at_call 49;refine (width_s _ _).mono ?_;rw [d1];rintro e wz ⟨rfl,hwz⟩;rw [hwz];clear hwz wz) | (go_at_call 84;refine (in_s _ _ _ _ (by assumption) _).mono ?_;rintro e wz ⟨rfl,hwz⟩;rw [hwz];clear hwz wz))
  go_ret
  exact ⟨rfl,hb0 _⟩
 have d1:decide (1<=W/\W<=8)=true:=decide_eq_true c1
 by_cases c2:8<=S/\S<=200
 case neg =>
  have d2:decide (8<=S/\S<=200)=false:=decide_eq_false c2
  have hq0:Q=0:=by rw [HQ.out];exact hv_no c2
  subst hq0
  have he:E=false:=NO.out (.inr (.inl (c2)))
  subst he
  go_enter Tryz.func20,Tryz.ntmps20
  go_wp2_with (first | (go_at_call 30;refine (halves_s _ _).mono ?_;rw [<-HQ.out];rintro e wz ⟨rfl,hwz⟩;rw [hwz];clear hwz wz) | (go_at_call 49;refine (width_s _ _).mono ?_;rw [d1];rintro e wz ⟨rfl,hwz⟩;rw [hwz];clear hwz wz) | (go_at_call 84;refine (in_s _ _ _ _ (by assumption) _).mono ?_;rintro e wz ⟨rfl,hwz⟩;rw [hwz];clear hwz wz))
  go_ret
  exact ⟨rfl,hb0 _⟩
 have d2:decide (8<=S/\S<=200)=true:=decide_eq_true c2
 have hqb:3<=Q/\Q<=99:=by rw [HQ.out];exact hv_yes c2
 have hq0:¬ Q=0:=by omega
 by_cases c3:1<=L/\L<=60000
 case neg =>
  have d3:decide (1<=L/\L<=60000)=false:=decide_eq_false c3
  have he:E=false:=NO.out (.inr (.inr (.inl (c3))))
  subst he
  go_enter Tryz.func20,Tryz.ntmps20
  go_wp2_with (first | (go_at_call 30;refine (halves_s _ _).mono ?_;rw [<-HQ.out];rintro e wz ⟨rfl,hwz⟩;rw [hwz];clear hwz wz) | (go_at_call 49;refine (width_s _ _).mono ?_;rw [d1];rintro e wz ⟨rfl,hwz⟩;rw [hwz];clear hwz wz) | (go_at_call 84;refine (in_s _ _ _ _ (by assumption) _).mono ?_;rintro e wz ⟨rfl,hwz⟩;rw [hwz];clear hwz wz))
  go_ret
  exact ⟨rfl,hb0 _⟩
 have d3:decide (1<=L/\L<=60000)=true:=decide_eq_true c3
 by_cases c4:0<=T/\T<=1000000000
 case neg =>
  have d4:decide (0<=T/\T<=1000000000)=false:=decide_eq_false c4
  have he:E=false:=NO.out (.inr (.inr (.inr (.inl (root_no T H F R (.inl (c4)))))))
  subst he
  go_enter Tryz.func20,Tryz.ntmps20
  go_wp2_with (first | (go_at_call 30;refine (halves_s _ _).mono ?_;rw [<-HQ.out];rintro e wz ⟨rfl,hwz⟩;rw [hwz];clear hwz wz) | (go_at_call 49;refine (width_s _ _).mono ?_;rw [d1];rintro e wz ⟨rfl,hwz⟩;rw [hwz];clear hwz wz) | (go_at_call 84;refine (in_s _ _ _ _ (by assumption) _).mono ?_;rintro e wz ⟨rfl,hwz⟩;rw [hwz];clear hwz wz))
  go_ret
  exact ⟨rfl,hb1 _ _⟩
 have d4:decide (0<=T/\T<=1000000000)=true:=decide_eq_true c4
 by_cases c5:0<=H/\H<=1
 case neg =>
  have d5:decide (0<=H/\H<=1)=false:=decide_eq_false c5
  have he:E=false:=NO.out (.inr (.inr (.inr (.inl (root_no T H F R (.inr (.inr (.inl (c5)))))))))
  subst he
  go_enter Tryz.func20,Tryz.ntmps20
  go_wp2_with (first | (go_at_call 30;refine (halves_s _ _).mono ?_;rw [<-HQ.out];rintro e wz ⟨rfl,hwz⟩;rw [hwz];clear hwz wz) | (go_at_call 49;refine (width_s _ _).mono ?_;rw [d1];rintro e wz ⟨rfl,hwz⟩;rw [hwz];clear hwz wz) | (go_at_call 84;refine (in_s _ _ _ _ (by assumption) _).mono ?_;rintro e wz ⟨rfl,hwz⟩;rw [hwz];clear hwz wz))
  go_ret
  exact ⟨rfl,hb1 _ _⟩
 have d5:decide (0<=H/\H<=1)=true:=decide_eq_true c5
 by_cases c6:1<=F/\F<=999999000
 case neg =>
  have d6:decide (1<=F/\F<=999999000)=false:=decide_eq_false c6
  have he:E=false:=NO.out (.inr (.inr (.inr (.inl (root_no T H F R (.inr (.inr (.inr (c6)))))))))
  subst he
  go_enter Tryz.func20,Tryz.ntmps20
  go_wp2_with (first | (go_at_call 30;refine (halves_s _ _).mono ?_;rw [<-HQ.out];rintro e wz ⟨rfl,hwz⟩;rw [hwz];clear hwz wz) | (go_at_call 49;refine (width_s _ _).mono ?_;rw [d1];rintro e wz ⟨rfl,hwz⟩;rw [hwz];clear hwz wz) | (go_at_call 84;refine (in_s _ _ _ _ (by assumption) _).mono ?_;rintro e wz ⟨rfl,hwz⟩;rw [hwz];clear hwz wz))
  go_ret
  exact ⟨rfl,hb1 _ _⟩
 have d6:decide (1<=F/\F<=999999000)=true:=decide_eq_true c6
 by_cases c7:0<=R/\R<=60000
 case neg =>
  have d7:decide (0<=R/\R<=60000)=false:=decide_eq_false c7
  have he:E=false:=NO.out (.inr (.inr (.inr (.inl (root_no T H F R (.inr (.inl (c7))))))))
  subst he
  go_enter Tryz.func20,Tryz.ntmps20
  go_wp2_with (first | (go_at_call 30;refine (halves_s _ _).mono ?_;rw [<-HQ.out];rintro e wz ⟨rfl,hwz⟩;rw [hwz];clear hwz wz) | (go_at_call 49;refine (width_s _ _).mono ?_;rw [d1];rintro e wz ⟨rfl,hwz⟩;rw [hwz];clear hwz wz) | (go_at_call 84;refine (in_s _ _ _ _ (by assumption) _).mono ?_;rintro e wz ⟨rfl,hwz⟩;rw [hwz];clear hwz wz))
  go_ret
  exact ⟨rfl,hb1 _ _⟩
 have d7:decide (0<=R/\R<=60000)=true:=decide_eq_true c7
 by_cases c8:0<=U/\U<=Q
 case neg =>
  have d8:decide (0<=U/\U<=Q)=false:=decide_eq_false c8
  have he:E=false:=NO.out (.inr (.inr (.inr (.inr (.inl (c8))))))
  subst he
  go_enter Tryz.func20,Tryz.ntmps20
  go_wp2_with (first | (go_at_call 30;refine (halves_s _ _).mono ?_;rw [<-HQ.out];rintro e wz ⟨rfl,hwz⟩;rw [hwz];clear hwz wz) | (go_at_call 49;refine (width_s _ _).mono ?_;rw [d1];rintro e wz ⟨rfl,hwz⟩;rw [hwz];clear hwz wz) | (go_at_call 84;refine (in_s _ _ _ _ (by assumption) _).mono ?_;rintro e wz ⟨rfl,hwz⟩;rw [hwz];clear hwz wz))
  go_ret
  exact ⟨rfl,hb1 _ _⟩
 have d8:decide (0<=U/\U<=Q)=true:=decide_eq_true c8
 by_cases c9:0<=O/\O<=U
 case neg =>
  have d9:decide (0<=O/\O<=U)=false:=decide_eq_false c9
  have he:E=false:=NO.out (.inr (.inr (.inr (.inr (.inr (.inl (c9)))))))
  subst he
  go_enter Tryz.func20,Tryz.ntmps20
  go_wp2_with (first | (go_at_call 30;refine (halves_s _ _).mono ?_;rw [<-HQ.out];rintro e wz ⟨rfl,hwz⟩;rw [hwz];clear hwz wz) | (go_at_call 49;refine (width_s _ _).mono ?_;rw [d1];rintro e wz ⟨rfl,hwz⟩;rw [hwz];clear hwz wz) | (go_at_call 84;refine (in_s _ _ _ _ (by assumption) _).mono ?_;rintro e wz ⟨rfl,hwz⟩;rw [hwz];clear hwz wz))
  go_ret
  exact ⟨rfl,hb1 _ _⟩
 have d9:decide (0<=O/\O<=U)=true:=decide_eq_true c9
 cases dS:stateOk rs with
 | false =>
  have he:E=false:=NO.out (.inr (.inr (.inr (.inr (.inr (.inr (.inl (dS))))))))
  subst he
  go_enter Tryz.func20,Tryz.ntmps20
  go_wp2_with (first | (go_at_call 30;refine (halves_s _ _).mono ?_;rw [<-HQ.out];rintro e wz ⟨rfl,hwz⟩;rw [hwz];clear hwz wz) | (go_at_call 49;refine (width_s _ _).mono ?_;rw [d1];rintro e wz ⟨rfl,hwz⟩;rw [hwz];clear hwz wz) | (go_at_call 84;refine (in_s _ _ _ _ (by assumption) _).mono ?_;rintro e wz ⟨rfl,hwz⟩;rw [hwz];clear hwz wz) | (go_at_call 85;refine (HVS.out _ _).mono ?_;rw [dS];rintro e w2 ⟨rfl,hb2⟩))
  go_ret
  exact ⟨rfl,(hb1 _ _).trans (hb2.mono (by simp<;>omega))⟩
 | true =>
  have hR:=roomOf_bound (snapOf rs) W
  have hRl:=snapOf_len rs
  obtain ⟨G,HG⟩:∃ G,Hid (G=roomOf (snapOf rs) W):=⟨_,hid rfl⟩
  rw [<-HG.out] at hR HRM NO
  have he:E=decide (G<=Q-1):=by
   rw [HE.out,HG.out,HQ.out]
   rw [HQ.out] at c8
   unfold storeOk rootOk
   simp [c1,c2,c3,c4,c5,c6,c7,c8,c9,dS]
  have hw1:IntKind.i64.wrap (Q-1)=Q-1:=by simp [IntKind.wrap,IntKind.bits,IntKind.signed];omega
  clear NO HE
  by_cases cG:G<=Q-1
  ·have dG:decide (G<=Q-1)=true:=decide_eq_true cG
   rw [dG] at he
   subst he
   go_enter Tryz.func20,Tryz.ntmps20
   go_wp2_with (first | (go_at_call 30;refine (halves_s _ _).mono ?_;rw [<-HQ.out];rintro e wz ⟨rfl,hwz⟩;rw [hwz];clear hwz wz) | (go_at_call 49;refine (width_s _ _).mono ?_;rw [d1];rintro e wz ⟨rfl,hwz⟩;rw [hwz];clear hwz wz) | (go_at_call 84;refine (in_s _ _ _ _ (by assumption) _).mono ?_;rintro e wz ⟨rfl,hwz⟩;rw [hwz];clear hwz wz) | (go_at_call 85;refine (HVS.out _ _).mono ?_;rw [dS];rintro e w2 ⟨rfl,hb2⟩;have q20:w2.cell? ⟨w.heap.size,0,none⟩=some (.int .i64 W):=(hb2.cell (p:=⟨w.heap.size,0,none⟩) (by simp<;>omega)).trans (by go_simp);have q29:w2.cell? ⟨w.heap.size,9,none⟩=some (.slice a rs.length c):=(hb2.cell (p:=⟨w.heap.size,9,none⟩) (by simp<;>omega)).trans (by go_simp);have HB2:=hid ((hb1 _ _).trans (hb2.mono (by simp<;>omega)))) | (go_at_call 31;refine (HRM.out _ HB2.out).mono ?_;rintro e w3 ⟨rfl,hb3⟩))
   go_ret
   exact ⟨rfl,HB2.out.trans (hb3.mono HB2.out.size)⟩
  ·have dG:decide (G<=Q-1)=false:=decide_eq_false cG
   rw [dG] at he
   subst he
   go_enter Tryz.func20,Tryz.ntmps20
   go_wp2_with (first | (go_at_call 30;refine (halves_s _ _).mono ?_;rw [<-HQ.out];rintro e wz ⟨rfl,hwz⟩;rw [hwz];clear hwz wz) | (go_at_call 49;refine (width_s _ _).mono ?_;rw [d1];rintro e wz ⟨rfl,hwz⟩;rw [hwz];clear hwz wz) | (go_at_call 84;refine (in_s _ _ _ _ (by assumption) _).mono ?_;rintro e wz ⟨rfl,hwz⟩;rw [hwz];clear hwz wz) | (go_at_call 85;refine (HVS.out _ _).mono ?_;rw [dS];rintro e w2 ⟨rfl,hb2⟩;have q20:w2.cell? ⟨w.heap.size,0,none⟩=some (.int .i64 W):=(hb2.cell (p:=⟨w.heap.size,0,none⟩) (by simp<;>omega)).trans (by go_simp);have q29:w2.cell? ⟨w.heap.size,9,none⟩=some (.slice a rs.length c):=(hb2.cell (p:=⟨w.heap.size,9,none⟩) (by simp<;>omega)).trans (by go_simp);have HB2:=hid ((hb1 _ _).trans (hb2.mono (by simp<;>omega)))) | (go_at_call 31;refine (HRM.out _ HB2.out).mono ?_;rintro e w3 ⟨rfl,hb3⟩))
   go_ret
   exact ⟨rfl,HB2.out.trans (hb3.mono HB2.out.size)⟩
end Go.Proofs.YtnmaknnnmjfhkagGreatDoor
