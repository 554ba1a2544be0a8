import Derived.Test.YthdilmkbnpmdaaaPrFbS
import Derived.Test.YthdilmkbnpmdaaaPrFbI
import Derived.Test.YthdilmkbnpmdaaaPrG38
import Derived.Test.YthdilmkbnpmdaaaPrG53
set_option maxHeartbeats 16000000
set_option maxRecDepth 8000
set_option linter.unusedVariables false
set_option linter.unusedSimpArgs false
namespace Go.Proofs.Ythdilmkbnpmdaaa
open Go.RowKit
def roomOf (bss:List (List Ch)) (n:Int):Int:=(bss.map fun b=>npages (bOut b).size n).sum
theorem npages_bound (l:Nat) (n:Int):0<=npages l n/\npages l n<=(l:Int)+1:=by
 unfold npages nparts
 split
 ·split
  ·omega
  ·have h:=Nat.div_le_self (l-1) (56-n).toNat
   obtain ⟨q,hq⟩:∃ q,q=(l-1) / (56-n).toNat:=⟨_,rfl⟩
   rw [<-hq] at h ⊢
   omega
 ·omega
theorem bOut_bound (b:List Ch):(bOut b).size<=2460:=by
 unfold bOut
 split
 ·rename_i h
  obtain ⟨h1,h2⟩:=batchOk_of h
  have:=bForm_size b h2
  omega
 ·simp
theorem roomOf_nil (n:Int):roomOf [] n=0:=rfl
theorem roomOf_snoc (bss:List (List Ch)) (b:List Ch) (n:Int):roomOf (bss++[b]) n=roomOf bss n+npages (bOut b).size n:=by simp [roomOf]
theorem roomOf_bound (bss:List (List Ch)) (n:Int):0<=roomOf bss n/\roomOf bss n<=2461*(bss.length:Int):=by
 induction bss with
 | nil=>exact ⟨Int.le_refl _,by simp [roomOf]⟩
 | cons b r ih =>
  have e:roomOf (b::r) n=npages (bOut b).size n+roomOf r n:=by simp [roomOf]
  have h1:=npages_bound (bOut b).size n
  have h2:=bOut_bound b
  rw [e,List.length_cons]
  omega
theorem takeR_snoc {α:Type} (l:List α) (k:Nat) (d:α) (h:k<l.length):l.take (k+1)=l.take k++[l.getD k d]:=by
 rw [List.take_succ_eq_append_getElem h]
 simp [List.getD,h]
theorem room_s (a:Option Addr) (rs:List Pr) (c:Nat) (n:Int) (w:World) (h:Prs w a rs) (hl:rs.length<=1048576) (hs:∀ x∈rs,x.1.size<=1048576/\x.2.size<=1048576) :
  Calls Try.prog 55 #[.agg #[.slice a rs.length c],.int .i64 n] w fun e w'=>e=.returned (.int .i64 (roomOf (snapOf rs) n))/\Below w.heap.size w w':=by
 have hb0:Below w.heap.size w (w.alloc (.cells #[.slice a rs.length c] 77)):=(Below.refl _ _).alloc (Nat.le_refl _) _
 have hv:=snap_s a rs c (w.alloc (.cells #[.slice a rs.length c] 77)) (h.below hb0) hl hs
 have HV:=hid hv
 have HB0:=hid hb0
 clear hv hb0
 obtain ⟨bss,hbss⟩:∃ bss,bss=snapOf rs:=⟨_,rfl⟩
 have hbl:=snapOf_len rs
 have HMB:Hid (∀ b∈bss,b.length<=1048576/\∀ x∈b,x.1.size<=1048576/\x.2.1.size<=1048576):=by
  intro b hb
  rw [hbss] at hb
  obtain ⟨h1,h2⟩:=snapOf_mem hb
  exact ⟨by omega,fun x hx=>hs _ (h2 x hx)⟩
 rw [<-hbss] at HV hbl ⊢
 clear hbss
 go_enter Try.func55,Try.ntmps55
 go_wp2_with (go_at_call 71;refine HV.out.mono ?_;rintro e w2 ⟨v,rfl,hbat,hb2⟩)
 obtain ⟨va,vc,rfl,hbt⟩:=hbat.bts
 have HBT:=hid hbt
 have HBW:=hid (HB0.out.trans (hb2.mono HB0.out.size))
 clear hbat hb2 hbt HV HB0
 go_loopw [5,7] (fun y i wr=>∃ k:Nat,k<=bss.length/\i=.int .i64 (k:Int)/\y=.int .i64 (roomOf (bss.take k) n)/\Below w2.heap.size w2 wr) (fun _ i _=>bss.length-(intOf i).toNat)
 case atStart=>exact ⟨0,Nat.zero_le _,rfl,rfl,Below.refl _ _⟩
 case round =>
  obtain ⟨k,hk,rfl,rfl,hbel⟩:=hrel
  by_cases hlt:k<bss.length
  ·obtain ⟨g,p,cc,rfl,hg,hc,hch⟩:=(HBT.out.below hbel).at hlt
   have hlt':(k:Int)<(bss.length:Int):=by omega
   have hk0:(0:Int)<=(k:Int):=by omega
   have hmem:=HMB.out (bss.getD k []) (by simp [List.getD,hlt])
   have HST:=hid (roomOf_snoc (bss.take k) (bss.getD k []) n)
   rw [<-takeR_snoc bss k [] hlt] at HST
   have hR:=roomOf_bound (bss.take k) n
   have hRl:(bss.take k).length<=5:=by rw [List.length_take];omega
   have hP:=npages_bound (bOut (bss.getD k [])).size n
   have hO:=bOut_bound (bss.getD k [])
   obtain ⟨b,hb⟩:∃ b,b=bss.getD k []:=⟨_,rfl⟩
   rw [<-hb] at hc hch hmem HST hP hO
   obtain ⟨r,hr⟩:∃ r,r=roomOf (bss.take k) n:=⟨_,rfl⟩
   rw [<-hr] at HST hR ⊢
   have HF:=hid (fun W (hW:Chs W p b)=>formbatch_s p b cc W hW hmem.1 hmem.2)
   have HG:=hid (fun W=>pages_s (bOut b) n W (by omega))
   have HCH:=hid hch
   have HBL:=hid hbel
   obtain ⟨q,hq⟩:∃ q,q=npages (bOut b).size n:=⟨_,rfl⟩
   rw [<-hq] at HG hP HST
   obtain ⟨bo,hbo⟩:∃ bo,bo=bOut b:=⟨_,rfl⟩
   rw [<-hbo] at HF HG hP hO
   have hw0:IntKind.i64.wrap (r+q)=r+q:=by simp [IntKind.wrap,IntKind.bits,IntKind.signed];omega
   clear hb hr hq hbo hmem hch hbel
   go_wp2_with (first | (go_at_call 57;refine (HF.out _ HCH.out).mono ?_;rintro e w3 ⟨rfl,hb3⟩) | (go_at_call 72;refine (HG.out _).mono ?_;rintro e w4 ⟨rfl,hb4⟩))
   refine ⟨⟨k+1,by omega,by go_num,?_,?_⟩,by simp [intOf];omega⟩
   ·rw [HST.out]
   ·exact HBL.out.trans ((hb3.trans (hb4.mono hb3.size)).mono HBL.out.size)
  ·have hkl:k=bss.length:=by omega
   subst hkl
   go_wp2
   go_ret
   exact ⟨by simp,HBW.out.trans (hbel.mono HBW.out.size)⟩
def rootOk (T H F R:Int):Bool:=decide (0<=T/\T<=1000000000) && decide (0<=R/\R<=60000) && decide (0<=H/\H<=1) && decide (1<=F/\F<=999999000)
def storeOk (W S L T H F R U O:Int) (rs:List Pr):Bool:=decide (1<=W/\W<=8) && decide (8<=S/\S<=200) && decide (1<=L/\L<=60000) && rootOk T H F R && decide (0<=U/\U<=hv S) && decide (0<=O/\O<=U) && stateOk rs && decide (roomOf (snapOf rs) W<=hv S-1)
theorem in_s (n lo hi:Int) (b:Bool) (h:decide (lo<=n/\n<=hi)=b) (w:World):Calls Try.prog 67 #[.int .i64 n,.int .i64 lo,.int .i64 hi] w fun e w'=>e=.returned (.bool b)/\w'=w:=by
 subst h
 by_cases h1:lo<=n<;>by_cases h2:n<=hi<;>(go_enter Try.func67,Try.ntmps67;go_wp2;go_ret;simp [h1,h2])
theorem hv_yes {S:Int} (h:8<=S/\S<=200):3<=hv S/\hv S<=99:=by unfold hv;rw [if_pos h];omega
theorem hv_no {S:Int} (h:¬ (8<=S/\S<=200)):hv S=0:=by unfold hv;rw [if_neg h]
theorem store_no (W S L T H F R U O:Int) (rs:List Pr) (h:¬ (1<=W/\W<=8)\/¬ (8<=S/\S<=200)\/¬ (1<=L/\L<=60000)\/rootOk T H F R=false\/¬ (0<=U/\U<=hv S)\/¬ (0<=O/\O<=U)\/stateOk rs=false\/¬ (roomOf (snapOf rs) W<=hv S-1)):storeOk W S L T H F R U O rs=false:=by
 unfold storeOk
 rcases h with h | h | h | h | h | h | h | h<;>simp [h]
theorem root_no (T H F R:Int) (h:¬ (0<=T/\T<=1000000000)\/¬ (0<=R/\R<=60000)\/¬ (0<=H/\H<=1)\/¬ (1<=F/\F<=999999000)):rootOk T H F R=false:=by
 unfold rootOk
 rcases h with h | h | h | h<;>simp [h]
theorem vstore_s (W S L T H F R U O:Int) (a:Option Addr) (rs:List Pr) (c:Nat) (w:World) (h:Prs w a rs) (hl:rs.length<=1048576) (hs:∀ x∈rs,x.1.size<=1048576/\x.2.size<=1048576) :
  Calls Try.prog 51 #[storeV W S L T H F R U O a rs.length c] w fun e w'=>e=.returned (.bool (storeOk W S L T H F R U O rs))/\Below w.heap.size w w':=by
 unfold storeV
 have hb0:∀ o,Below w.heap.size w (w.alloc o):=fun o=>(Below.refl _ _).alloc (Nat.le_refl _) _
 have hb1:∀ o p,Below w.heap.size w ((w.alloc o).alloc p):=fun o p=>((Below.refl _ _).alloc (Nat.le_refl _) _).alloc (by simp) _
 have HVS:=hid (fun o p=>vstate_s a rs c ((w.alloc o).alloc p) (h.below (hb1 o p)) hl hs)
 have HRM:=hid (fun w2 (h2:Below w.heap.size w w2)=>room_s a rs c W w2 (h.below h2) hl hs)
 obtain ⟨E,HE⟩:∃ E,Hid (E=storeOk W S L T H F R U O rs):=⟨_,hid rfl⟩
 rw [<-HE.out]
 obtain ⟨Q,hQ⟩:∃ Q,Q=hv S:=⟨_,rfl⟩
 have HQ:=hid hQ
 have no:=store_no W S L T H F R U O rs
 rw [<-HE.out,<-hQ] at no
 have NO:=hid no
 clear no hQ
 by_cases c1:1<=W/\W<=8
 case neg =>
  have d1:decide (1<=W/\W<=8)=false:=decide_eq_false c1
  have he:E=false:=NO.out (.inl (c1))
  subst he
  go_enter Try.func51,Try.ntmps51
  go_wp2_with (first | (go_at_call 54;refine (halves_s _ _).mono ?_;rw [<-HQ.out];rintro e wz ⟨rfl,hwz⟩;rw [hwz];clear hwz wz) | (go_at_call 50;refine (width_s _ _).mono ?_;rw [d1];rintro e wz ⟨rfl,hwz⟩;rw [hwz];clear hwz wz) | (go_at_call 67;refine (in_s _ _ _ _ (by assumption) _).mono ?_;rintro e wz ⟨rfl,hwz⟩;rw [hwz];clear hwz wz))
  go_ret
  exact ⟨rfl,hb0 _⟩
 have d1:decide (1<=W/\W<=8)=true:=decide_eq_true c1
 by_cases c2:8<=S/\S<=200
 case neg =>
  have d2:decide (8<=S/\S<=200)=false:=decide_eq_false c2
  have hq0:Q=0:=by rw [HQ.out];exact hv_no c2
  subst hq0
  have he:E=false:=NO.out (.inr (.inl (c2)))
  subst he
  go_enter Try.func51,Try.ntmps51
  go_wp2_with (first | (go_at_call 54;refine (halves_s _ _).mono ?_;rw [<-HQ.out];rintro e wz ⟨rfl,hwz⟩;rw [hwz];clear hwz wz) | (go_at_call 50;refine (width_s _ _).mono ?_;rw [d1];rintro e wz ⟨rfl,hwz⟩;rw [hwz];clear hwz wz) | (go_at_call 67;refine (in_s _ _ _ _ (by assumption) _).mono ?_;rintro e wz ⟨rfl,hwz⟩;rw [hwz];clear hwz wz))
  go_ret
  exact ⟨rfl,hb0 _⟩
 have d2:decide (8<=S/\S<=200)=true:=decide_eq_true c2
 have hqb:3<=Q/\Q<=99:=by rw [HQ.out];exact hv_yes c2
 have hq0:¬ Q=0:=by omega
 by_cases c3:1<=L/\L<=60000
 case neg =>
  have d3:decide (1<=L/\L<=60000)=false:=decide_eq_false c3
  have he:E=false:=NO.out (.inr (.inr (.inl (c3))))
  subst he
  go_enter Try.func51,Try.ntmps51
  go_wp2_with (first | (go_at_call 54;refine (halves_s _ _).mono ?_;rw [<-HQ.out];rintro e wz ⟨rfl,hwz⟩;rw [hwz];clear hwz wz) | (go_at_call 50;refine (width_s _ _).mono ?_;rw [d1];rintro e wz ⟨rfl,hwz⟩;rw [hwz];clear hwz wz) | (go_at_call 67;refine (in_s _ _ _ _ (by assumption) _).mono ?_;rintro e wz ⟨rfl,hwz⟩;rw [hwz];clear hwz wz))
  go_ret
  exact ⟨rfl,hb0 _⟩
 have d3:decide (1<=L/\L<=60000)=true:=decide_eq_true c3
 by_cases c4:0<=T/\T<=1000000000
 case neg =>
  have d4:decide (0<=T/\T<=1000000000)=false:=decide_eq_false c4
  have he:E=false:=NO.out (.inr (.inr (.inr (.inl (root_no T H F R (.inl (c4)))))))
  subst he
  go_enter Try.func51,Try.ntmps51
  go_wp2_with (first | (go_at_call 54;refine (halves_s _ _).mono ?_;rw [<-HQ.out];rintro e wz ⟨rfl,hwz⟩;rw [hwz];clear hwz wz) | (go_at_call 50;refine (width_s _ _).mono ?_;rw [d1];rintro e wz ⟨rfl,hwz⟩;rw [hwz];clear hwz wz) | (go_at_call 67;refine (in_s _ _ _ _ (by assumption) _).mono ?_;rintro e wz ⟨rfl,hwz⟩;rw [hwz];clear hwz wz))
  go_ret
  exact ⟨rfl,hb1 _ _⟩
 have d4:decide (0<=T/\T<=1000000000)=true:=decide_eq_true c4
 by_cases c5:0<=H/\H<=1
 case neg =>
  have d5:decide (0<=H/\H<=1)=false:=decide_eq_false c5
  have he:E=false:=NO.out (.inr (.inr (.inr (.inl (root_no T H F R (.inr (.inr (.inl (c5)))))))))
  subst he
  go_enter Try.func51,Try.ntmps51
  go_wp2_with (first | (go_at_call 54;refine (halves_s _ _).mono ?_;rw [<-HQ.out];rintro e wz ⟨rfl,hwz⟩;rw [hwz];clear hwz wz) | (go_at_call 50;refine (width_s _ _).mono ?_;rw [d1];rintro e wz ⟨rfl,hwz⟩;rw [hwz];clear hwz wz) | (go_at_call 67;refine (in_s _ _ _ _ (by assumption) _).mono ?_;rintro e wz ⟨rfl,hwz⟩;rw [hwz];clear hwz wz))
  go_ret
  exact ⟨rfl,hb1 _ _⟩
 have d5:decide (0<=H/\H<=1)=true:=decide_eq_true c5
 by_cases c6:1<=F/\F<=999999000
 case neg =>
  have d6:decide (1<=F/\F<=999999000)=false:=decide_eq_false c6
  have he:E=false:=NO.out (.inr (.inr (.inr (.inl (root_no T H F R (.inr (.inr (.inr (c6)))))))))
  subst he
  go_enter Try.func51,Try.ntmps51
  go_wp2_with (first | (go_at_call 54;refine (halves_s _ _).mono ?_;rw [<-HQ.out];rintro e wz ⟨rfl,hwz⟩;rw [hwz];clear hwz wz) | (go_at_call 50;refine (width_s _ _).mono ?_;rw [d1];rintro e wz ⟨rfl,hwz⟩;rw [hwz];clear hwz wz) | (go_at_call 67;refine (in_s _ _ _ _ (by assumption) _).mono ?_;rintro e wz ⟨rfl,hwz⟩;rw [hwz];clear hwz wz))
  go_ret
  exact ⟨rfl,hb1 _ _⟩
 have d6:decide (1<=F/\F<=999999000)=true:=decide_eq_true c6
 by_cases c7:0<=R/\R<=60000
 case neg =>
  have d7:decide (0<=R/\R<=60000)=false:=decide_eq_false c7
  have he:E=false:=NO.out (.inr (.inr (.inr (.inl (root_no T H F R (.inr (.inl (c7))))))))
  subst he
  go_enter Try.func51,Try.ntmps51
  go_wp2_with (first | (go_at_call 54;refine (halves_s _ _).mono ?_;rw [<-HQ.out];rintro e wz ⟨rfl,hwz⟩;rw [hwz];clear hwz wz) | (go_at_call 50;refine (width_s _ _).mono ?_;rw [d1];rintro e wz ⟨rfl,hwz⟩;rw [hwz];clear hwz wz) | (go_at_call 67;refine (in_s _ _ _ _ (by assumption) _).mono ?_;rintro e wz ⟨rfl,hwz⟩;rw [hwz];clear hwz wz))
  go_ret
  exact ⟨rfl,hb1 _ _⟩
 have d7:decide (0<=R/\R<=60000)=true:=decide_eq_true c7
 by_cases c8:0<=U/\U<=Q
 case neg =>
  have d8:decide (0<=U/\U<=Q)=false:=decide_eq_false c8
  have he:E=false:=NO.out (.inr (.inr (.inr (.inr (.inl (c8))))))
  subst he
  go_enter Try.func51,Try.ntmps51
  go_wp2_with (first | (go_at_call 54;refine (halves_s _ _).mono ?_;rw [<-HQ.out];rintro e wz ⟨rfl,hwz⟩;rw [hwz];clear hwz wz) | (go_at_call 50;refine (width_s _ _).mono ?_;rw [d1];rintro e wz ⟨rfl,hwz⟩;rw [hwz];clear hwz wz) | (go_at_call 67;refine (in_s _ _ _ _ (by assumption) _).mono ?_;rintro e wz ⟨rfl,hwz⟩;rw [hwz];clear hwz wz))
  go_ret
  exact ⟨rfl,hb1 _ _⟩
 have d8:decide (0<=U/\U<=Q)=true:=decide_eq_true c8
 by_cases c9:0<=O/\O<=U
 case neg =>
  have d9:decide (0<=O/\O<=U)=false:=decide_eq_false c9
  have he:E=false:=NO.out (.inr (.inr (.inr (.inr (.inr (.inl (c9)))))))
  subst he
  go_enter Try.func51,Try.ntmps51
  go_wp2_with (first | (go_at_call 54;refine (halves_s _ _).mono ?_;rw [<-HQ.out];rintro e wz ⟨rfl,hwz⟩;rw [hwz];clear hwz wz) | (go_at_call 50;refine (width_s _ _).mono ?_;rw [d1];rintro e wz ⟨rfl,hwz⟩;rw [hwz];clear hwz wz) | (go_at_call 67;refine (in_s _ _ _ _ (by assumption) _).mono ?_;rintro e wz ⟨rfl,hwz⟩;rw [hwz];clear hwz wz))
  go_ret
  exact ⟨rfl,hb1 _ _⟩
 have d9:decide (0<=O/\O<=U)=true:=decide_eq_true c9
 cases dS:stateOk rs with
 | false =>
  have he:E=false:=NO.out (.inr (.inr (.inr (.inr (.inr (.inr (.inl (dS))))))))
  subst he
  go_enter Try.func51,Try.ntmps51
  go_wp2_with (first | (go_at_call 54;refine (halves_s _ _).mono ?_;rw [<-HQ.out];rintro e wz ⟨rfl,hwz⟩;rw [hwz];clear hwz wz) | (go_at_call 50;refine (width_s _ _).mono ?_;rw [d1];rintro e wz ⟨rfl,hwz⟩;rw [hwz];clear hwz wz) | (go_at_call 67;refine (in_s _ _ _ _ (by assumption) _).mono ?_;rintro e wz ⟨rfl,hwz⟩;rw [hwz];clear hwz wz) | (go_at_call 68;refine (HVS.out _ _).mono ?_;rw [dS];rintro e w2 ⟨rfl,hb2⟩))
  go_ret
  exact ⟨rfl,(hb1 _ _).trans (hb2.mono (by simp<;>omega))⟩
 | true =>
  have hR:=roomOf_bound (snapOf rs) W
  have hRl:=snapOf_len rs
  obtain ⟨G,HG⟩:∃ G,Hid (G=roomOf (snapOf rs) W):=⟨_,hid rfl⟩
  rw [<-HG.out] at hR HRM NO
  have he:E=decide (G<=Q-1):=by
   rw [HE.out,HG.out,HQ.out]
   rw [HQ.out] at c8
   unfold storeOk rootOk
   simp [c1,c2,c3,c4,c5,c6,c7,c8,c9,dS]
  have hw1:IntKind.i64.wrap (Q-1)=Q-1:=by simp [IntKind.wrap,IntKind.bits,IntKind.signed];omega
  clear NO HE
  by_cases cG:G<=Q-1
  ·have dG:decide (G<=Q-1)=true:=decide_eq_true cG
   rw [dG] at he
   subst he
   go_enter Try.func51,Try.ntmps51
   go_wp2_with (first | (go_at_call 54;refine (halves_s _ _).mono ?_;rw [<-HQ.out];rintro e wz ⟨rfl,hwz⟩;rw [hwz];clear hwz wz) | (go_at_call 50;refine (width_s _ _).mono ?_;rw [d1];rintro e wz ⟨rfl,hwz⟩;rw [hwz];clear hwz wz) | (go_at_call 67;refine (in_s _ _ _ _ (by assumption) _).mono ?_;rintro e wz ⟨rfl,hwz⟩;rw [hwz];clear hwz wz) | (go_at_call 68;refine (HVS.out _ _).mono ?_;rw [dS];rintro e w2 ⟨rfl,hb2⟩;have q20:w2.cell? ⟨w.heap.size,0,none⟩=some (.int .i64 W):=(hb2.cell (p:=⟨w.heap.size,0,none⟩) (by simp<;>omega)).trans (by go_simp);have q29:w2.cell? ⟨w.heap.size,9,none⟩=some (.slice a rs.length c):=(hb2.cell (p:=⟨w.heap.size,9,none⟩) (by simp<;>omega)).trans (by go_simp);have HB2:=hid ((hb1 _ _).trans (hb2.mono (by simp<;>omega)))) | (go_at_call 55;refine (HRM.out _ HB2.out).mono ?_;rintro e w3 ⟨rfl,hb3⟩))
   go_ret
   exact ⟨rfl,HB2.out.trans (hb3.mono HB2.out.size)⟩
  ·have dG:decide (G<=Q-1)=false:=decide_eq_false cG
   rw [dG] at he
   subst he
   go_enter Try.func51,Try.ntmps51
   go_wp2_with (first | (go_at_call 54;refine (halves_s _ _).mono ?_;rw [<-HQ.out];rintro e wz ⟨rfl,hwz⟩;rw [hwz];clear hwz wz) | (go_at_call 50;refine (width_s _ _).mono ?_;rw [d1];rintro e wz ⟨rfl,hwz⟩;rw [hwz];clear hwz wz) | (go_at_call 67;refine (in_s _ _ _ _ (by assumption) _).mono ?_;rintro e wz ⟨rfl,hwz⟩;rw [hwz];clear hwz wz) | (go_at_call 68;refine (HVS.out _ _).mono ?_;rw [dS];rintro e w2 ⟨rfl,hb2⟩;have q20:w2.cell? ⟨w.heap.size,0,none⟩=some (.int .i64 W):=(hb2.cell (p:=⟨w.heap.size,0,none⟩) (by simp<;>omega)).trans (by go_simp);have q29:w2.cell? ⟨w.heap.size,9,none⟩=some (.slice a rs.length c):=(hb2.cell (p:=⟨w.heap.size,9,none⟩) (by simp<;>omega)).trans (by go_simp);have HB2:=hid ((hb1 _ _).trans (hb2.mono (by simp<;>omega)))) | (go_at_call 55;refine (HRM.out _ HB2.out).mono ?_;rintro e w3 ⟨rfl,hb3⟩))
   go_ret
   exact ⟨rfl,HB2.out.trans (hb3.mono HB2.out.size)⟩
def putOps (base:Int) (l:List ByteArray):List OpT:=l.mapIdx fun i p=>(false,base+(i:Int),p)
theorem putOps_snoc (base:Int) (l:List ByteArray) (p:ByteArray):putOps base (l++[p])=putOps base l++[(false,base+(l.length:Int),p)]:=by simp [putOps,List.mapIdx_append]
theorem putOps_length (base:Int) (l:List ByteArray):(putOps base l).length=l.length:=by simp [putOps]
def mvStep (L F:Int) (n m:Nat) (acc:List ByteArray) (b:List Ch):List ByteArray:=acc++cutAll (bOut b) L (F+(acc.length:Int)) n m
def mvPages (L F:Int) (n m:Nat) (bss:List (List Ch)):List ByteArray:=bss.foldl (mvStep L F n m) [formOf 3 L F ByteArray.empty (n:Int)]
theorem mvPages_nil (L F:Int) (n m:Nat):mvPages L F n m []=[formOf 3 L F ByteArray.empty (n:Int)]:=rfl
theorem mvPages_snoc (L F:Int) (n m:Nat) (bss:List (List Ch)) (b:List Ch):mvPages L F n m (bss++[b])=mvPages L F n m bss++cutAll (bOut b) L (F+((mvPages L F n m bss).length:Int)) n m:=by
 unfold mvPages;rw [List.foldl_append];rfl
theorem cutAll_len (s:ByteArray) (l f:Int) (n m:Nat) (hm:n+m=56) (h1:1<=n) (h2:n<=8):((cutAll s l f n m).length:Int)<=npages s.size (n:Int):=by
 have e:(56-(n:Int)).toNat=m:=by omega
 unfold npages
 rw [if_pos (by omega),e]
 unfold cutAll
 split
 ·rw [cutList_length];omega
 ·simp
theorem mvPages_len (L F:Int) (n m:Nat) (hm:n+m=56) (h1:1<=n) (h2:n<=8) (bss:List (List Ch)):((mvPages L F n m bss).length:Int)<=1+roomOf bss (n:Int):=by
 obtain ⟨k,hk⟩:∃ k,k=bss.length:=⟨_,rfl⟩
 induction k generalizing bss with
 | zero=>rw [List.eq_nil_of_length_eq_zero hk.symm,mvPages_nil,roomOf_nil];simp
 | succ k ih =>
  obtain ⟨b,bs,rfl⟩:∃ b bs,bss=bs++[b]:=by
   rcases List.eq_nil_or_concat bss with h | ⟨l,a,h⟩
   ·subst h;simp at hk
   ·exact ⟨a,l,by simpa using h⟩
  have:=ih bs (by simp at hk;omega)
  rw [mvPages_snoc,roomOf_snoc,List.length_append]
  have:=cutAll_len (bOut b) L (F+((mvPages L F n m bs).length:Int)) n m hm h1 h2
  omega
theorem room_take (bss:List (List Ch)) (k:Nat) (n:Int):roomOf (bss.take k) n<=roomOf bss n:=by
 have e:roomOf bss n=roomOf (bss.take k) n+roomOf (bss.drop k) n:=by
  unfold roomOf;rw [<-List.sum_append,<-List.map_append,List.take_append_drop]
 have:=(roomOf_bound (bss.drop k) n).1
 omega
def mvOk (W S L T H F:Int) (rs:List Pr):Prop:=(1<=W/\W<=8)/\(8<=S/\S<=200)/\(1<=L/\L<=60000)/\(0<=T/\T<=1000000000)/\(0<=H/\H<=1)/\(1<=F/\F<=999999000)/\roomOf (snapOf rs) W<=hv S-1
def mvFit (S T F:Int):Bool:=decide (T+1<=1000000000/\F+hv S<=999999000)
def mvD (W S L T H F:Int) (rs:List Pr):Dd:=⟨0,W,S,L,T+1,1-H,F+hv S,L,((mvPages L (F+hv S) W.toNat (56-W.toNat) (snapOf rs)).length:Int),0,rs,putOps (2+(1-H)*hv S) (mvPages L (F+hv S) W.toNat (56-W.toNat) (snapOf rs))++[(true,0,ByteArray.empty),(false,(T+1) % 2,rtForm (T+1) (1-H) (F+hv S) L W),(true,0,ByteArray.empty)]⟩
def moveD (W S L T H F:Int) (rs:List Pr):Dd:=if mvFit S T F=true then mvD W S L T H F rs else noD 4
def compactD (W S L T H F R U O:Int) (rs:List Pr):Dd:=if storeOk W S L T H F R U O rs=true then moveD W S L T H F rs else noD 1
theorem mvOk_of {W S L T H F R U O:Int} {rs:List Pr} (h:storeOk W S L T H F R U O rs=true):mvOk W S L T H F rs:=by
 unfold storeOk rootOk at h
 simp only [Bool.and_eq_true,decide_eq_true_eq] at h
 obtain ⟨⟨⟨⟨⟨⟨⟨h1,h2⟩,h3⟩,⟨⟨h4,_⟩,h5⟩,h6⟩,_⟩,_⟩,_⟩,h7⟩:=h
 exact ⟨h1,h2,h3,h4,h5,h6,h7⟩
theorem compactD_bound (W S L T H F R U O:Int) (rs:List Pr) (hl:rs.length<=1048576):(compactD W S L T H F R U O rs).rs.length<=1048576/\(compactD W S L T H F R U O rs).ops.length<=1000:=by
 unfold compactD moveD
 cases h:storeOk W S L T H F R U O rs with
 | false=>simp [noD]
 | true =>
  cases h2:mvFit S T F with
  | false=>simp [noD]
  | true =>
   obtain ⟨⟨h1,h1'⟩,h3,h4,h5,h6,h7,h8⟩:=mvOk_of h
   have hq:=hv_yes h3
   have hm:=mvPages_len L (F+hv S) W.toNat (56-W.toNat) (by omega) (by omega) (by omega) (snapOf rs)
   rw [show ((W.toNat:Nat):Int)=W by omega] at hm
   simp only [if_true,mvD,List.length_append,putOps_length]
   refine ⟨hl,?_⟩
   simp
   omega
def commitD (W S L T H F R U O:Int) (rs:List Pr) (b:List Ch):Dd :=
 if (storeOk W S L T H F R U O rs && batchOk b)=true then
  if apC rs b=0 then
   if roomOf (snapOf (apR rs b)) W<=hv S-1 then
    if npages (bOut b).size W<=hv S-U then
     ⟨0,W,S,L,T,H,F,R,U+npages (bOut b).size W,O+npages (bOut b).size W,apR rs b,putOps (2+H*hv S+U) (cutAll (bOut b) L (F+U) W.toNat (56-W.toNat))⟩
    else noD 4
   else noD 3
  else noD 2
 else noD 1
theorem cutAll_len' (s:ByteArray) (l f:Int) (n m:Nat) (hm:n+m=56) (h1:1<=n) (h2:n<=8) (hl:1<=l/\l<=60000) (hf:1<=f) (hN:f+npages s.size (n:Int)<=1000000001):((cutAll s l f n m).length:Int)=npages s.size (n:Int):=by
 have e:(56-(n:Int)).toNat=m:=by omega
 unfold npages at hN ⊢
 rw [if_pos (by omega),e] at hN ⊢
 rw [cutAll_yes rfl (by omega),cutList_length]
theorem npages_tight (l:Nat) (n:Int) (h1:1<=n) (h2:n<=8):0<=npages l n/\npages l n<=(l:Int) / 48+1:=by
 unfold npages
 rw [if_pos ⟨h1,h2⟩]
 unfold nparts
 split
 ·rename_i h;subst h;simp
 ·have hm:48<=(56-n).toNat:=by omega
  have:(l-1) / (56-n).toNat<=l / 48:=Nat.le_trans (Nat.div_le_div_right (by omega)) (Nat.div_le_div_left hm (by omega))
  obtain ⟨z,hz⟩:∃ z,z=(l-1) / (56-n).toNat:=⟨_,rfl⟩
  rw [<-hz] at this ⊢
  omega
theorem storeOk_of {W S L T H F R U O:Int} {rs:List Pr} (h:storeOk W S L T H F R U O rs=true):(1<=W/\W<=8)/\(8<=S/\S<=200)/\(1<=L/\L<=60000)/\(0<=T/\T<=1000000000)/\(0<=H/\H<=1)/\(1<=F/\F<=999999000)/\(0<=U/\U<=hv S)/\(0<=O/\O<=U)/\stateOk rs=true:=by
 unfold storeOk rootOk at h
 simp only [Bool.and_eq_true,decide_eq_true_eq] at h
 obtain ⟨⟨⟨⟨⟨⟨⟨h1,h2⟩,h3⟩,⟨⟨h4,_⟩,h5⟩,h6⟩,h7⟩,h8⟩,h9⟩,_⟩:=h
 exact ⟨h1,h2,h3,h4,h5,h6,h7,h8,h9⟩
theorem apR_len (rs:List Pr) (b:List Ch):(apR rs b).length<=100:=by
 unfold apR
 by_cases hc:apC rs b=0
 ·rw [if_pos hc]
  unfold apC at hc
  by_cases h1:(stateOk rs && batchOk b)=true
  ·rw [if_pos h1] at hc
   by_cases h2:(apU rs b).length<=100
   ·exact h2
   ·rw [if_neg h2] at hc;omega
  ·rw [if_neg h1] at hc;omega
 ·rw [if_neg hc];simp
theorem chF_memC (c:Ch):∀ (rs:List Pr) (k:Nat),k=rs.length->∀ x∈(chW c rs).2,x∈rs\/x=(c.1,c.2.1)
 | rs,0,hk=>by rw [List.eq_nil_of_length_eq_zero hk.symm];simp [chW]
 | rs,k+1,hk=>by
  obtain ⟨p,bs,rfl⟩:∃ b bs,rs=bs++[b]:=by
   rcases List.eq_nil_or_concat rs with h | ⟨l,a,h⟩
   ·subst h;simp at hk
   ·exact ⟨a,l,by simpa using h⟩
  have ih:=chF_memC c bs k (by simp at hk;omega)
  rw [chW_snoc]
  generalize chW c bs=st at ih ⊢
  intro x hx
  unfold stepC at hx
  have key:x∈st.2\/x=(c.1,c.2.1)\/x=p:=by
   split at hx
   ·split at hx
    ·rcases List.mem_append.1 hx with h | h
     ·exact .inl h
     ·exact .inr (.inl (List.mem_singleton.1 h))
    ·exact .inl hx
   ·split at hx
    ·rcases List.mem_append.1 hx with h | h
     ·rcases List.mem_append.1 h with h | h
      ·exact .inl h
      ·exact .inr (.inl (List.mem_singleton.1 h))
     ·exact .inr (.inr (List.mem_singleton.1 h))
    ·rcases List.mem_append.1 hx with h | h
     ·exact .inl h
     ·exact .inr (.inr (List.mem_singleton.1 h))
  rcases key with h | h | h
  ·rcases ih x h with h | h
   ·exact .inl (by simp [h])
   ·exact .inr h
  ·exact .inr h
  ·exact .inl (by simp [h])
theorem apU_memC (rs:List Pr) (P:Pr->Prop) (h:∀ x∈rs,P x):∀ (b:List Ch),(∀ c∈b,P (c.1,c.2.1))->∀ x∈apU rs b,P x:=by
 intro b
 obtain ⟨k,hk⟩:∃ k,k=b.length:=⟨_,rfl⟩
 induction k generalizing b with
 | zero=>intro _;rw [List.eq_nil_of_length_eq_zero hk.symm];exact h
 | succ k ih =>
  intro hb
  obtain ⟨c,bs,rfl⟩:∃ c bs,b=bs++[c]:=by
   rcases List.eq_nil_or_concat b with h | ⟨l,a,h⟩
   ·subst h;simp at hk
   ·exact ⟨a,l,by simpa using h⟩
  have i:=ih bs (by simp at hk;omega) (fun c hc=>hb c (by simp [hc]))
  rw [apU_snoc]
  intro x hx
  unfold chF at hx
  split at hx
  ·rcases chF_memC c _ _ rfl x hx with h1 | h1
   ·exact i x h1
   ·rw [h1];exact hb c (by simp)
  ·rw [List.mem_append] at hx
   rcases hx with hx | hx
   ·rcases chF_memC c _ _ rfl x hx with h1 | h1
    ·exact i x h1
    ·rw [h1];exact hb c (by simp)
   ·simp at hx;rw [hx];exact hb c (by simp)
theorem apR_mem (rs:List Pr) (b:List Ch) (P:Pr->Prop) (h:∀ x∈rs,P x) (hb:∀ c∈b,P (c.1,c.2.1)):∀ x∈apR rs b,P x:=by
 unfold apR
 split
 ·exact apU_memC rs P h b hb
 ·simp
theorem commitD_bound (W S L T H F R U O:Int) (rs:List Pr) (b:List Ch):(commitD W S L T H F R U O rs b).rs.length<=1048576/\(commitD W S L T H F R U O rs b).ops.length<=1000:=by
 unfold commitD
 split
 ·rename_i h0
  rw [Bool.and_eq_true] at h0
  obtain ⟨h1,h2,h3,h4,h5,h6,h7,h8,h9⟩:=storeOk_of h0.1
  have hq:=hv_yes h2
  split
  ·split
   ·split
    ·rename_i hp
     refine ⟨by have:=apR_len rs b;simp;omega,?_⟩
     simp only [putOps_length]
     have:=cutAll_len (bOut b) L (F+U) W.toNat (56-W.toNat) (by omega) (by omega) (by omega)
     rw [show ((W.toNat:Nat):Int)=W by omega] at this
     omega
    ·simp [noD]
   ·simp [noD]
  ·simp [noD]
 ·simp [noD]
def flushD (W S L T H F R U O:Int) (rs:List Pr):Dd:=if storeOk W S L T H F R U O rs=true then ⟨0,W,S,L,T,H,F,R,U,0,rs,[(true,0,ByteArray.empty)]⟩ else noD 1
theorem flush_s (W S L T H F R U O:Int) (a:Option Addr) (rs:List Pr) (c:Nat) (w:World) (h:Prs w a rs) (hl:rs.length<=1048576) (hs:∀ x∈rs,x.1.size<=1048576/\x.2.size<=1048576) :
  Calls Try.prog 65 #[storeV W S L T H F R U O a rs.length c] w fun x w'=>DnPost w w' x (flushD W S L T H F R U O rs):=by
 have HVS:=hid (fun w' h'=>vstore_s W S L T H F R U O a rs c w' h' hl hs)
 have hb0:∀ o1 o2,Below w.heap.size w ((w.alloc o1).alloc o2):=fun o1 o2=>((Below.refl _ _).alloc (Nat.le_refl _) _).alloc (by simp) _
 unfold storeV at HVS ⊢
 unfold flushD
 cases hok:storeOk W S L T H F R U O rs with
 | false =>
  rw [hok] at HVS
  simp only [Bool.false_eq_true,if_false]
  go_enter Try.func65,Try.ntmps65
  go_wp2_with (go_at_call 51;refine (HVS.out _ (h.below (hb0 _ _))).mono ?_;rintro x w2 ⟨rfl,hb2⟩;have HB2:=hid ((hb0 _ _).trans (hb2.mono (by simp<;>omega)));have hl2:w.heap.size+1<w2.heap.size:=Nat.lt_of_lt_of_le (by simp) hb2.size;have hl2a:w.heap.size<w2.heap.size:=Nat.lt_of_succ_lt hl2;have w2r0:w2.cell? ⟨w.heap.size+1,0,none⟩=some (.int .i64 0):=(hb2.cell (p:=⟨w.heap.size+1,0,none⟩) (by simp<;>omega)).trans (by go_simp);have w2rf0:w2.frozen? ⟨w.heap.size+1,0,none⟩=false:=(hb2.frozen (p:=⟨w.heap.size+1,0,none⟩) (by simp<;>omega)).trans (by go_simp);have w2r1:w2.cell? ⟨w.heap.size+1,1,none⟩=some (.int .i64 0):=(hb2.cell (p:=⟨w.heap.size+1,1,none⟩) (by simp<;>omega)).trans (by go_simp);have w2rf1:w2.frozen? ⟨w.heap.size+1,1,none⟩=false:=(hb2.frozen (p:=⟨w.heap.size+1,1,none⟩) (by simp<;>omega)).trans (by go_simp);have w2r2:w2.cell? ⟨w.heap.size+1,2,none⟩=some (.int .i64 0):=(hb2.cell (p:=⟨w.heap.size+1,2,none⟩) (by simp<;>omega)).trans (by go_simp);have w2rf2:w2.frozen? ⟨w.heap.size+1,2,none⟩=false:=(hb2.frozen (p:=⟨w.heap.size+1,2,none⟩) (by simp<;>omega)).trans (by go_simp);have w2r3:w2.cell? ⟨w.heap.size+1,3,none⟩=some (.int .i64 0):=(hb2.cell (p:=⟨w.heap.size+1,3,none⟩) (by simp<;>omega)).trans (by go_simp);have w2rf3:w2.frozen? ⟨w.heap.size+1,3,none⟩=false:=(hb2.frozen (p:=⟨w.heap.size+1,3,none⟩) (by simp<;>omega)).trans (by go_simp);have w2r4:w2.cell? ⟨w.heap.size+1,4,none⟩=some (.int .i64 0):=(hb2.cell (p:=⟨w.heap.size+1,4,none⟩) (by simp<;>omega)).trans (by go_simp);have w2rf4:w2.frozen? ⟨w.heap.size+1,4,none⟩=false:=(hb2.frozen (p:=⟨w.heap.size+1,4,none⟩) (by simp<;>omega)).trans (by go_simp);have w2r5:w2.cell? ⟨w.heap.size+1,5,none⟩=some (.int .i64 0):=(hb2.cell (p:=⟨w.heap.size+1,5,none⟩) (by simp<;>omega)).trans (by go_simp);have w2rf5:w2.frozen? ⟨w.heap.size+1,5,none⟩=false:=(hb2.frozen (p:=⟨w.heap.size+1,5,none⟩) (by simp<;>omega)).trans (by go_simp);have w2r6:w2.cell? ⟨w.heap.size+1,6,none⟩=some (.int .i64 0):=(hb2.cell (p:=⟨w.heap.size+1,6,none⟩) (by simp<;>omega)).trans (by go_simp);have w2rf6:w2.frozen? ⟨w.heap.size+1,6,none⟩=false:=(hb2.frozen (p:=⟨w.heap.size+1,6,none⟩) (by simp<;>omega)).trans (by go_simp);have w2r7:w2.cell? ⟨w.heap.size+1,7,none⟩=some (.int .i64 0):=(hb2.cell (p:=⟨w.heap.size+1,7,none⟩) (by simp<;>omega)).trans (by go_simp);have w2rf7:w2.frozen? ⟨w.heap.size+1,7,none⟩=false:=(hb2.frozen (p:=⟨w.heap.size+1,7,none⟩) (by simp<;>omega)).trans (by go_simp);have w2r8:w2.cell? ⟨w.heap.size+1,8,none⟩=some (.int .i64 0):=(hb2.cell (p:=⟨w.heap.size+1,8,none⟩) (by simp<;>omega)).trans (by go_simp);have w2rf8:w2.frozen? ⟨w.heap.size+1,8,none⟩=false:=(hb2.frozen (p:=⟨w.heap.size+1,8,none⟩) (by simp<;>omega)).trans (by go_simp);have w2r9:w2.cell? ⟨w.heap.size+1,9,none⟩=some (.int .i64 0):=(hb2.cell (p:=⟨w.heap.size+1,9,none⟩) (by simp<;>omega)).trans (by go_simp);have w2rf9:w2.frozen? ⟨w.heap.size+1,9,none⟩=false:=(hb2.frozen (p:=⟨w.heap.size+1,9,none⟩) (by simp<;>omega)).trans (by go_simp);have w2r10:w2.cell? ⟨w.heap.size+1,10,none⟩=some (.slice none 0 0):=(hb2.cell (p:=⟨w.heap.size+1,10,none⟩) (by simp<;>omega)).trans (by go_simp);have w2rf10:w2.frozen? ⟨w.heap.size+1,10,none⟩=false:=(hb2.frozen (p:=⟨w.heap.size+1,10,none⟩) (by simp<;>omega)).trans (by go_simp);have w2r11:w2.cell? ⟨w.heap.size+1,11,none⟩=some (.slice none 0 0):=(hb2.cell (p:=⟨w.heap.size+1,11,none⟩) (by simp<;>omega)).trans (by go_simp);have w2rf11:w2.frozen? ⟨w.heap.size+1,11,none⟩=false:=(hb2.frozen (p:=⟨w.heap.size+1,11,none⟩) (by simp<;>omega)).trans (by go_simp);have w2s0:w2.cell? ⟨w.heap.size,0,none⟩=some (.int .i64 W):=(hb2.cell (p:=⟨w.heap.size,0,none⟩) (by simp<;>omega)).trans (by go_simp);have w2sf0:w2.frozen? ⟨w.heap.size,0,none⟩=false:=(hb2.frozen (p:=⟨w.heap.size,0,none⟩) (by simp<;>omega)).trans (by go_simp);have w2s1:w2.cell? ⟨w.heap.size,1,none⟩=some (.int .i64 S):=(hb2.cell (p:=⟨w.heap.size,1,none⟩) (by simp<;>omega)).trans (by go_simp);have w2sf1:w2.frozen? ⟨w.heap.size,1,none⟩=false:=(hb2.frozen (p:=⟨w.heap.size,1,none⟩) (by simp<;>omega)).trans (by go_simp);have w2s2:w2.cell? ⟨w.heap.size,2,none⟩=some (.int .i64 L):=(hb2.cell (p:=⟨w.heap.size,2,none⟩) (by simp<;>omega)).trans (by go_simp);have w2sf2:w2.frozen? ⟨w.heap.size,2,none⟩=false:=(hb2.frozen (p:=⟨w.heap.size,2,none⟩) (by simp<;>omega)).trans (by go_simp);have w2s3:w2.cell? ⟨w.heap.size,3,none⟩=some (.int .i64 T):=(hb2.cell (p:=⟨w.heap.size,3,none⟩) (by simp<;>omega)).trans (by go_simp);have w2sf3:w2.frozen? ⟨w.heap.size,3,none⟩=false:=(hb2.frozen (p:=⟨w.heap.size,3,none⟩) (by simp<;>omega)).trans (by go_simp);have w2s4:w2.cell? ⟨w.heap.size,4,none⟩=some (.int .i64 H):=(hb2.cell (p:=⟨w.heap.size,4,none⟩) (by simp<;>omega)).trans (by go_simp);have w2sf4:w2.frozen? ⟨w.heap.size,4,none⟩=false:=(hb2.frozen (p:=⟨w.heap.size,4,none⟩) (by simp<;>omega)).trans (by go_simp);have w2s5:w2.cell? ⟨w.heap.size,5,none⟩=some (.int .i64 F):=(hb2.cell (p:=⟨w.heap.size,5,none⟩) (by simp<;>omega)).trans (by go_simp);have w2sf5:w2.frozen? ⟨w.heap.size,5,none⟩=false:=(hb2.frozen (p:=⟨w.heap.size,5,none⟩) (by simp<;>omega)).trans (by go_simp);have w2s6:w2.cell? ⟨w.heap.size,6,none⟩=some (.int .i64 R):=(hb2.cell (p:=⟨w.heap.size,6,none⟩) (by simp<;>omega)).trans (by go_simp);have w2sf6:w2.frozen? ⟨w.heap.size,6,none⟩=false:=(hb2.frozen (p:=⟨w.heap.size,6,none⟩) (by simp<;>omega)).trans (by go_simp);have w2s7:w2.cell? ⟨w.heap.size,7,none⟩=some (.int .i64 U):=(hb2.cell (p:=⟨w.heap.size,7,none⟩) (by simp<;>omega)).trans (by go_simp);have w2sf7:w2.frozen? ⟨w.heap.size,7,none⟩=false:=(hb2.frozen (p:=⟨w.heap.size,7,none⟩) (by simp<;>omega)).trans (by go_simp);have w2s8:w2.cell? ⟨w.heap.size,8,none⟩=some (.int .i64 O):=(hb2.cell (p:=⟨w.heap.size,8,none⟩) (by simp<;>omega)).trans (by go_simp);have w2sf8:w2.frozen? ⟨w.heap.size,8,none⟩=false:=(hb2.frozen (p:=⟨w.heap.size,8,none⟩) (by simp<;>omega)).trans (by go_simp);have w2s9:w2.cell? ⟨w.heap.size,9,none⟩=some (.slice a rs.length c):=(hb2.cell (p:=⟨w.heap.size,9,none⟩) (by simp<;>omega)).trans (by go_simp);have w2sf9:w2.frozen? ⟨w.heap.size,9,none⟩=false:=(hb2.frozen (p:=⟨w.heap.size,9,none⟩) (by simp<;>omega)).trans (by go_simp);clear hb2)
  refine bodyPost_ret (v:=dnV (noD 1) none 0 none 0) (by simp [results,Try.results65,go_sem,dnV,noD,w2r0,w2r1,w2r2,w2r3,w2r4,w2r5,w2r6,w2r7,w2r8,w2r9,w2r10,w2r11]) rfl (dn_no rfl ?_)
  iterate 12 (refine Below.setCell ?_ (by show w.heap.size<=w.heap.size+1;omega) _)
  exact HB2.out
 | true =>
  rw [hok] at HVS
  simp only [if_true]
  go_enter Try.func65,Try.ntmps65
  go_wp2_with (first | (go_at_call 51;refine (HVS.out _ (h.below (hb0 _ _))).mono ?_;rintro x w2 ⟨rfl,hb2⟩;have HB2:=hid ((hb0 _ _).trans (hb2.mono (by simp<;>omega)));have hl2:w.heap.size+1<w2.heap.size:=Nat.lt_of_lt_of_le (by simp) hb2.size;have hl2a:w.heap.size<w2.heap.size:=Nat.lt_of_succ_lt hl2;have w2r0:w2.cell? ⟨w.heap.size+1,0,none⟩=some (.int .i64 0):=(hb2.cell (p:=⟨w.heap.size+1,0,none⟩) (by simp<;>omega)).trans (by go_simp);have w2rf0:w2.frozen? ⟨w.heap.size+1,0,none⟩=false:=(hb2.frozen (p:=⟨w.heap.size+1,0,none⟩) (by simp<;>omega)).trans (by go_simp);have w2r1:w2.cell? ⟨w.heap.size+1,1,none⟩=some (.int .i64 0):=(hb2.cell (p:=⟨w.heap.size+1,1,none⟩) (by simp<;>omega)).trans (by go_simp);have w2rf1:w2.frozen? ⟨w.heap.size+1,1,none⟩=false:=(hb2.frozen (p:=⟨w.heap.size+1,1,none⟩) (by simp<;>omega)).trans (by go_simp);have w2r2:w2.cell? ⟨w.heap.size+1,2,none⟩=some (.int .i64 0):=(hb2.cell (p:=⟨w.heap.size+1,2,none⟩) (by simp<;>omega)).trans (by go_simp);have w2rf2:w2.frozen? ⟨w.heap.size+1,2,none⟩=false:=(hb2.frozen (p:=⟨w.heap.size+1,2,none⟩) (by simp<;>omega)).trans (by go_simp);have w2r3:w2.cell? ⟨w.heap.size+1,3,none⟩=some (.int .i64 0):=(hb2.cell (p:=⟨w.heap.size+1,3,none⟩) (by simp<;>omega)).trans (by go_simp);have w2rf3:w2.frozen? ⟨w.heap.size+1,3,none⟩=false:=(hb2.frozen (p:=⟨w.heap.size+1,3,none⟩) (by simp<;>omega)).trans (by go_simp);have w2r4:w2.cell? ⟨w.heap.size+1,4,none⟩=some (.int .i64 0):=(hb2.cell (p:=⟨w.heap.size+1,4,none⟩) (by simp<;>omega)).trans (by go_simp);have w2rf4:w2.frozen? ⟨w.heap.size+1,4,none⟩=false:=(hb2.frozen (p:=⟨w.heap.size+1,4,none⟩) (by simp<;>omega)).trans (by go_simp);have w2r5:w2.cell? ⟨w.heap.size+1,5,none⟩=some (.int .i64 0):=(hb2.cell (p:=⟨w.heap.size+1,5,none⟩) (by simp<;>omega)).trans (by go_simp);have w2rf5:w2.frozen? ⟨w.heap.size+1,5,none⟩=false:=(hb2.frozen (p:=⟨w.heap.size+1,5,none⟩) (by simp<;>omega)).trans (by go_simp);have w2r6:w2.cell? ⟨w.heap.size+1,6,none⟩=some (.int .i64 0):=(hb2.cell (p:=⟨w.heap.size+1,6,none⟩) (by simp<;>omega)).trans (by go_simp);have w2rf6:w2.frozen? ⟨w.heap.size+1,6,none⟩=false:=(hb2.frozen (p:=⟨w.heap.size+1,6,none⟩) (by simp<;>omega)).trans (by go_simp);have w2r7:w2.cell? ⟨w.heap.size+1,7,none⟩=some (.int .i64 0):=(hb2.cell (p:=⟨w.heap.size+1,7,none⟩) (by simp<;>omega)).trans (by go_simp);have w2rf7:w2.frozen? ⟨w.heap.size+1,7,none⟩=false:=(hb2.frozen (p:=⟨w.heap.size+1,7,none⟩) (by simp<;>omega)).trans (by go_simp);have w2r8:w2.cell? ⟨w.heap.size+1,8,none⟩=some (.int .i64 0):=(hb2.cell (p:=⟨w.heap.size+1,8,none⟩) (by simp<;>omega)).trans (by go_simp);have w2rf8:w2.frozen? ⟨w.heap.size+1,8,none⟩=false:=(hb2.frozen (p:=⟨w.heap.size+1,8,none⟩) (by simp<;>omega)).trans (by go_simp);have w2r9:w2.cell? ⟨w.heap.size+1,9,none⟩=some (.int .i64 0):=(hb2.cell (p:=⟨w.heap.size+1,9,none⟩) (by simp<;>omega)).trans (by go_simp);have w2rf9:w2.frozen? ⟨w.heap.size+1,9,none⟩=false:=(hb2.frozen (p:=⟨w.heap.size+1,9,none⟩) (by simp<;>omega)).trans (by go_simp);have w2r10:w2.cell? ⟨w.heap.size+1,10,none⟩=some (.slice none 0 0):=(hb2.cell (p:=⟨w.heap.size+1,10,none⟩) (by simp<;>omega)).trans (by go_simp);have w2rf10:w2.frozen? ⟨w.heap.size+1,10,none⟩=false:=(hb2.frozen (p:=⟨w.heap.size+1,10,none⟩) (by simp<;>omega)).trans (by go_simp);have w2r11:w2.cell? ⟨w.heap.size+1,11,none⟩=some (.slice none 0 0):=(hb2.cell (p:=⟨w.heap.size+1,11,none⟩) (by simp<;>omega)).trans (by go_simp);have w2rf11:w2.frozen? ⟨w.heap.size+1,11,none⟩=false:=(hb2.frozen (p:=⟨w.heap.size+1,11,none⟩) (by simp<;>omega)).trans (by go_simp);have w2s0:w2.cell? ⟨w.heap.size,0,none⟩=some (.int .i64 W):=(hb2.cell (p:=⟨w.heap.size,0,none⟩) (by simp<;>omega)).trans (by go_simp);have w2sf0:w2.frozen? ⟨w.heap.size,0,none⟩=false:=(hb2.frozen (p:=⟨w.heap.size,0,none⟩) (by simp<;>omega)).trans (by go_simp);have w2s1:w2.cell? ⟨w.heap.size,1,none⟩=some (.int .i64 S):=(hb2.cell (p:=⟨w.heap.size,1,none⟩) (by simp<;>omega)).trans (by go_simp);have w2sf1:w2.frozen? ⟨w.heap.size,1,none⟩=false:=(hb2.frozen (p:=⟨w.heap.size,1,none⟩) (by simp<;>omega)).trans (by go_simp);have w2s2:w2.cell? ⟨w.heap.size,2,none⟩=some (.int .i64 L):=(hb2.cell (p:=⟨w.heap.size,2,none⟩) (by simp<;>omega)).trans (by go_simp);have w2sf2:w2.frozen? ⟨w.heap.size,2,none⟩=false:=(hb2.frozen (p:=⟨w.heap.size,2,none⟩) (by simp<;>omega)).trans (by go_simp);have w2s3:w2.cell? ⟨w.heap.size,3,none⟩=some (.int .i64 T):=(hb2.cell (p:=⟨w.heap.size,3,none⟩) (by simp<;>omega)).trans (by go_simp);have w2sf3:w2.frozen? ⟨w.heap.size,3,none⟩=false:=(hb2.frozen (p:=⟨w.heap.size,3,none⟩) (by simp<;>omega)).trans (by go_simp);have w2s4:w2.cell? ⟨w.heap.size,4,none⟩=some (.int .i64 H):=(hb2.cell (p:=⟨w.heap.size,4,none⟩) (by simp<;>omega)).trans (by go_simp);have w2sf4:w2.frozen? ⟨w.heap.size,4,none⟩=false:=(hb2.frozen (p:=⟨w.heap.size,4,none⟩) (by simp<;>omega)).trans (by go_simp);have w2s5:w2.cell? ⟨w.heap.size,5,none⟩=some (.int .i64 F):=(hb2.cell (p:=⟨w.heap.size,5,none⟩) (by simp<;>omega)).trans (by go_simp);have w2sf5:w2.frozen? ⟨w.heap.size,5,none⟩=false:=(hb2.frozen (p:=⟨w.heap.size,5,none⟩) (by simp<;>omega)).trans (by go_simp);have w2s6:w2.cell? ⟨w.heap.size,6,none⟩=some (.int .i64 R):=(hb2.cell (p:=⟨w.heap.size,6,none⟩) (by simp<;>omega)).trans (by go_simp);have w2sf6:w2.frozen? ⟨w.heap.size,6,none⟩=false:=(hb2.frozen (p:=⟨w.heap.size,6,none⟩) (by simp<;>omega)).trans (by go_simp);have w2s7:w2.cell? ⟨w.heap.size,7,none⟩=some (.int .i64 U):=(hb2.cell (p:=⟨w.heap.size,7,none⟩) (by simp<;>omega)).trans (by go_simp);have w2sf7:w2.frozen? ⟨w.heap.size,7,none⟩=false:=(hb2.frozen (p:=⟨w.heap.size,7,none⟩) (by simp<;>omega)).trans (by go_simp);have w2s8:w2.cell? ⟨w.heap.size,8,none⟩=some (.int .i64 O):=(hb2.cell (p:=⟨w.heap.size,8,none⟩) (by simp<;>omega)).trans (by go_simp);have w2sf8:w2.frozen? ⟨w.heap.size,8,none⟩=false:=(hb2.frozen (p:=⟨w.heap.size,8,none⟩) (by simp<;>omega)).trans (by go_simp);have w2s9:w2.cell? ⟨w.heap.size,9,none⟩=some (.slice a rs.length c):=(hb2.cell (p:=⟨w.heap.size,9,none⟩) (by simp<;>omega)).trans (by go_simp);have w2sf9:w2.frozen? ⟨w.heap.size,9,none⟩=false:=(hb2.frozen (p:=⟨w.heap.size,9,none⟩) (by simp<;>omega)).trans (by go_simp);clear hb2) | (go_at_call 40;have hb2a:Below w.heap.size w (w2.alloc (.cells #[.int .i64 W,.int .i64 S,.int .i64 L,.int .i64 T,.int .i64 H,.int .i64 F,.int .i64 R,.int .i64 U,.int .i64 O,.slice a rs.length c] 79)):=HB2.out.alloc HB2.out.size _;refine (copy_st_s a rs c _ (h.below hb2a) hl).mono ?_;rintro x w3 ⟨a3,c3,rfl,hc3,ho3,hg3,hb3⟩;have HB3:=hid (hb2a.trans (hb3.mono hb2a.size));have HO3:=hid ho3;have hg3':∀ g,blk a3 rs.length=some g->w2.heap.size<g:=fun g hg=>Nat.lt_of_lt_of_le (by simp) (hg3 g hg);have HG3:=hid hg3';have hl3:w2.heap.size<w3.heap.size:=Nat.lt_of_lt_of_le (by simp) hb3.size;have hl3a:w.heap.size+1<w3.heap.size:=Nat.lt_trans hl2 hl3;have w3r0:w3.cell? ⟨w.heap.size+1,0,none⟩=some (.int .i64 0):=(hb3.cell (p:=⟨w.heap.size+1,0,none⟩) (by simp<;>omega)).trans (by go_simp);have w3rf0:w3.frozen? ⟨w.heap.size+1,0,none⟩=false:=(hb3.frozen (p:=⟨w.heap.size+1,0,none⟩) (by simp<;>omega)).trans (by go_simp);have w3r1:w3.cell? ⟨w.heap.size+1,1,none⟩=some (.int .i64 0):=(hb3.cell (p:=⟨w.heap.size+1,1,none⟩) (by simp<;>omega)).trans (by go_simp);have w3rf1:w3.frozen? ⟨w.heap.size+1,1,none⟩=false:=(hb3.frozen (p:=⟨w.heap.size+1,1,none⟩) (by simp<;>omega)).trans (by go_simp);have w3r2:w3.cell? ⟨w.heap.size+1,2,none⟩=some (.int .i64 0):=(hb3.cell (p:=⟨w.heap.size+1,2,none⟩) (by simp<;>omega)).trans (by go_simp);have w3rf2:w3.frozen? ⟨w.heap.size+1,2,none⟩=false:=(hb3.frozen (p:=⟨w.heap.size+1,2,none⟩) (by simp<;>omega)).trans (by go_simp);have w3r3:w3.cell? ⟨w.heap.size+1,3,none⟩=some (.int .i64 0):=(hb3.cell (p:=⟨w.heap.size+1,3,none⟩) (by simp<;>omega)).trans (by go_simp);have w3rf3:w3.frozen? ⟨w.heap.size+1,3,none⟩=false:=(hb3.frozen (p:=⟨w.heap.size+1,3,none⟩) (by simp<;>omega)).trans (by go_simp);have w3r4:w3.cell? ⟨w.heap.size+1,4,none⟩=some (.int .i64 0):=(hb3.cell (p:=⟨w.heap.size+1,4,none⟩) (by simp<;>omega)).trans (by go_simp);have w3rf4:w3.frozen? ⟨w.heap.size+1,4,none⟩=false:=(hb3.frozen (p:=⟨w.heap.size+1,4,none⟩) (by simp<;>omega)).trans (by go_simp);have w3r5:w3.cell? ⟨w.heap.size+1,5,none⟩=some (.int .i64 0):=(hb3.cell (p:=⟨w.heap.size+1,5,none⟩) (by simp<;>omega)).trans (by go_simp);have w3rf5:w3.frozen? ⟨w.heap.size+1,5,none⟩=false:=(hb3.frozen (p:=⟨w.heap.size+1,5,none⟩) (by simp<;>omega)).trans (by go_simp);have w3r6:w3.cell? ⟨w.heap.size+1,6,none⟩=some (.int .i64 0):=(hb3.cell (p:=⟨w.heap.size+1,6,none⟩) (by simp<;>omega)).trans (by go_simp);have w3rf6:w3.frozen? ⟨w.heap.size+1,6,none⟩=false:=(hb3.frozen (p:=⟨w.heap.size+1,6,none⟩) (by simp<;>omega)).trans (by go_simp);have w3r7:w3.cell? ⟨w.heap.size+1,7,none⟩=some (.int .i64 0):=(hb3.cell (p:=⟨w.heap.size+1,7,none⟩) (by simp<;>omega)).trans (by go_simp);have w3rf7:w3.frozen? ⟨w.heap.size+1,7,none⟩=false:=(hb3.frozen (p:=⟨w.heap.size+1,7,none⟩) (by simp<;>omega)).trans (by go_simp);have w3r8:w3.cell? ⟨w.heap.size+1,8,none⟩=some (.int .i64 0):=(hb3.cell (p:=⟨w.heap.size+1,8,none⟩) (by simp<;>omega)).trans (by go_simp);have w3rf8:w3.frozen? ⟨w.heap.size+1,8,none⟩=false:=(hb3.frozen (p:=⟨w.heap.size+1,8,none⟩) (by simp<;>omega)).trans (by go_simp);have w3r9:w3.cell? ⟨w.heap.size+1,9,none⟩=some (.int .i64 0):=(hb3.cell (p:=⟨w.heap.size+1,9,none⟩) (by simp<;>omega)).trans (by go_simp);have w3rf9:w3.frozen? ⟨w.heap.size+1,9,none⟩=false:=(hb3.frozen (p:=⟨w.heap.size+1,9,none⟩) (by simp<;>omega)).trans (by go_simp);have w3r10:w3.cell? ⟨w.heap.size+1,10,none⟩=some (.slice none 0 0):=(hb3.cell (p:=⟨w.heap.size+1,10,none⟩) (by simp<;>omega)).trans (by go_simp);have w3rf10:w3.frozen? ⟨w.heap.size+1,10,none⟩=false:=(hb3.frozen (p:=⟨w.heap.size+1,10,none⟩) (by simp<;>omega)).trans (by go_simp);have w3r11:w3.cell? ⟨w.heap.size+1,11,none⟩=some (.slice none 0 0):=(hb3.cell (p:=⟨w.heap.size+1,11,none⟩) (by simp<;>omega)).trans (by go_simp);have w3rf11:w3.frozen? ⟨w.heap.size+1,11,none⟩=false:=(hb3.frozen (p:=⟨w.heap.size+1,11,none⟩) (by simp<;>omega)).trans (by go_simp);have w3o0:w3.cell? ⟨w2.heap.size,0,none⟩=some (.int .i64 W):=(hb3.cell (p:=⟨w2.heap.size,0,none⟩) (by simp<;>omega)).trans (by go_simp);have w3of0:w3.frozen? ⟨w2.heap.size,0,none⟩=false:=(hb3.frozen (p:=⟨w2.heap.size,0,none⟩) (by simp<;>omega)).trans (by go_simp);have w3o1:w3.cell? ⟨w2.heap.size,1,none⟩=some (.int .i64 S):=(hb3.cell (p:=⟨w2.heap.size,1,none⟩) (by simp<;>omega)).trans (by go_simp);have w3of1:w3.frozen? ⟨w2.heap.size,1,none⟩=false:=(hb3.frozen (p:=⟨w2.heap.size,1,none⟩) (by simp<;>omega)).trans (by go_simp);have w3o2:w3.cell? ⟨w2.heap.size,2,none⟩=some (.int .i64 L):=(hb3.cell (p:=⟨w2.heap.size,2,none⟩) (by simp<;>omega)).trans (by go_simp);have w3of2:w3.frozen? ⟨w2.heap.size,2,none⟩=false:=(hb3.frozen (p:=⟨w2.heap.size,2,none⟩) (by simp<;>omega)).trans (by go_simp);have w3o3:w3.cell? ⟨w2.heap.size,3,none⟩=some (.int .i64 T):=(hb3.cell (p:=⟨w2.heap.size,3,none⟩) (by simp<;>omega)).trans (by go_simp);have w3of3:w3.frozen? ⟨w2.heap.size,3,none⟩=false:=(hb3.frozen (p:=⟨w2.heap.size,3,none⟩) (by simp<;>omega)).trans (by go_simp);have w3o4:w3.cell? ⟨w2.heap.size,4,none⟩=some (.int .i64 H):=(hb3.cell (p:=⟨w2.heap.size,4,none⟩) (by simp<;>omega)).trans (by go_simp);have w3of4:w3.frozen? ⟨w2.heap.size,4,none⟩=false:=(hb3.frozen (p:=⟨w2.heap.size,4,none⟩) (by simp<;>omega)).trans (by go_simp);have w3o5:w3.cell? ⟨w2.heap.size,5,none⟩=some (.int .i64 F):=(hb3.cell (p:=⟨w2.heap.size,5,none⟩) (by simp<;>omega)).trans (by go_simp);have w3of5:w3.frozen? ⟨w2.heap.size,5,none⟩=false:=(hb3.frozen (p:=⟨w2.heap.size,5,none⟩) (by simp<;>omega)).trans (by go_simp);have w3o6:w3.cell? ⟨w2.heap.size,6,none⟩=some (.int .i64 R):=(hb3.cell (p:=⟨w2.heap.size,6,none⟩) (by simp<;>omega)).trans (by go_simp);have w3of6:w3.frozen? ⟨w2.heap.size,6,none⟩=false:=(hb3.frozen (p:=⟨w2.heap.size,6,none⟩) (by simp<;>omega)).trans (by go_simp);have w3o7:w3.cell? ⟨w2.heap.size,7,none⟩=some (.int .i64 U):=(hb3.cell (p:=⟨w2.heap.size,7,none⟩) (by simp<;>omega)).trans (by go_simp);have w3of7:w3.frozen? ⟨w2.heap.size,7,none⟩=false:=(hb3.frozen (p:=⟨w2.heap.size,7,none⟩) (by simp<;>omega)).trans (by go_simp);have w3o8:w3.cell? ⟨w2.heap.size,8,none⟩=some (.int .i64 O):=(hb3.cell (p:=⟨w2.heap.size,8,none⟩) (by simp<;>omega)).trans (by go_simp);have w3of8:w3.frozen? ⟨w2.heap.size,8,none⟩=false:=(hb3.frozen (p:=⟨w2.heap.size,8,none⟩) (by simp<;>omega)).trans (by go_simp);have w3o9:w3.cell? ⟨w2.heap.size,9,none⟩=some (.slice a rs.length c):=(hb3.cell (p:=⟨w2.heap.size,9,none⟩) (by simp<;>omega)).trans (by go_simp);have w3of9:w3.frozen? ⟨w2.heap.size,9,none⟩=false:=(hb3.frozen (p:=⟨w2.heap.size,9,none⟩) (by simp<;>omega)).trans (by go_simp);clear hb3 ho3 hg3 hg3'))
  have hgn:∀ g,a3=some ⟨g,0,none⟩->prcells rs≠[]->w2.heap.size<g:=fun g hg hne=>HG3.out g (by subst hg;exact blk_pos _ _ _ (ne_of_prcells hne))
  have hlt3:=HO3.out.lt rs.length prcells_ne
  have hsz:=HB3.out.size
  have hap:Apart a3 rs.length (some ⟨w3.heap.size,0,none⟩) 1:=by
   cases hb:blk a3 rs.length with
   | none=>exact .inl hb
   | some g =>
    have:=hlt3 g hb
    refine .inr (.inr fun e=>?_)
    rw [hb,blk_pos _ _ _ (by omega)] at e
    cases e
    omega
  refine bodyPost_ret (v:=dnV ⟨0,W,S,L,T,H,F,R,U,0,rs,[(true,0,ByteArray.empty)]⟩ a3 c3 (some ⟨w3.heap.size,0,none⟩) 1) (by simp [results,Try.results65,go_sem,dnV,hl3a,w3r0,w3r1,w3r2,w3r3,w3r4,w3r5,w3r6,w3r7,w3r8,w3r9,w3r10,w3r11]) rfl ⟨a3,c3,_,1,rfl,hc3,⟨?_,?_,hap⟩,?_,?_,?_⟩
  ·refine OwnS.alloc' ?_ _
   iterate 14 (refine OwnS.set' ?_ _ (fun g hg hne=>by have:=hgn g hg hne;first | (show w.heap.size+1≠g;omega) | (show w2.heap.size≠g;omega)) _)
   exact HO3.out
  ·exact .inr ⟨w3.heap.size,rfl,row_at (by simp)⟩
  ·exact fun g hg=>by have:=HG3.out g hg;omega
  ·exact fun g hg=>by rw [blk_pos _ _ _ (by simp)] at hg;cases hg;exact hsz
  ·refine Below.alloc ?_ (by simp;omega) _
   iterate 14 (refine Below.setCell ?_ (by first | (show w.heap.size<=w.heap.size+1;omega) | (show w.heap.size<=w2.heap.size;omega)) _)
   exact HB3.out
end Go.Proofs.Ythdilmkbnpmdaaa
