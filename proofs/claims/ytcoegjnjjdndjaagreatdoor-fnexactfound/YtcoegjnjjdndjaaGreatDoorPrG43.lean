import Derived.Test.YtcoegjnjjdndjaaGreatDoorPrG44
import Derived.Test.YtcoegjnjjdndjaaGreatDoorPrG42
import Derived.Test.YtcoegjnjjdndjaaGreatDoorPrG38
import Derived.Test.YtcoegjnjjdndjaaGreatDoorPrG49
set_option maxHeartbeats 16000000
set_option maxRecDepth 8000
set_option linter.unusedVariables false
set_option linter.unusedSimpArgs false
namespace Go.Proofs.YtcoegjnjjdndjaaGreatDoor
open Go.RowKit
theorem owns_span {w w':World} {base:Nat} {e:TypeId} {s:Nat} {v:Value} {n:Nat} {xs:List Value} (h:w.ownsRow base e s v n xs) (hk:∀ b,base<=b->b<w.heap.size->w'.heap[b]?=w.heap[b]?):w'.ownsRow base e s v n xs:=by
 refine ⟨h.1,?_⟩
 rcases h.2 with hn | ⟨g,cap,cur,rfl,hb,hgg,rest⟩
 ·exact .inl hn
 ·exact .inr ⟨g,cap,cur,rfl,hb,(hk g hb (Array.getElem?_eq_some_iff.1 hgg).1).trans hgg,rest⟩
theorem Bat.span {w w':World} {base:Nat} {v:Value} {bss:List (List Ch)} (h:Bat w base v bss) (hk:∀ b,base<=b->b<w.heap.size->w'.heap[b]?=w.heap[b]?):Bat w' base v bss:=by
 obtain ⟨vs,h1,h2,h3⟩:=h
 exact ⟨vs,owns_span h1 hk,fun i hi=>owns_span (h2 i hi) hk,h3⟩
theorem putOps_append (q:Int) (l r:List ByteArray):putOps q (l++r)=putOps q l++putOps (q+(l.length:Int)) r:=by
 unfold putOps
 rw [List.mapIdx_append]
 congr 1
 apply List.ext_getElem
 ·simp
 ·intro i h1 h2
  simp
  omega
theorem Row.below2 {w w':World} {N g:Nat} {cs:List Value} (h:Row w g cs) (hg:g<N) (hb:Below N w w'):Row w' g cs :=
 ⟨Nat.lt_of_lt_of_le h.lt hb.size,fun i v hv=>(hb.cell (p:=⟨g,i,none⟩) hg).trans (h.cell i v hv),fun i hi=>(hb.frozen (p:=⟨g,i,none⟩) hg).trans (h.froz i hi)⟩
def MvPost (w w':World) (x:Ending) (d:Dd) (a:Option Addr) (c:Nat):Prop:=∃ b e,x=.returned (dnV d a c b e)/\OwnS w' b (opcells d.ops)/\(∀ g,blk b d.ops.length=some g->w.heap.size<=g)/\Below w.heap.size w w'
set_option maxHeartbeats 16000000 in
theorem move_i_ok (S L T H F R U O:Int) (n m:Nat) (a:Option Addr) (rs:List Pr) (c:Nat) (w:World) (h:Prs w a rs) (hc:rs.length<=c) (hl:rs.length<=1048576) (hs:∀ x∈rs,x.1.size<=1048576/\x.2.size<=1048576) (hm:n+m=56) (hn1:1<=n) (hn8:n<=8) (hok:mvOk (n:Int) S L T H F rs) (hfit:T+1<=1000000000/\F+hv S<=999999000) :
  Calls Tryz.prog 69 #[storeV (n:Int) S L T H F R U O a rs.length c] w fun x w'=>MvPost w w' x (mvD (n:Int) S L T H F rs) a c:=by
 obtain ⟨hW,hS,hL,hT,hH,hF,hroom⟩:=hok
 have hQ:=hv_yes hS
 have HTU:=hid (fun w'=>turned_i T H F R S L w' (by omega) (by omega) (by omega) (by omega) (by omega) (by omega))
 have hro:rootOk (T+1) (1-H) (F+hv S) L=true:=by unfold rootOk;simp;omega
 have HSR:=hid (fun w'=>root_i (T+1) (1-H) (F+hv S) L w')
 rw [hro] at HSR
 have HWO:=hid (fun w'=>writer_of (n:Int) S L (T+1) (1-H) (F+hv S) L 0 0 a rs.length c w' (by omega) (by omega) (by omega) (by omega) (by omega) (by omega))
 unfold mvD
 unfold storeV at HWO ⊢
 have e1:(n:Int).toNat=n:=by omega
 have e2:56-n=m:=by omega
 rw [e1,e2]
 obtain ⟨Q,HQ⟩:∃ Q,Hid (Q=hv S):=⟨_,hid rfl⟩
 rw [<-HQ.out] at hQ HTU HSR HWO hroom hfit ⊢
 obtain ⟨q,hq⟩:∃ q,q=2+(1-H)*Q:=⟨_,rfl⟩
 have hqb:2<=q/\q<=101:=by
  rcases (show H=0\/H=1 by omega) with e | e
  ·subst e;omega
  ·subst e;omega
 rw [<-hq] at HWO ⊢
 simp only [Int.add_zero] at HWO
 clear hq e1 e2 hro
 obtain ⟨hf1,hf2⟩:=hfit
 obtain ⟨bss,hbss⟩:∃ bss,bss=snapOf rs:=⟨_,rfl⟩
 have hbl:=snapOf_len rs
 have HMB:Hid (∀ b∈bss,b.length<=1048576/\∀ x∈b,x.1.size<=1048576/\x.2.1.size<=1048576):=by
  intro b hb
  rw [hbss] at hb
  obtain ⟨h1,h2⟩:=snapOf_mem hb
  exact ⟨by omega,fun x hx=>hs _ (h2 x hx)⟩
 have HSN:=hid (fun w' h'=>snap_i a rs c w' h' hc hl hs)
 have HLEN:=hid (fun k=>mvPages_len L (F+Q) n m hm hn1 hn8 (bss.take k))
 have HROOM:Hid (∀ k,roomOf (bss.take k) (n:Int)<=Q-1):=fun k=>by
  have:=room_take bss k (n:Int)
  rw [<-hbss] at hroom
  omega
 rw [<-hbss] at hbl HSN ⊢
 clear hbss hroom
 have HBB:Hid (Below w.heap.size w ((w.alloc (.cells #[.int .i64 (n:Int),.int .i64 S,.int .i64 L,.int .i64 T,.int .i64 H,.int .i64 F,.int .i64 R,.int .i64 U,.int .i64 O,.slice a rs.length c] 47)).alloc (.cells #[.int .i64 0,.int .i64 0,.int .i64 0,.int .i64 0,.int .i64 0,.int .i64 0,.int .i64 0,.int .i64 0,.int .i64 0,.int .i64 0,.slice none 0 0,.slice none 0 0] 64))):=((Below.refl _ _).alloc (Nat.le_refl _) _).alloc (by simp) _
 go_enter Tryz.func69,Tryz.ntmps69
 go_wp2_with fail
 refine (HTU.out _).mono ?_
 rintro e w1 ⟨rfl,hb1⟩
 have r0:=((row_new w #[.int .i64 (n:Int),.int .i64 S,.int .i64 L,.int .i64 T,.int .i64 H,.int .i64 F,.int .i64 R,.int .i64 U,.int .i64 O,.slice a rs.length c] 47).alloc (.cells #[.int .i64 0,.int .i64 0,.int .i64 0,.int .i64 0,.int .i64 0,.int .i64 0,.int .i64 0,.int .i64 0,.int .i64 0,.int .i64 0,.slice none 0 0,.slice none 0 0] 64)).below hb1
 have r1:=(row_at (w:=w.alloc (.cells #[.int .i64 (n:Int),.int .i64 S,.int .i64 L,.int .i64 T,.int .i64 H,.int .i64 F,.int .i64 R,.int .i64 U,.int .i64 O,.slice a rs.length c] 47)) (A:=#[.int .i64 0,.int .i64 0,.int .i64 0,.int .i64 0,.int .i64 0,.int .i64 0,.int .i64 0,.int .i64 0,.int .i64 0,.int .i64 0,.slice none 0 0,.slice none 0 0]) (t:=64) (g:=w.heap.size+1) (by simp)).below hb1
 have HBE:=hid (HBB.out.trans (hb1.mono (by simp;omega)))
 have xc0:=r0.cell 0 _ rfl
 have xf0:=r0.froz 0 (by simp)
 have xc1:=r0.cell 1 _ rfl
 have xf1:=r0.froz 1 (by simp)
 have xc2:=r0.cell 2 _ rfl
 have xf2:=r0.froz 2 (by simp)
 have xc3:=r0.cell 3 _ rfl
 have xf3:=r0.froz 3 (by simp)
 have xc4:=r0.cell 4 _ rfl
 have xf4:=r0.froz 4 (by simp)
 have xc5:=r0.cell 5 _ rfl
 have xf5:=r0.froz 5 (by simp)
 have xc6:=r0.cell 6 _ rfl
 have xf6:=r0.froz 6 (by simp)
 have xc7:=r0.cell 7 _ rfl
 have xf7:=r0.froz 7 (by simp)
 have xc8:=r0.cell 8 _ rfl
 have xf8:=r0.froz 8 (by simp)
 have xc9:=r0.cell 9 _ rfl
 have xf9:=r0.froz 9 (by simp)
 have HR0:=hid r0
 have HR1:=hid r1
 clear r0 r1 hb1
 go_wp2_with fail
 refine (HSR.out _).mono ?_
 rintro e w2 ⟨rfl,hb2⟩
 clear xc0 xf0 xc1 xf1 xc2 xf2 xc3 xf3 xc4 xf4 xc5 xf5 xc6 xf6 xc7 xf7 xc8 xf8 xc9 xf9
 have r0:=((((HR0.out.set 3 (by simp) _).set 4 (by simp) _).set 5 (by simp) _).set 6 (by simp) _).below hb2
 have r1:=((((HR1.out.other ⟨w.heap.size,3,none⟩ (by show w.heap.size≠_;omega) _).other ⟨w.heap.size,4,none⟩ (by show w.heap.size≠_;omega) _).other ⟨w.heap.size,5,none⟩ (by show w.heap.size≠_;omega) _).other ⟨w.heap.size,6,none⟩ (by show w.heap.size≠_;omega) _).below hb2
 have hbe:=((((HBE.out.setCell (p:=⟨w.heap.size,3,none⟩) (Nat.le_refl _) (.int .i64 (T+1))).setCell (p:=⟨w.heap.size,4,none⟩) (Nat.le_refl _) (.int .i64 (1-H))).setCell (p:=⟨w.heap.size,5,none⟩) (Nat.le_refl _) (.int .i64 (F+Q))).setCell (p:=⟨w.heap.size,6,none⟩) (Nat.le_refl _) (.int .i64 L))
 have HBF:=hid (hbe.trans (hb2.mono hbe.size))
 simp only [List.set_cons_zero,List.set_cons_succ] at r0
 clear hb2 hbe HBE HR0 HR1
 have xc0:=r0.cell 0 _ rfl
 have xf0:=r0.froz 0 (by simp)
 have xc1:=r0.cell 1 _ rfl
 have xf1:=r0.froz 1 (by simp)
 have xc2:=r0.cell 2 _ rfl
 have xf2:=r0.froz 2 (by simp)
 have xc3:=r0.cell 3 _ rfl
 have xf3:=r0.froz 3 (by simp)
 have xc4:=r0.cell 4 _ rfl
 have xf4:=r0.froz 4 (by simp)
 have xc5:=r0.cell 5 _ rfl
 have xf5:=r0.froz 5 (by simp)
 have xc6:=r0.cell 6 _ rfl
 have xf6:=r0.froz 6 (by simp)
 have xc7:=r0.cell 7 _ rfl
 have xf7:=r0.froz 7 (by simp)
 have xc8:=r0.cell 8 _ rfl
 have xf8:=r0.froz 8 (by simp)
 have xc9:=r0.cell 9 _ rfl
 have xf9:=r0.froz 9 (by simp)
 have HR0:=hid r0
 have HR1:=hid r1
 clear r0 r1
 go_wp2_with fail
 clear xc0 xf0 xc1 xf1 xc2 xf2 xc3 xf3 xc4 xf4 xc5 xf5 xc6 xf6 xc7 xf7 xc8 xf8 xc9 xf9
 obtain ⟨w3,hw3⟩:∃ w3,w3=(w2.setCell ⟨w.heap.size,7,none⟩ (.int .i64 0)).setCell ⟨w.heap.size,8,none⟩ (.int .i64 0):=⟨_,rfl⟩
 have r0:Row w3 (w.heap.size) [.int .i64 (n:Int),.int .i64 S,.int .i64 L,.int .i64 (T+1),.int .i64 (1-H),.int .i64 (F+Q),.int .i64 L,.int .i64 0,.int .i64 0,.slice a rs.length c]:=by rw [hw3];exact (HR0.out.set 7 (by simp) _).set 8 (by simp) _
 have r1:Row w3 (w.heap.size+1) [.int .i64 0,.int .i64 0,.int .i64 0,.int .i64 0,.int .i64 0,.int .i64 0,.int .i64 0,.int .i64 0,.int .i64 0,.int .i64 0,.slice none 0 0,.slice none 0 0]:=by rw [hw3];exact (HR1.out.other ⟨w.heap.size,7,none⟩ (by show w.heap.size≠_;omega) _).other ⟨w.heap.size,8,none⟩ (by show w.heap.size≠_;omega) _
 have hb3:Below w.heap.size w w3:=by rw [hw3];exact (HBF.out.setCell (p:=⟨w.heap.size,7,none⟩) (Nat.le_refl _) _).setCell (p:=⟨w.heap.size,8,none⟩) (Nat.le_refl _) _
 rw [<-hw3]
 clear hw3 HR0 HR1 HBF
 refine (HWO.out _).mono ?_
 rintro e w4 ⟨g,rfl,hW,hb4⟩
 have hgg:=hW.ge
 have hgl:=hW.row.lt
 have hs4:=hb4.size
 have HW:=hid hW
 have HB4:=hid hb4
 have HR0:=hid r0
 have HR1:=hid r1
 have HB3:=hid hb3
 have hlA:=r0.lt
 have hlB:=r1.lt
 clear hW hb4 r0 r1 hb3 HWO HTU HSR HBB
 go_wp2_with fail
 refine (mover_i w3.heap.size g _ _ q (F+Q) L (n:Int) _ HW.out hs4 (by simp) (by omega) (by omega) (by omega) (by omega)).mono ?_
 rintro e w5 ⟨rfl,hBm,⟨v5,hW5,hv5⟩,hb5⟩
 have hb35:Below w3.heap.size w3 w5:=HB4.out.trans hb5
 have r0:=HR0.out.below hb35
 have x9:=r0.cell 9 _ rfl
 have hs5:=hb5.size
 have hBl:=hBm.lt
 clear r0
 go_wp2_with fail
 clear x9
 refine (HSN.out _ (h.below (HB3.out.trans (hb35.mono HB3.out.size)))).mono ?_
 rintro e w6 ⟨v6,rfl,hbat,hb6⟩
 obtain ⟨va,vc,rfl,_⟩:=hbat.bts
 have hs6:=hb6.size
 have HBA:=hid hbat
 have HBM:=hid (hBm.below hb6)
 have HV5:=hid hv5
 have hov:∀ k,v5.ownBlock=some k->k<w5.heap.size:=fun k hk=>(hW5.own.lt k hk).2
 have HOV:=hid hov
 have HW6:=hid (hW5.below hb6)
 have HB6:=hid (hb35.trans (hb6.mono hb35.size))
 clear hbat hBm hv5 hov hW5 hb6 hb5 hb35 HSN HW HB4
 go_wp2_with fail
 go_loopw [30] (fun i wr=>∃ k:Nat,k<=bss.length/\i=.int .i64 (k:Int)/\∃ v',Wrt wr w3.heap.size g v' (putOps q (mvPages L (F+Q) n m (bss.take k))) (q+((mvPages L (F+Q) n m (bss.take k)).length:Int)) (F+Q+((mvPages L (F+Q) n m (bss.take k)).length:Int)) L (n:Int)/\Below w3.heap.size w3 wr/\WK g w6 v5 wr v') (fun i _=>bss.length-(intOf i).toNat)
 case atStart =>
  refine ⟨0,Nat.zero_le _,rfl,v5,?_,HB6.out,WK.start _ _ _⟩
  rw [List.take_zero,mvPages_nil]
  have e0:putOps q [formOf 3 L (F+Q) ByteArray.empty (n:Int)]=[]++[(false,q,formOf 3 L (F+Q) ByteArray.empty (n:Int))]:=by simp [putOps]
  rw [e0]
  exact HW6.out
 case round =>
  obtain ⟨k,hk,rfl,v',hW,hbw,hwk⟩:=hrel
  have hN:((mvPages L (F+Q) n m (bss.take k)).length:Int)<=99:=by have h1:=HLEN.out k;have h2:=HROOM.out k;omega
  obtain ⟨acc,hacc⟩:∃ acc,acc=mvPages L (F+Q) n m (bss.take k):=⟨_,rfl⟩
  rw [<-hacc] at hW hN
  have hsr:w3.heap.size<=wr.heap.size:=hbw.size
  by_cases hlt:k<bss.length
  ·have hba:=HBA.out.span (w':=wr) (fun b h1 h2=>hwk.blk b h2 (by omega) (fun e=>by have:=HOV.out b e.symm;omega))
   obtain ⟨va',vc',ev,hbt⟩:=hba.bts
   cases ev
   obtain ⟨gl,p,cc,rfl,hgl2,hcl,hch⟩:=hbt.at hlt
   have hlt':(k:Int)<(bss.length:Int):=by omega
   have hk0:(0:Int)<=(k:Int):=by omega
   have hmem:=HMB.out (bss.getD k []) (by simp [List.getD,hlt])
   have hN1:((mvPages L (F+Q) n m (bss.take (k+1))).length:Int)<=99:=by have h1:=HLEN.out (k+1);have h2:=HROOM.out (k+1);omega
   have hst:mvPages L (F+Q) n m (bss.take (k+1))=acc++cutAll (bOut (bss.getD k [])) L (F+Q+(acc.length:Int)) n m:=by rw [takeR_snoc bss k [] hlt,mvPages_snoc,<-hacc]
   obtain ⟨b,hb⟩:∃ b,b=bss.getD k []:=⟨_,rfl⟩
   rw [<-hb] at hcl hch hmem hst
   rw [hst,List.length_append] at hN1
   have HTK:=hid (mtake_i w3.heap.size g w4.heap.size v' (putOps q acc) (q+(acc.length:Int)) (F+Q+(acc.length:Int)) L n m p b cc wr hW (HBM.out.wk hwk (by omega) (fun e=>HV5.out _ e.symm rfl)) (by omega) (fun e=>by rcases hwk.own _ e.symm with h1 | h1;exact HV5.out _ h1 rfl;omega) hch hmem.1 hmem.2 hsr (by rw [putOps_length];omega) hm hn1 hn8 (by omega) (by omega) (by omega) (by omega))
   have HST:=hid hst
   have HBW:=hid hbw
   have HWK:=hid hwk
   clear hb hst hacc hmem hch hbw hba hbt hwk hW
   go_wp2_with (go_at_call 146;refine HTK.out.mono ?_;rintro e w7 ⟨⟨x,rfl⟩,v7,hW7,hb7,hwk7⟩)
   refine ⟨⟨k+1,by omega,by go_num,v7,?_,HBW.out.trans hb7,HWK.out.trans hwk7⟩,by simp [intOf];omega⟩
   rw [HST.out,putOps_append,List.length_append]
   have e1:q+((acc.length+(cutAll (bOut b) L (F+Q+(acc.length:Int)) n m).length:Nat):Int)=q+(acc.length:Int)+((cutAll (bOut b) L (F+Q+(acc.length:Int)) n m).length:Int):=by omega
   have e2:F+Q+((acc.length+(cutAll (bOut b) L (F+Q+(acc.length:Int)) n m).length:Nat):Int)=F+Q+(acc.length:Int)+((cutAll (bOut b) L (F+Q+(acc.length:Int)) n m).length:Int):=by omega
   rw [e1,e2]
   exact hW7
  ·have hkl:k=bss.length:=by omega
   subst hkl
   have he:acc=mvPages L (F+Q) n m bss:=by rw [hacc,List.take_length]
   clear hacc
   have HAE:=hid he
   obtain ⟨ya,yc,rfl⟩:=hW.sl
   rw [putOps_length] at hW
   have y0:=hW.row.cell 0 _ rfl
   have r0:=HR0.out.below hbw
   have r1:=HR1.out.below hbw
   have hgr:=hW.row.lt
   have xc0:=r0.cell 0 _ rfl
   have xf0:=r0.froz 0 (by simp)
   have xc1:=r0.cell 1 _ rfl
   have xf1:=r0.froz 1 (by simp)
   have xc2:=r0.cell 2 _ rfl
   have xf2:=r0.froz 2 (by simp)
   have xc3:=r0.cell 3 _ rfl
   have xf3:=r0.froz 3 (by simp)
   have xc4:=r0.cell 4 _ rfl
   have xf4:=r0.froz 4 (by simp)
   have xc5:=r0.cell 5 _ rfl
   have xf5:=r0.froz 5 (by simp)
   have xc6:=r0.cell 6 _ rfl
   have xf6:=r0.froz 6 (by simp)
   have xc7:=r0.cell 7 _ rfl
   have xf7:=r0.froz 7 (by simp)
   have xc8:=r0.cell 8 _ rfl
   have xf8:=r0.froz 8 (by simp)
   have xc9:=r0.cell 9 _ rfl
   have xf9:=r0.froz 9 (by simp)
   have HW9:=hid hW
   have HBW:=hid hbw
   have HX0:=hid r0
   have HX1:=hid r1
   clear hW hbw r0 r1 hwk he
   go_wp2_with fail
   clear xc0 xf0 xc1 xf1 xc2 xf2 xc3 xf3 xc4 xf4 xc5 xf5 xc6 xf6 xc7 xf7 xc8 xf8 xc9 xf9
   clear y0
   obtain ⟨w7,hw7⟩:∃ w7,w7=wr.setCell ⟨w.heap.size,7,none⟩ (.int .i64 (acc.length:Int)):=⟨_,rfl⟩
   rw [<-hw7]
   have hW7:=HW9.out.set w.heap.size 7 hlA (.int .i64 (acc.length:Int))
   have r0:=HX0.out.set 7 (by simp) (.int .i64 (acc.length:Int))
   have r1:=HX1.out.other ⟨w.heap.size,7,none⟩ (by show w.heap.size≠_;omega) (.int .i64 (acc.length:Int))
   have hbx:Below w.heap.size w w7:=by rw [hw7];exact (HB3.out.trans (HBW.out.mono HB3.out.size)).setCell (p:=⟨w.heap.size,7,none⟩) (Nat.le_refl _) _
   have hs7:w3.heap.size<=w7.heap.size:=by rw [hw7];simpa [World.setCell] using hsr
   simp only [List.set_cons_zero,List.set_cons_succ] at r0
   rw [<-hw7] at hW7 r0 r1
   clear hw7 HX0 HX1 HW9
   refine (sync_i w3.heap.size g _ _ _ _ _ _ _ hW7 hs7 (by rw [putOps_length];omega)).mono ?_
   rintro e w8 ⟨⟨x8,rfl⟩,⟨v8,hW8⟩,hb8⟩
   have r08:=r0.below2 hlA hb8
   have r18:=r1.below2 hlB hb8
   have hs8:w3.heap.size<=w8.heap.size:=Nat.le_trans hs7 hb8.size
   have x0:=r08.cell 0 _ rfl
   have x1:=r08.cell 1 _ rfl
   have x2:=r08.cell 2 _ rfl
   have x3:=r08.cell 3 _ rfl
   have x4:=r08.cell 4 _ rfl
   have x5:=r08.cell 5 _ rfl
   have x6:=r08.cell 6 _ rfl
   have x7:=r08.cell 7 _ rfl
   have x8:=r08.cell 8 _ rfl
   have x9:=r08.cell 9 _ rfl
   have HW8:=hid hW8
   clear hW8
   go_wp2_with fail
   refine (wroot_i w3.heap.size g _ _ _ _ _ _ _ _ _ _ _ HW8.out hs8 (by simp [putOps_length];omega) (by omega)).mono ?_
   rintro e w9 ⟨⟨x9',rfl⟩,⟨v9,hW9⟩,hb9⟩
   clear x0 x1 x2 x3 x4 x5 x6 x7 x8 x9
   have r09:=r08.below2 hlA hb9
   have r19:=r18.below2 hlB hb9
   have hs9:w3.heap.size<=w9.heap.size:=Nat.le_trans hs8 hb9.size
   go_wp2_with fail
   refine (sync_i w3.heap.size g _ _ _ _ _ _ _ hW9 hs9 (by simp [putOps_length];omega)).mono ?_
   rintro e w10 ⟨⟨x10',rfl⟩,⟨v10,hW10⟩,hb10⟩
   have r010:=r09.below2 hlA hb10
   have r110:=r19.below2 hlB hb10
   have hs10:w3.heap.size<=w10.heap.size:=Nat.le_trans hs9 hb10.size
   have hbz:Below w.heap.size w w10:=((hbx.trans (hb8.mono (by omega))).trans (hb9.mono (by omega))).trans (hb10.mono (by omega))
   have HBZ:=hid hbz
   obtain ⟨za,zc,rfl⟩:=hW10.sl
   have hlen:(putOps q acc++[(true,0,ByteArray.empty)]++[(false,(T+1) % 2,rtForm (T+1) (1-H) (F+Q) L (n:Int))]++[(true,0,ByteArray.empty)]).length=acc.length+3:=by simp [putOps_length]
   obtain ⟨go,cap,ez,hgo1,hgo2,hrow⟩:∃ go cap,Value.slice za (putOps q acc++[(true,0,ByteArray.empty)]++[(false,(T+1) % 2,rtForm (T+1) (1-H) (F+Q) L (n:Int))]++[(true,0,ByteArray.empty)]).length zc=Value.slice (some ⟨go,0,none⟩) (acc.length+3) cap/\w3.heap.size<=go/\go<w10.heap.size/\Row w10 go (opcells (putOps q acc++[(true,0,ByteArray.empty)]++[(false,(T+1) % 2,rtForm (T+1) (1-H) (F+Q) L (n:Int))]++[(true,0,ByteArray.empty)])):=by
    rcases owns_forms hW10.own with ⟨e1,e2⟩ | ⟨g,cap,e1,e2,e3,e4⟩
    ·simp at e2
    ·exact ⟨g,cap,by rw [e1,hlen],e2,e3,e4⟩
   have y0:=hW10.row.cell 0 _ rfl
   rw [ez] at y0
   have hg10:=hW10.row.lt
   have hgn:w.heap.size≠g:=by omega
   have hgn1:w.heap.size+1≠g:=by omega
   have hgn2:¬ g=w.heap.size+1:=by omega
   have x0:=r010.cell 0 _ rfl
   have x1:=r010.cell 1 _ rfl
   have x2:=r010.cell 2 _ rfl
   have x3:=r010.cell 3 _ rfl
   have x4:=r010.cell 4 _ rfl
   have x5:=r010.cell 5 _ rfl
   have x6:=r010.cell 6 _ rfl
   have x7:=r010.cell 7 _ rfl
   have x8:=r010.cell 8 _ rfl
   have x9:=r010.cell 9 _ rfl
   have d0:=r110.cell 0 _ rfl
   have df0:=r110.froz 0 (by simp)
   have d1:=r110.cell 1 _ rfl
   have df1:=r110.froz 1 (by simp)
   have d2:=r110.cell 2 _ rfl
   have df2:=r110.froz 2 (by simp)
   have d3:=r110.cell 3 _ rfl
   have df3:=r110.froz 3 (by simp)
   have d4:=r110.cell 4 _ rfl
   have df4:=r110.froz 4 (by simp)
   have d5:=r110.cell 5 _ rfl
   have df5:=r110.froz 5 (by simp)
   have d6:=r110.cell 6 _ rfl
   have df6:=r110.froz 6 (by simp)
   have d7:=r110.cell 7 _ rfl
   have df7:=r110.froz 7 (by simp)
   have d8:=r110.cell 8 _ rfl
   have df8:=r110.froz 8 (by simp)
   have d9:=r110.cell 9 _ rfl
   have df9:=r110.froz 9 (by simp)
   have d10:=r110.cell 10 _ rfl
   have df10:=r110.froz 10 (by simp)
   have d11:=r110.cell 11 _ rfl
   have df11:=r110.froz 11 (by simp)
   have hlx:w.heap.size<w10.heap.size:=by omega
   have hly:w.heap.size+1<w10.heap.size:=by omega
   have HROW:=hid hrow
   clear hW10 hb10 hb9 hb8 hbx hbz hW9 hW7 r0 r1 r08 r18 r09 r19 r010 r110 HW8 hrow ez
   go_wp2_with fail
   refine wp_region_held_drew (S:=fun w'=>w'.cell? ⟨w.heap.size,0,none⟩=some (.int .i64 (n:Int))/\w'.cell? ⟨w.heap.size,1,none⟩=some (.int .i64 S)/\w'.cell? ⟨w.heap.size,2,none⟩=some (.int .i64 L)/\w'.cell? ⟨w.heap.size,3,none⟩=some (.int .i64 (T+1))/\w'.cell? ⟨w.heap.size,4,none⟩=some (.int .i64 (1-H))/\w'.cell? ⟨w.heap.size,5,none⟩=some (.int .i64 (F+Q))/\w'.cell? ⟨w.heap.size,6,none⟩=some (.int .i64 L)/\w'.cell? ⟨w.heap.size,7,none⟩=some (.int .i64 (acc.length:Int))/\w'.cell? ⟨w.heap.size,8,none⟩=some (.int .i64 0)/\w'.cell? ⟨w.heap.size,9,none⟩=some (.slice a rs.length c)/\w'.cell? ⟨g,0,none⟩=some (.slice (some ⟨go,0,none⟩) (acc.length+3) cap)) (by kernel_rfl) (⟨by go_simp,by go_simp,by go_simp,by go_simp,by go_simp,by go_simp,by go_simp,by go_simp,by go_simp,by go_simp,by go_simp⟩) (fun hHeld=>?_)
   refine TY (i:=0) (v:=.agg #[.int .i64 (n:Int),.int .i64 S,.int .i64 L,.int .i64 (T+1),.int .i64 (1-H),.int .i64 (F+Q),.int .i64 L,.int .i64 (acc.length:Int),.int .i64 0,.slice a rs.length c]) rfl hHeld ?_
   simp only [PS]
   refine TY (i:=1) (v:=.pointer (some ⟨g,0,none⟩)) rfl hHeld ?_
   simp only [PS]
   refine TY (i:=2) (v:=.pointer (some ⟨g,0,none⟩)) rfl hHeld ?_
   simp only [PS]
   refine TY (i:=3) (v:=.pointer (some ⟨g,0,none⟩)) rfl hHeld ?_
   simp only [PS]
   refine TY (i:=4) (v:=.slice (some ⟨go,0,none⟩) (acc.length+3) cap) rfl hHeld ?_
   simp only [PS]
   refine TY (i:=5) (v:=.agg #[.int .i64 0,.int .i64 (n:Int),.int .i64 S,.int .i64 L,.int .i64 (T+1),.int .i64 (1-H),.int .i64 (F+Q),.int .i64 L,.int .i64 (acc.length:Int),.int .i64 0,.slice a rs.length c,.slice (some ⟨go,0,none⟩) (acc.length+3) cap]) rfl hHeld ?_
   simp only [PS]
   refine RD (i:=6) rfl (fun K hK=>?_)
   go_simp
   refine hK.out _ _ (⟨by go_simp,by go_simp,by go_simp,by go_simp,by go_simp,by go_simp,by go_simp,by go_simp,by go_simp,by go_simp,by go_simp⟩) (fun hHd1=>?_)
   clear hK K
   try simp only [PS]
   refine wpAnyH_done (by kernel_rfl) ?_ _
   go_wp2
   rw [<-HAE.out]
   have hops:putOps q acc++[(true,0,ByteArray.empty),(false,(T+1) % 2,rtForm (T+1) (1-H) (F+Q) L (n:Int)),(true,0,ByteArray.empty)]=(putOps q acc++[(true,0,ByteArray.empty)]++[(false,(T+1) % 2,rtForm (T+1) (1-H) (F+Q) L (n:Int))]++[(true,0,ByteArray.empty)]):=by simp
   rw [hops]
   refine bodyPost_ret (v:=dnV ⟨0,(n:Int),S,L,T+1,1-H,F+Q,L,(acc.length:Int),0,rs,(putOps q acc++[(true,0,ByteArray.empty)]++[(false,(T+1) % 2,rtForm (T+1) (1-H) (F+Q) L (n:Int))]++[(true,0,ByteArray.empty)])⟩ a c (some ⟨go,0,none⟩) cap) (by simp [results,Tryz.results69,go_sem,dnV,putOps_length,d0,d1,d2,d3,d4,d5,d6,d7,d8,d9,d10,d11]) rfl ⟨_,cap,rfl,?_,?_,?_⟩
   ·refine .inr ⟨go,rfl,?_⟩
    refine Row.drew ?_
    iterate 12 (refine Row.other ?_ _ (by show w.heap.size+1≠go;omega) _)
    exact HROW.out
   ·exact fun g hg=>by change blk _ (putOps q acc++[(true,0,ByteArray.empty)]++[(false,(T+1) % 2,rtForm (T+1) (1-H) (F+Q) L (n:Int))]++[(true,0,ByteArray.empty)]).length=_ at hg;rw [hlen,blk_pos _ _ _ (by omega)] at hg;cases hg;omega
   ·refine Below.drew ?_
    iterate 12 (refine Below.setCell ?_ (by show w.heap.size<=w.heap.size+1;omega) _)
    exact HBZ.out
set_option maxHeartbeats 16000000 in
theorem move_i_no (W S L T H F R U O:Int) (a:Option Addr) (rs:List Pr) (c:Nat) (w:World) (hok:mvOk W S L T H F rs) (hfit:¬ (T+1<=1000000000/\F+hv S<=999999000)) :
  Calls Tryz.prog 69 #[storeV W S L T H F R U O a rs.length c] w fun x w'=>x=.returned (dnV (noD 4) none 0 none 0)/\Below w.heap.size w w':=by
 obtain ⟨hW,hS,hL,hT,hH,hF,hroom⟩:=hok
 have hQ:=hv_yes hS
 have HTU:=hid (fun w'=>turned_i T H F R S L w' (by omega) (by omega) (by omega) (by omega) (by omega) (by omega))
 have hro:rootOk (T+1) (1-H) (F+hv S) L=false:=by
  refine root_no _ _ _ _ ?_
  by_cases h1:T+1<=1000000000
  ·exact .inr (.inr (.inr (by omega)))
  ·exact .inl (by omega)
 have HSR:=hid (fun w'=>root_i (T+1) (1-H) (F+hv S) L w')
 rw [hro] at HSR
 unfold storeV
 obtain ⟨Q,HQ⟩:∃ Q,Hid (Q=hv S):=⟨_,hid rfl⟩
 rw [<-HQ.out] at hQ HTU HSR hfit
 clear hro hfit
 have HBB:Hid (Below w.heap.size w ((w.alloc (.cells #[.int .i64 W,.int .i64 S,.int .i64 L,.int .i64 T,.int .i64 H,.int .i64 F,.int .i64 R,.int .i64 U,.int .i64 O,.slice a rs.length c] 47)).alloc (.cells #[.int .i64 0,.int .i64 0,.int .i64 0,.int .i64 0,.int .i64 0,.int .i64 0,.int .i64 0,.int .i64 0,.int .i64 0,.int .i64 0,.slice none 0 0,.slice none 0 0] 64))):=((Below.refl _ _).alloc (Nat.le_refl _) _).alloc (by simp) _
 go_enter Tryz.func69,Tryz.ntmps69
 go_wp2_with fail
 refine (HTU.out _).mono ?_
 rintro e w1 ⟨rfl,hb1⟩
 have r0:=((row_new w #[.int .i64 W,.int .i64 S,.int .i64 L,.int .i64 T,.int .i64 H,.int .i64 F,.int .i64 R,.int .i64 U,.int .i64 O,.slice a rs.length c] 47).alloc (.cells #[.int .i64 0,.int .i64 0,.int .i64 0,.int .i64 0,.int .i64 0,.int .i64 0,.int .i64 0,.int .i64 0,.int .i64 0,.int .i64 0,.slice none 0 0,.slice none 0 0] 64)).below hb1
 have r1:=(row_at (w:=w.alloc (.cells #[.int .i64 W,.int .i64 S,.int .i64 L,.int .i64 T,.int .i64 H,.int .i64 F,.int .i64 R,.int .i64 U,.int .i64 O,.slice a rs.length c] 47)) (A:=#[.int .i64 0,.int .i64 0,.int .i64 0,.int .i64 0,.int .i64 0,.int .i64 0,.int .i64 0,.int .i64 0,.int .i64 0,.int .i64 0,.slice none 0 0,.slice none 0 0]) (t:=64) (g:=w.heap.size+1) (by simp)).below hb1
 have HBE:=hid (HBB.out.trans (hb1.mono (by simp;omega)))
 have HR0:=hid r0
 have HR1:=hid r1
 have xc0:=r0.cell 0 _ rfl
 have xf0:=r0.froz 0 (by simp)
 have xc1:=r0.cell 1 _ rfl
 have xf1:=r0.froz 1 (by simp)
 have xc2:=r0.cell 2 _ rfl
 have xf2:=r0.froz 2 (by simp)
 have xc3:=r0.cell 3 _ rfl
 have xf3:=r0.froz 3 (by simp)
 have xc4:=r0.cell 4 _ rfl
 have xf4:=r0.froz 4 (by simp)
 have xc5:=r0.cell 5 _ rfl
 have xf5:=r0.froz 5 (by simp)
 have xc6:=r0.cell 6 _ rfl
 have xf6:=r0.froz 6 (by simp)
 have xc7:=r0.cell 7 _ rfl
 have xf7:=r0.froz 7 (by simp)
 have xc8:=r0.cell 8 _ rfl
 have xf8:=r0.froz 8 (by simp)
 have xc9:=r0.cell 9 _ rfl
 have xf9:=r0.froz 9 (by simp)
 clear r0 r1 hb1
 go_wp2_with fail
 refine (HSR.out _).mono ?_
 rintro e w2 ⟨rfl,hb2⟩
 clear xc0 xf0 xc1 xf1 xc2 xf2 xc3 xf3 xc4 xf4 xc5 xf5 xc6 xf6 xc7 xf7 xc8 xf8 xc9 xf9
 have r1:=((((HR1.out.other ⟨w.heap.size,3,none⟩ (by show w.heap.size≠_;omega) _).other ⟨w.heap.size,4,none⟩ (by show w.heap.size≠_;omega) _).other ⟨w.heap.size,5,none⟩ (by show w.heap.size≠_;omega) _).other ⟨w.heap.size,6,none⟩ (by show w.heap.size≠_;omega) _).below hb2
 have hbe:=((((HBE.out.setCell (p:=⟨w.heap.size,3,none⟩) (Nat.le_refl _) (.int .i64 (T+1))).setCell (p:=⟨w.heap.size,4,none⟩) (Nat.le_refl _) (.int .i64 (1-H))).setCell (p:=⟨w.heap.size,5,none⟩) (Nat.le_refl _) (.int .i64 (F+Q))).setCell (p:=⟨w.heap.size,6,none⟩) (Nat.le_refl _) (.int .i64 L))
 have HBF:=hid (hbe.trans (hb2.mono hbe.size))
 have d0:=r1.cell 0 _ rfl
 have df0:=r1.froz 0 (by simp)
 have d1:=r1.cell 1 _ rfl
 have df1:=r1.froz 1 (by simp)
 have d2:=r1.cell 2 _ rfl
 have df2:=r1.froz 2 (by simp)
 have d3:=r1.cell 3 _ rfl
 have df3:=r1.froz 3 (by simp)
 have d4:=r1.cell 4 _ rfl
 have df4:=r1.froz 4 (by simp)
 have d5:=r1.cell 5 _ rfl
 have df5:=r1.froz 5 (by simp)
 have d6:=r1.cell 6 _ rfl
 have df6:=r1.froz 6 (by simp)
 have d7:=r1.cell 7 _ rfl
 have df7:=r1.froz 7 (by simp)
 have d8:=r1.cell 8 _ rfl
 have df8:=r1.froz 8 (by simp)
 have d9:=r1.cell 9 _ rfl
 have df9:=r1.froz 9 (by simp)
 have d10:=r1.cell 10 _ rfl
 have df10:=r1.froz 10 (by simp)
 have d11:=r1.cell 11 _ rfl
 have df11:=r1.froz 11 (by simp)
 have hly:=r1.lt
 clear hb2 hbe HBE HR0 HR1 r1
 go_wp2_with fail
 refine bodyPost_ret (v:=dnV (noD 4) none 0 none 0) (by simp [results,Tryz.results69,go_sem,dnV,noD,d0,d1,d2,d3,d4,d5,d6,d7,d8,d9,d10,d11]) rfl ⟨rfl,?_⟩
 iterate 12 (refine Below.setCell ?_ (by show w.heap.size<=w.heap.size+1;omega) _)
 exact HBF.out
set_option maxHeartbeats 16000000 in
theorem begin_i (W S L T H F R U O:Int) (a:Option Addr) (rs:List Pr) (c:Nat) (w:World) (h0:0<=H/\H<=1) (f0:1<=F/\F<=999999000) (u0:0<=U/\U<=99) :
  Calls Tryz.prog 70 #[storeV W S L T H F R U O a rs.length c] w fun x w'=>MvPost w w' x ⟨0,W,S,L,T,H,F,R,U+1,O,rs,[(false,2+H*hv S+U,formOf 3 L (F+U) ByteArray.empty W),(true,0,ByteArray.empty)]⟩ a c:=by
 have hQ:0<=hv S/\hv S<=99:=by by_cases h:8<=S/\S<=200;have:=hv_yes h;omega;rw [hv_no h];omega
 have HWO:=hid (fun w'=>writer_of W S L T H F R U O a rs.length c w' h0.1 h0.2 f0.1 f0.2 u0.1 u0.2)
 unfold storeV at HWO ⊢
 obtain ⟨q,hq⟩:∃ q,q=2+H*hv S:=⟨_,rfl⟩
 have hqb:2<=q/\q<=101:=by
  rcases (show H=0\/H=1 by omega) with e | e
  ·subst e;omega
  ·subst e;omega
 rw [<-hq] at HWO ⊢
 clear hq hQ
 have hw1:IntKind.i64.wrap (U+1)=U+1:=by simp [IntKind.wrap,IntKind.bits,IntKind.signed];omega
 go_enter Tryz.func70,Tryz.ntmps70
 go_wp2_with fail
 obtain ⟨v0,e0⟩:∃ x,x=(w.alloc (.cells #[.int .i64 W,.int .i64 S,.int .i64 L,.int .i64 T,.int .i64 H,.int .i64 F,.int .i64 R,.int .i64 U,.int .i64 O,.slice a rs.length c] 47)).alloc (.cells #[.int .i64 0,.int .i64 0,.int .i64 0,.int .i64 0,.int .i64 0,.int .i64 0,.int .i64 0,.int .i64 0,.int .i64 0,.int .i64 0,.slice none 0 0,.slice none 0 0] 64):=⟨_,rfl⟩
 have hE:Below w.heap.size w v0:=by rw [e0];exact ((Below.refl _ _).alloc (Nat.le_refl _) _).alloc (by simp) _
 have s_v0:w.heap.size+1+1<=v0.heap.size:=by rw [e0];simp
 have bS:Dep v0 w.heap.size (w.heap.size+1) (fun W'=>Row W' w.heap.size [.int .i64 W,.int .i64 S,.int .i64 L,.int .i64 T,.int .i64 H,.int .i64 F,.int .i64 R,.int .i64 U,.int .i64 O,.slice a rs.length c]):=by rw [e0];exact (dep_box w _ _).below ((Below.refl _ _).alloc (Nat.le_refl _) _)
 have bD:Dep v0 (w.heap.size+1) (w.heap.size+1+1) (fun W'=>Row W' (w.heap.size+1) [.int .i64 0,.int .i64 0,.int .i64 0,.int .i64 0,.int .i64 0,.int .i64 0,.int .i64 0,.int .i64 0,.int .i64 0,.int .i64 0,.slice none 0 0,.slice none 0 0]):=by rw [e0];exact dep_row (row_at (w:=w.alloc _) (by simp)) (Nat.le_refl _) (by omega) (by simp)
 rw [<-e0]
 clear e0
 refine (HWO.out _).mono ?_
 rintro e v1 ⟨g,rfl,hWr,hb⟩
 have s_v1:v0.heap.size<=v1.heap.size:=hb.size
 have n_bS:=bS.below hb
 clear bS
 have bS:=n_bS
 clear n_bS
 have n_bD:=bD.below hb
 clear bD
 have bD:=n_bD
 clear n_bD
 have n_hE:=hE.trans (hb.mono hE.size)
 clear hE
 have hE:=n_hE
 clear n_hE
 clear hb
 have hgg:=hWr.ge
 have HWR:=hid hWr
 clear hWr
 go_wp2_with fail
 refine (newlife_i v0.heap.size g _ [] (q+U) (F+U) L W _ HWR.out (by omega) (by simp) (by omega) (by omega) (by omega) (by omega)).mono ?_
 rintro e x1 ⟨⟨x,rfl⟩,v8,hW8,hb8,_⟩
 have s_x1:=hb8.size
 have n_bS:=bS.low hb8 (by omega)
 clear bS
 have bS:=n_bS
 clear n_bS
 have n_bD:=bD.low hb8 (by omega)
 clear bD
 have bD:=n_bD
 clear n_bD
 have n_hE:=hE.trans (hb8.mono (by omega))
 clear hE
 have hE:=n_hE
 clear n_hE
 have HW8:=hid hW8
 clear hW8 hb8
 go_wp2_with fail
 refine (sync_i v0.heap.size g _ _ _ _ _ _ _ HW8.out (by omega) (by simp)).mono ?_
 rintro e x2 ⟨⟨x9,rfl⟩,⟨v9,hW9⟩,hb9⟩
 have s_x2:=hb9.size
 have n_bS:=bS.low hb9 (by omega)
 clear bS
 have bS:=n_bS
 clear n_bS
 have n_bD:=bD.low hb9 (by omega)
 clear bD
 have bD:=n_bD
 clear n_bD
 have n_hE:=hE.trans (hb9.mono (by omega))
 clear hE
 have hE:=n_hE
 clear n_hE
 clear hb9 HW8
 simp only [List.nil_append,List.cons_append] at hW9
 obtain ⟨ya,yc,rfl⟩:=hW9.sl
 simp only [List.length_cons,List.length_nil,Nat.reduceAdd] at hW9
 have y0:=hW9.row.cell 0 _ rfl
 have yl:=hW9.row.lt
 have hgn:w.heap.size≠g:=by omega
 have hgn1:w.heap.size+1≠g:=by omega
 have hgn2:¬ g=w.heap.size+1:=by omega
 have hgn3:¬ g=w.heap.size:=by omega
 have HW9:=hid hW9
 clear hW9
 have q_bS_0:=bS.now.cell 0 _ rfl
 have f_bS_0:=bS.now.froz 0 (by simp)
 have q_bS_1:=bS.now.cell 1 _ rfl
 have f_bS_1:=bS.now.froz 1 (by simp)
 have q_bS_2:=bS.now.cell 2 _ rfl
 have f_bS_2:=bS.now.froz 2 (by simp)
 have q_bS_3:=bS.now.cell 3 _ rfl
 have f_bS_3:=bS.now.froz 3 (by simp)
 have q_bS_4:=bS.now.cell 4 _ rfl
 have f_bS_4:=bS.now.froz 4 (by simp)
 have q_bS_5:=bS.now.cell 5 _ rfl
 have f_bS_5:=bS.now.froz 5 (by simp)
 have q_bS_6:=bS.now.cell 6 _ rfl
 have f_bS_6:=bS.now.froz 6 (by simp)
 have q_bS_7:=bS.now.cell 7 _ rfl
 have f_bS_7:=bS.now.froz 7 (by simp)
 have q_bS_8:=bS.now.cell 8 _ rfl
 have f_bS_8:=bS.now.froz 8 (by simp)
 have q_bS_9:=bS.now.cell 9 _ rfl
 have f_bS_9:=bS.now.froz 9 (by simp)
 have q_bS_l:=bS.now.lt
 have q_bD_0:=bD.now.cell 0 _ rfl
 have f_bD_0:=bD.now.froz 0 (by simp)
 have q_bD_1:=bD.now.cell 1 _ rfl
 have f_bD_1:=bD.now.froz 1 (by simp)
 have q_bD_2:=bD.now.cell 2 _ rfl
 have f_bD_2:=bD.now.froz 2 (by simp)
 have q_bD_3:=bD.now.cell 3 _ rfl
 have f_bD_3:=bD.now.froz 3 (by simp)
 have q_bD_4:=bD.now.cell 4 _ rfl
 have f_bD_4:=bD.now.froz 4 (by simp)
 have q_bD_5:=bD.now.cell 5 _ rfl
 have f_bD_5:=bD.now.froz 5 (by simp)
 have q_bD_6:=bD.now.cell 6 _ rfl
 have f_bD_6:=bD.now.froz 6 (by simp)
 have q_bD_7:=bD.now.cell 7 _ rfl
 have f_bD_7:=bD.now.froz 7 (by simp)
 have q_bD_8:=bD.now.cell 8 _ rfl
 have f_bD_8:=bD.now.froz 8 (by simp)
 have q_bD_9:=bD.now.cell 9 _ rfl
 have f_bD_9:=bD.now.froz 9 (by simp)
 have q_bD_10:=bD.now.cell 10 _ rfl
 have f_bD_10:=bD.now.froz 10 (by simp)
 have q_bD_11:=bD.now.cell 11 _ rfl
 have f_bD_11:=bD.now.froz 11 (by simp)
 have q_bD_l:=bD.now.lt
 go_wp2_with fail
 refine wp_region_held_drew (S:=fun w'=>w'.cell? ⟨w.heap.size,0,none⟩=some (.int .i64 W)/\w'.cell? ⟨w.heap.size,1,none⟩=some (.int .i64 S)/\w'.cell? ⟨w.heap.size,2,none⟩=some (.int .i64 L)/\w'.cell? ⟨w.heap.size,3,none⟩=some (.int .i64 T)/\w'.cell? ⟨w.heap.size,4,none⟩=some (.int .i64 H)/\w'.cell? ⟨w.heap.size,5,none⟩=some (.int .i64 F)/\w'.cell? ⟨w.heap.size,6,none⟩=some (.int .i64 R)/\w'.cell? ⟨w.heap.size,7,none⟩=some (.int .i64 (U+1))/\w'.cell? ⟨w.heap.size,8,none⟩=some (.int .i64 O)/\w'.cell? ⟨w.heap.size,9,none⟩=some (.slice a rs.length c)/\w'.cell? ⟨g,0,none⟩=some (.slice ya 2 yc)) (by kernel_rfl) (⟨by go_simp,by go_simp,by go_simp,by go_simp,by go_simp,by go_simp,by go_simp,by go_simp,by go_simp,by go_simp,by go_simp⟩) (fun hHeld=>?_)
 refine TY (i:=0) (v:=.agg #[.int .i64 W,.int .i64 S,.int .i64 L,.int .i64 T,.int .i64 H,.int .i64 F,.int .i64 R,.int .i64 (U+1),.int .i64 O,.slice a rs.length c]) rfl hHeld ?_
 simp only [PS]
 refine TY (i:=1) (v:=.pointer (some ⟨g,0,none⟩)) rfl hHeld ?_
 simp only [PS]
 refine TY (i:=2) (v:=.pointer (some ⟨g,0,none⟩)) rfl hHeld ?_
 simp only [PS]
 refine TY (i:=3) (v:=.pointer (some ⟨g,0,none⟩)) rfl hHeld ?_
 simp only [PS]
 refine TY (i:=4) (v:=.slice ya 2 yc) rfl hHeld ?_
 simp only [PS]
 refine TY (i:=5) (v:=.agg #[.int .i64 0,.int .i64 W,.int .i64 S,.int .i64 L,.int .i64 T,.int .i64 H,.int .i64 F,.int .i64 R,.int .i64 (U+1),.int .i64 O,.slice a rs.length c,.slice ya 2 yc]) rfl hHeld ?_
 simp only [PS]
 refine RD (i:=6) rfl (fun K hK=>?_)
 go_simp
 refine hK.out _ _ (⟨by go_simp,by go_simp,by go_simp,by go_simp,by go_simp,by go_simp,by go_simp,by go_simp,by go_simp,by go_simp,by go_simp⟩) (fun hHd1=>?_)
 clear hK K
 try simp only [PS]
 refine wpAnyH_done (by kernel_rfl) ?_ _
 go_wp2
 have hyc:∀ g,blk ya 2=some g->v0.heap.size<=g:=fun g hg=>by
  unfold blk at hg
  split at hg
  ·cases hg
  ·cases ya with
   | none=>cases hg
   | some ad=>simp at hg;subst hg;exact (HW9.out.own.lt ad.block rfl).1
 have hof:OwnS x2 ya (opcells [(false,q+U,formOf 3 L (F+U) ByteArray.empty W),(true,0,ByteArray.empty)]):=by
  rcases owns_forms HW9.out.own with ⟨_,e2⟩ | ⟨g,cap,e1,_,_,e4⟩
  ·simp at e2
  ·have e5:ya=some ⟨g,0,none⟩:=by injection e1
   subst e5;exact .inr ⟨g,rfl,e4⟩
 refine bodyPost_ret (v:=dnV ⟨0,W,S,L,T,H,F,R,U+1,O,rs,[(false,q+U,formOf 3 L (F+U) ByteArray.empty W),(true,0,ByteArray.empty)]⟩ a c ya yc) (by simp [results,Tryz.results70,go_sem,dnV,q_bD_0,q_bD_1,q_bD_2,q_bD_3,q_bD_4,q_bD_5,q_bD_6,q_bD_7,q_bD_8,q_bD_9,q_bD_10,q_bD_11]) rfl ⟨ya,yc,rfl,?_,?_,?_⟩
 ·refine OwnS.drew' ?_
  iterate 12 (refine OwnS.set' ?_ _ (fun g hg hne=>by have:=hyc g (by subst hg;exact blk_pos _ _ _ (by omega));show w.heap.size+1≠g;omega) _)
  iterate 1 (refine OwnS.set' ?_ _ (fun g hg hne=>by have:=hyc g (by subst hg;exact blk_pos _ _ _ (by omega));show w.heap.size≠g;omega) _)
  exact hof
 ·exact fun g hg=>by have:=hyc g hg;omega
 ·refine Below.drew ?_
  iterate 12 (refine Below.setCell ?_ (by show w.heap.size<=w.heap.size+1;omega) _)
  iterate 1 (refine Below.setCell ?_ (by show w.heap.size<=w.heap.size;omega) _)
  exact hE
end Go.Proofs.YtcoegjnjjdndjaaGreatDoor
