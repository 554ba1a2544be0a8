import Derived.Test.YthdilmkbnpmdaaaPrG36
import Derived.Laws.ResultCell
set_option maxHeartbeats 16000000
set_option maxRecDepth 8000
set_option linter.unusedVariables false
set_option linter.unusedSimpArgs false
namespace Go.Proofs.Ythdilmkbnpmdaaa
open Go.RowKit
theorem disk_i' (a:Option Addr) (ps:List (List Int)) (n c:Nat) (a':Option Addr) (hs:List (Int×List Int)) (n' c':Nat) (hn:ps.length=n) (hn':hs.length=n') (w:World) (h:Plt w a ps) (h':Hld w a' hs) (hl:n<=200) (hl':n'<=300) (h64:∀ p∈ps,p.length=64) (h64':∀ p∈hs,p.2.length=64) :
  Calls Try.prog 19 #[diskV a n c a' n' c'] w fun e w'=>∃ a1 c1 a1' c1',e=.returned (diskV a1 n c1 a1' n' c1')/\OwnD w' a1 (secs ps) a1' (held hs)/\(∀ g,blk a1 n=some g->w.heap.size<=g)/\(∀ g,blk a1' n'=some g->w.heap.size<=g)/\Below w.heap.size w w':=by
 subst hn hn'
 refine (disk_i a ps c a' hs c' w h h' hl hl' h64 h64').mono ?_
 rintro e w' ⟨v,v',rfl,o1,o2,hap,hb⟩
 have l1:(secs ps).length=ps.length:=by simp [secs]
 have l2:(held hs).length=hs.length:=by simp [held]
 have f1:∃ a1 c1,v=.slice a1 ps.length c1/\OwnS w' a1 ((secs ps).map Value.string)/\(∀ g,blk a1 ps.length=some g->w.heap.size<=g)/\(blk a1 ps.length=none\/blk a1 ps.length=v.ownBlock):=by
  rcases owns_forms o1 with ⟨e,h0⟩ | ⟨g,cap,e,h1,_,hr⟩
  ·refine ⟨none,0,by rw [h0];exact e,.inl ?_,fun g hg=>?_,.inl ?_⟩
   ·rw [List.eq_nil_of_length_eq_zero (l1.trans h0)];rfl
   ·rw [h0] at hg;cases hg
   ·rw [h0];rfl
  ·refine ⟨_,cap,e,.inr ⟨g,rfl,hr⟩,fun g' hg=>?_,?_⟩
   ·unfold blk at hg;split at hg
    ·cases hg
    ·cases hg;exact h1
   ·unfold blk;split
    ·exact .inl rfl
    ·right;rw [e];rfl
 have f2:∃ a1 c1,v'=.slice a1 hs.length c1/\OwnS w' a1 (wcells (held hs))/\(∀ g,blk a1 hs.length=some g->w.heap.size<=g)/\(blk a1 hs.length=none\/blk a1 hs.length=v'.ownBlock):=by
  rcases owns_forms o2 with ⟨e,h0⟩ | ⟨g,cap,e,h1,_,hr⟩
  ·refine ⟨none,0,by rw [h0];exact e,.inl ?_,fun g hg=>?_,.inl ?_⟩
   ·rw [List.eq_nil_of_length_eq_zero (l2.trans h0)];rfl
   ·rw [h0] at hg;cases hg
   ·rw [h0];rfl
  ·refine ⟨_,cap,e,.inr ⟨g,rfl,hr⟩,fun g' hg=>?_,?_⟩
   ·unfold blk at hg;split at hg
    ·cases hg
    ·cases hg;exact h1
   ·unfold blk;split
    ·exact .inl rfl
    ·right;rw [e];rfl
 obtain ⟨a1,c1,e1,g1,g2,g3⟩:=f1
 obtain ⟨a2,c2,e2,k1,k2,k3⟩:=f2
 refine ⟨a1,c1,a2,c2,by rw [e1,e2],⟨g1,k1,?_⟩,g2,k2,hb⟩
 rw [l1,l2]
 rcases g3 with g3 | g3
 ·exact .inl g3
 ·rcases k3 with k3 | k3
  ·exact .inr (.inl k3)
  ·rw [g3,k3];exact hap
def sctOf (ss:List ByteArray) (ws:List (Int×ByteArray)) (n:Int):ByteArray:=if diskOk ss ws=true/\0<=n/\n<(ss.length:Int) then (syncs ws ss).getD n.toNat ByteArray.empty else ByteArray.empty
theorem step_append_copy2 {P:Program} {ops:Array Oper} {o:Oper} {a:Act} {w:World} {K:Act->World->Prop} {Q:Exit->Act->World->Prop} {E:Prop} (B:Nat)
  (hgd:o.guard=none) (s x:Operand) (t:TypeId) (hop:o.op=.call { callee:=.builtin .append,args:=#[s,x],argTypes:=#[t,t] })
  (e:TypeId) (i:TypeInfo) (z:Value) (size bytes:Nat) (ht:P.underlying t=some (.slice e)) (hi:P.info? e=some i) (hz:i.zero=some z) (hsize:i.size=size) (hby:i.bytes=bytes)
  (b:Nat) (hs:a.eval s=.slice (some ⟨b,0,none⟩) 0 0) (v:Value) (hx:a.eval x=v) (n:Nat) (news:List Value) (hsrc:Src P size t v n news w) (hl:news.length=n*size) (hn:n<=1048576) (hbn:n*bytes<=281474976710656) (hB:B<=w.heap.size) (hzs:z.cells.size=size)
  (h:∀ g cap wx,((n=0/\cap=0)\/(g=w.heap.size/\Row wx g news/\wx.ownsRow B e size (.slice (some ⟨g,0,none⟩) n cap) n news/\n≠0))->Below w.heap.size w wx->K (a.put o.dst (.slice (some ⟨g,0,none⟩) n cap)) wx) :
  if Region.wanted o (yielded ops a.tmps)=true then Oper.wp P o a w K Q else E:=by
 have hw:Region.wanted o (yielded ops a.tmps)=true:=by simp [Region.wanted,hgd]
 rw [if_pos hw]
 subst hsize hby
 by_cases h0:n=0
 ·subst h0
  have hnil:news=[]:=List.eq_nil_of_length_eq_zero (by omega)
  subst hnil
  have hrun:=run_append_room_src (P:=P) w t t o.type e i ht hi b 0 0 0 v 0 [] hsrc (by omega) (by simp) (by simp)
  unfold Oper.wp
  simp [execOp,hop,resolve,invoke,builtin,hs,hx,hrun,Result.andThen]
  exact h b 0 _ (.inl ⟨rfl,rfl⟩) (Below.refl _ _)
 ·have hold:(Builtin.firstCells i.size 0 (.slice (some ⟨b,0,none⟩) 0 0)).run P w.drew=.ok ([]:List Value).toArray w.drew:=run_firstCells_some w.drew i.size 0 _ 0 0 [] (by simp) (by simp)
  have hrun:=run_append_grow_src (P:=P) w t t o.type e i z ht hi hz (some ⟨b,0,none⟩) 0 0 [] hold v n news hsrc (by omega) (by omega) (by rw [Nat.zero_add,nsc n (by omega)];exact hbn)
  unfold Oper.wp
  simp [execOp,hop,resolve,invoke,builtin,hs,hx,hrun,Result.andThen]
  refine h w.heap.size _ _ (.inr ⟨rfl,?_,?_,h0⟩) ((Below.refl _ _).drew.alloc (Nat.le_refl _) _)
  ·have hr:=row_new w.drew ((([]:List Value)++news).toArray++Builtin.zeroCells z.cells (grownCap w (0+n) 0 e-(0+n))) e
   refine ⟨by simp,fun j u hu=>?_,fun j hj=>?_⟩
   ·have:=hr.cell j u (by
     obtain ⟨hj,_⟩:=List.getElem?_eq_some_iff.1 hu
     simp [List.getElem?_append_left hj,hu])
    simpa using this
   ·have:=hr.froz j (by simp;omega)
    simpa using this
  ·have hge:=grownCap_ge w n 0 e
   have hle:=grownCap_le_maxLen w n 0 e (by unfold maxLen;omega)
   refine ⟨hl,.inr ⟨w.heap.size,_,_,rfl,hB,heap_alloc_new w.drew _,hge,hle,?_,?_⟩⟩
   ·simp [size_zeroCells,hl,hzs]
    rw [<-Nat.add_mul]
    congr 1
    omega
   ·simp [hl]
set_option maxRecDepth 4000 in
theorem copy_s2 (a:Option Addr) (ss:List ByteArray) (c:Nat) (a':Option Addr) (ws:List (Int×ByteArray)) (c':Nat) (w:World) (h:Strs w a ss) (h':Wrs w a' ws) (hl:ss.length<=200) (hl':ws.length<=300) :
  Calls Try.prog 21 #[diskV a ss.length c a' ws.length c'] w fun e w'=>∃ g c1 g' c1',e=.returned (diskV (some ⟨g,0,none⟩) ss.length c1 (some ⟨g',0,none⟩) ws.length c1')/\OwnD w' (some ⟨g,0,none⟩) ss (some ⟨g',0,none⟩) ws/\(∀ k,blk (some ⟨g,0,none⟩) ss.length=some k->w.heap.size<=k)/\(∀ k,blk (some ⟨g',0,none⟩) ws.length=some k->w.heap.size<=k)/\((ws=[]/\c1'=0)\/w'.ownsRow (w.heap.size+1+1) 46 2 (.slice (some ⟨g',0,none⟩) ws.length c1') ws.length (wcells ws)/\ws.length≠0)/\Below w.heap.size w w':=by
 obtain ⟨i0,hi0,hz0,hz1,hz2⟩:=info_parts' infoStr
 have HI:=hid (And.intro hi0 (And.intro hz0 (And.intro hz1 hz2)))
 clear hi0 hz0 hz1 hz2
 obtain ⟨i1,hi0,hz0,hz1,hz2⟩:=info_parts' infoWr
 have HI1:=hid (And.intro hi0 (And.intro hz0 (And.intro hz1 hz2)))
 clear hi0 hz0 hz1 hz2
 have hb0:∀ o1 o2,Below w.heap.size w ((w.alloc o1).alloc o2):=fun o1 o2=>((Below.refl _ _).alloc (Nat.le_refl _) _).alloc (by simp) _
 go_enter Try.func21,Try.ntmps21
 go_wp2_with fail
 have hxb:=(Cx.new w (.slice a ss.length c) (.slice a' ws.length c') 26).below (below_new _ (.cells #[.slice none 0 0,.slice none 0 0] 26))
 have rR:=row_new' (w.alloc (.cells #[.slice a ss.length c,.slice a' ws.length c'] 26)) #[.slice none 0 0,.slice none 0 0] 26 (w.heap.size+1) (by simp)
 have hB:=hb0 (.cells #[.slice a ss.length c,.slice a' ws.length c'] 26) (.cells #[.slice none 0 0,.slice none 0 0] 26)
 have hsy:((w.alloc (.cells #[.slice a ss.length c,.slice a' ws.length c'] 26)).alloc (.cells #[.slice none 0 0,.slice none 0 0] 26)).heap.size=w.heap.size+1+1:=by simp
 obtain ⟨wy,HWY⟩:∃ wy,wy=(w.alloc (.cells #[.slice a ss.length c,.slice a' ws.length c'] 26)).alloc (.cells #[.slice none 0 0,.slice none 0 0] 26):=⟨_,rfl⟩
 rw [<-HWY] at hxb rR hB hsy ⊢
 clear HWY
 have HX:=hid hxb
 have HR:=hid rR
 have HB:=hid hB
 have HSY:=hid hsy
 clear hxb rR hB hsy
 have hk0:KeepC wy w.heap.size (.slice a ss.length c) (.slice a' ws.length c') wy:=⟨HX.out.c0,HX.out.c1,cval_some (cval_is (HR.out.cell 0 _ rfl)),cval_some (cval_is (HR.out.cell 1 _ rfl)),HR.out.froz 0 (by simp),HR.out.froz 1 (by simp),⟨rfl,rfl,rfl,Nat.le_refl _,fun _ _ _=>rfl⟩,by rw [HSY.out];omega⟩
 have HK:=hid hk0
 clear hk0
 have hbz:∀ wz,KeepC wy w.heap.size (.slice a ss.length c) (.slice a' ws.length c') wz->Below w.heap.size w wz:=fun wz hz=>HB.out.trans (grown_below hz.2.2.2.2.2.2.1 (by rw [HSY.out];omega) (fun g hg=>by injection hg with hg;omega))
 have HBZ:=hid hbz
 clear hbz
 go_region_held3 (fun w'=>w'.cell? ⟨w.heap.size,0,none⟩=some (.slice a ss.length c)/\w'.cell? ⟨w.heap.size,1,none⟩=some (.slice a' ws.length c')/\w'.cell? ⟨w.heap.size+1,0,none⟩=some (cval w' ⟨w.heap.size+1,0,none⟩)/\w'.cell? ⟨w.heap.size+1,1,none⟩=some (cval w' ⟨w.heap.size+1,1,none⟩)/\w'.frozen? ⟨w.heap.size+1,0,none⟩=false/\w'.frozen? ⟨w.heap.size+1,1,none⟩=false/\wy.grownBy w' (some (w.heap.size+1))/\w.heap.size+1<w'.heap.size)
  (first | assumption | exact HK.out.below ((Below.refl _ _).drew) | exact KeepC.below (by assumption) (by assumption) | exact KeepC.below (by assumption) (below_new _ _) | exact KeepC.set (KeepC.set (by assumption) 0 _) 1 _)
  (first | (refine step_append_copy (by rfl) _ _ 23 (by rfl) 9 _ _ 1 16 Try.underlying23 HI.out.1 HI.out.2.1 HI.out.2.2.1 HI.out.2.2.2 _ (by rfl) _ (by rfl) ss.length _ (by exact src_strs (h.below (HBZ.out _ (by assumption))) _ _ (by rfl) _) (by simp) (by omega) (by omega) ?_;intro g1 c1 wx1 hg1 hb1) | (refine step_append_copy2 (w.heap.size+1+1) (by rfl) _ _ 24 (by rfl) 46 _ _ 2 24 Try.underlying24 HI1.out.1 HI1.out.2.1 HI1.out.2.2.1 HI1.out.2.2.2 _ (by rfl) _ (by rfl) ws.length _ (by exact src_wrs (h'.below (HBZ.out _ (by assumption))) _ _ (by rfl) _) (by exact wcells_length ws) (by omega) (by omega) (by refine Nat.succ_le_of_lt (And.right (And.right (And.right (And.right (And.right (And.right (And.right (?_:KeepC wy w.heap.size (.slice a ss.length c) (.slice a' ws.length c') _))))))));assumption) (by rfl) ?_;intro g2 c2 wx2 hgo hb2;have hg2:ws.length=0\/(g2=_/\Row wx2 g2 (wcells ws)):=(hgo.imp (fun h=>h.1) (fun h=>⟨h.1,h.2.1⟩));have ho2:=hgo.imp id (fun h=>h.2.2);clear hgo;have hk2:KeepC wy w.heap.size (.slice a ss.length c) (.slice a' ws.length c') wx2:=KeepC.below (by assumption) hb2))
 all_goals
  rename_i hHe
  have hzz:=hHe
  clear hHe
  have hfb:=HBZ.out _ hzz
  have hend:=by
   first
   | exact cp_end w.heap.size (w.heap.size+1) wx1 wx2 ss ws g1 g2 _ _ (Value.slice (some ⟨g1,0,none⟩) ss.length c1) (Value.slice (some ⟨g2,0,none⟩) ws.length c2) (by simp [HSY.out]<;>omega) (by simp [HSY.out]<;>omega) hg1 hb2 hb1.size (Nat.le_refl _) hg2
   | exact cp_end w.heap.size (w.heap.size+1) wx1 wx2 ss ws g1 g2 _ _ (Value.slice (some ⟨g1,0,none⟩) ss.length c1) (Value.slice (some ⟨g2,0,none⟩) ws.length c2) (by simp [HSY.out]<;>omega) (by simp [HSY.out]<;>omega) hg1 (Go.Proofs.Ythdilmkbnpmdaaa.Below.then (below_new wx1 _) (Nat.le_refl _) hb2) hb1.size (by simp) hg2
  have hend':=hid hend
  have hi0:=cval_is hk2.2.2.1
  have hi1:=cval_is hk2.2.2.2.1
  have HO2:=hid ho2
  clear hend hg1 hb1 hg2 hb2 hk2 hzz ho2
  go_wp2
  exact bodyPost_ret (v:=diskV (some ⟨g1,0,none⟩) ss.length c1 (some ⟨g2,0,none⟩) ws.length c2) (by simp [results,Try.results21,go_sem,hi0,hi1]) rfl ⟨g1,c1,g2,c2,rfl,hend'.out.1,hend'.out.2.1,hend'.out.2.2,HO2.out.imp (fun h=>⟨List.eq_nil_of_length_eq_zero h.1,h.2⟩) (fun h=>⟨ownsRow_setCell_below (ownsRow_setCell_below h.1 (a:=⟨w.heap.size+1,0,none⟩) (by show w.heap.size+1<_;omega) _) (a:=⟨w.heap.size+1,1,none⟩) (by show w.heap.size+1<_;omega) _,by have:=h.2;simpa using this⟩),hfb⟩
theorem infoU8:(Try.prog.info? 5).map (fun i=>(i.zero,i.size,i.bytes))=some (some (.int .u8 0),1,1):=by kernel_rfl
def zeros:ByteArray:=strOfNums (List.replicate 64 0)
theorem zeros_s (w:World):Calls Try.prog 16 #[] w fun e w'=>e=.returned (.string zeros)/\Below w.heap.size w w':=by
 go_enter Try.func16,Try.ntmps16
 go_wp2_with (at_make;refine wpList_make_new rfl _ _ 22 rfl 5 _ 1 1 Try.underlying22 infoU8 64 rfl rfl (by omega) (by omega) ?_;intro wx hrow hbx hsx;rw [made_one _ rfl] at hrow;have hcv:=run_convert_bytes_arg (P:=Try.prog) wx 22 5 Try.underlying22 Try.underlying5 w.heap.size 0 64 64 (List.replicate 64 0) rfl (fun i hi=>by rw [Nat.zero_add];have h1:=hrow.cell i (.int .u8 0) (by rw [List.getElem?_replicate,if_pos hi]);rw [h1,List.getD_eq_getElem?_getD,List.getElem?_replicate,if_pos hi];rfl) 9 Try.underlying9;clear hrow)
 go_ret
 exact ⟨rfl,hbx⟩
theorem new_s (n:Nat) (w:World) (h1:8<=n) (h2:n<=200) :
  Calls Try.prog 49 #[.int .i64 (n:Int)] w fun e w'=>∃ g c,e=.returned (diskV (some ⟨g,0,none⟩) n c none 0 0)/\w.heap.size<=g/\Row w' g ((List.replicate n zeros).map Value.string)/\Below w.heap.size w w':=by
 have h1':(8:Int)<=(n:Int):=by omega
 have h2':(n:Int)<=200:=by omega
 obtain ⟨i0,hi0,hz0,hz1,hz2⟩:=info_parts' infoStr
 have HI:=hid (And.intro hi0 (And.intro hz0 (And.intro hz1 hz2)))
 clear hi0 hz0 hz1 hz2
 go_enter Try.func49,Try.ntmps49
 go_wp2
 go_loopw [4] (fun i wr=>∃ (k:Nat) (v:Value),k<=n/\i=.int .i64 k/\Dsk w wr w.heap.size (w.heap.size+1) (w.heap.size+1+1) 9 46 v (.slice none 0 0) (List.replicate k zeros) []) (fun i _=>n-(intOf i).toNat)
 case atStart=>exact ⟨0,_,Nat.zero_le _,rfl,Dsk.start _ _ _ _ _⟩
 case round =>
  obtain ⟨k,v,hk,rfl,hd⟩:=hrel
  by_cases hlt:k<n
  ·have HD:=hid hd
   have q0:=hd.d0
   have q1:=hd.fd0
   clear hd
   go_wp2_with fail
   go_region_law (first | (refine step_append_lies _ (by rfl) _ _ _ (by rfl) (w.heap.size+1+1) 9 i0 (.string ByteArray.empty) 1 16 Try.underlying23 HI.out.1 HI.out.2.1 HI.out.2.2.1 HI.out.2.2.2 rfl (by omega) v (List.replicate k zeros).length ((List.replicate k zeros).map Value.string) (by rfl) HO.out ⟨w2.heap.size,0,none⟩ 1 1 [.string zeros] (by rfl) rfl (World.news_of_block (heap_alloc_new w2 _)) (by intro u hu;simp at hu;subst hu;rfl) (by omega) (by rw [List.length_replicate];unfold maxLen;omega) (by rw [List.length_replicate];omega) (by simp<;>omega) (w2.heap.size+1) (by simp) ?_;intro g cap w3 hown hgrow hat hlt3;obtain ⟨q4,q5⟩:=HDA.out.grown hgrow;have HOW:=hid hown;have HGR:=hid hgrow;have HAT:=hid hat;clear hown hgrow hat) | (refine step_call (by rfl) 16 #[] (by go_simp) (zeros_s _) ?_;rintro e w2 ⟨rfl,hb2⟩;refine ⟨_,rfl,?_⟩;have q2:=(HD.out.drew.below hb2).d0;have q3:=(HD.out.drew.below hb2).fd0;have hsz2:=(HD.out.drew.below hb2).sz;have hsz3:w.heap.size+1<w2.heap.size:=(by omega);have HO:=hid ((HD.out.drew.below hb2).own.alloc (.cells #[.string zeros] 9));have HDA:=hid ((HD.out.drew.below hb2).alloc (.cells #[.string zeros] 9))))
   all_goals
    have hpush:=HDA.out.push HOW.out HGR.out HAT.out (by simp)
    rw [List.length_replicate,show List.replicate k zeros++[zeros]=List.replicate (k+1) zeros by rw [List.replicate_succ']] at hpush
    have HP:=hid hpush
    clear hpush
    go_wp2
    go_roundw
    case rel=>exact ⟨k+1,_,by omega,by go_num,HP.out⟩
    case measure=>simp [intOf];omega
  ·have hkn:k=n:=by omega
   subst hkn
   have hof:=owns_forms hd.own
   rw [List.length_replicate] at hof
   obtain ⟨g,cap,rfl,hg1,hg2,hrow⟩:∃ g cap,v=.slice (some ⟨g,0,none⟩) k cap/\w.heap.size+1+1<=g/\g<wr.heap.size/\Row wr g ((List.replicate k zeros).map Value.string):=by
    rcases hof with h0 | h0
    ·omega
    ·exact h0
   clear hof
   have HD:=hid hd.bel
   have HR:=hid hrow
   clear hrow
   have q0:=hd.d0
   have q1:=hd.d1
   have q2:=hd.r0
   have q3:=hd.r1
   have q4:=hd.fr0
   have q5:=hd.fr1
   clear hd
   go_wp2
   refine bodyPost_ret (v:=diskV (some ⟨g,0,none⟩) k cap none 0 0) (by simp [results,Try.results49,go_sem,q2,q3]) rfl ⟨g,cap,rfl,by omega,?_,?_⟩
   ·exact (HR.out.other _ (by show w.heap.size≠g;omega) _).other _ (by show w.heap.size≠g;omega) _
   ·exact (HD.out.setCell (Nat.le_refl _) _).setCell (Nat.le_refl _) _
end Go.Proofs.Ythdilmkbnpmdaaa
namespace Go.Proofs.Ythdilmkbnpmdaaa
abbrev nops (m:Nat):List Value:=List.replicate m (.slice none 0 0)
end Go.Proofs.Ythdilmkbnpmdaaa
namespace Go.Proofs.Ythdilmkbnpmdaaa.nw
open Go.RowKit
theorem new_s_no (n:Int) (w:World) (h:¬ (8<=n/\n<=200)) :
  Calls Try.prog 49 #[.int .i64 n] w fun e w'=>e=.returned (diskV none 0 0 none 0 0)/\Below w.heap.size w w':=by
 by_cases h8:8<=n
 ·have h2:200<n:=by omega
  go_enter Try.func49,Try.ntmps49
  go_wp2
  exact bodyPost_ret (v:=diskV none 0 0 none 0 0) (by simp [results,Try.results49,go_sem]) rfl ⟨rfl,below_new _ _⟩
 ·go_enter Try.func49,Try.ntmps49
  go_wp2
  exact bodyPost_ret (v:=diskV none 0 0 none 0 0) (by simp [results,Try.results49,go_sem]) rfl ⟨rfl,below_new _ _⟩
def newSS (n:Int):List ByteArray:=if 8<=n/\n<=200 then List.replicate n.toNat zeros else []
theorem new_s_any (n:Int) (w:World) :
  Calls Try.prog 49 #[.int .i64 n] w fun e w'=>∃ a c a' c',e=.returned (diskV a (newSS n).length c a' 0 c')/\OwnS w' a ((newSS n).map Value.string)/\(∀ g,blk a (newSS n).length=some g->w.heap.size<=g)/\Below w.heap.size w w':=by
 by_cases h:8<=n/\n<=200
 ·obtain ⟨m,rfl⟩:∃ m:Nat,n=(m:Int):=⟨n.toNat,by omega⟩
  have e1:newSS (m:Int)=List.replicate m zeros:=by simp [newSS,h]
  rw [e1]
  refine (new_s m w (by omega) (by omega)).mono ?_
  rintro e w' ⟨g,c,rfl,hg,hr,hb⟩
  exact ⟨_,c,none,0,by rw [List.length_replicate],.inr ⟨g,rfl,hr⟩,fun g' hg'=>by rw [List.length_replicate,blk_pos g 0 m (by omega)] at hg';cases hg';exact hg,hb⟩
 ·have e1:newSS n=[]:=by simp [newSS,h]
  rw [e1]
  refine (new_s_no n w h).mono ?_
  rintro e w' ⟨rfl,hb⟩
  exact ⟨none,0,none,0,rfl,.inl rfl,(fun g' hg'=>by cases hg'),hb⟩
def worldV (wd:Int) (a:Option Addr) (n c:Nat) (a':Option Addr) (c':Nat) (p:Option Addr) (m cp:Nat):Value:=.agg #[.int .i64 wd,.slice a n c,.slice a' 0 c',.bool false,.int .i64 0,.int .i64 0,.int .i64 0,.int .i64 0,.int .i64 0,.int .i64 0,.int .i64 0,.int .i64 0,.int .i64 0,.slice none 0 0,.slice p m cp,.slice none 0 0]
def NwPost (w w':World) (e:Ending) (wd:Int) (ss:List ByteArray) (m:Nat):Prop:=∃ a c a' c' p cp,e=.returned (worldV wd a ss.length c a' c' p m cp)/\OwnS w' a (ss.map Value.string)/\OwnS w' p (nops m)/\(∀ g,blk a ss.length=some g->w.heap.size<=g/\∀ k,blk p m=some k->g≠k)/\(∀ g,blk p m=some g->w.heap.size<=g)/\Below w.heap.size w w'
theorem OwnS.setw {w:World} {a:Option Addr} {cs:List Value} (h:OwnS w a cs) (p:Addr) (hp:∀ g,a=some ⟨g,0,none⟩->cs≠[]->p.block≠g) (v:Value):OwnS (w.setCell p v) a cs:=by
 by_cases h0:cs=[]
 ·exact .inl h0
 ·obtain ⟨g,rfl,hr⟩:=h.resolve_left h0
  exact .inr ⟨g,rfl,hr.other p (hp g rfl h0) v⟩
theorem row_atw {w:World} {A:Array Value} {t:TypeId} {g:Nat} (hg:w.heap.size=g):Row (w.alloc (.cells A t)) g A.toList:=by subst hg;exact row_new w A t
theorem nw_s_yes (n wd:Int) (w:World) (hn:8<=n/\n<=200) (h1:1<=wd/\wd<=8) :
  Calls Try.prog 41 #[.int .i64 n,.int .i64 wd] w fun e w'=>NwPost w w' e wd (newSS n) 1:=by
 have hwd:decide (1<=wd/\wd<=8)=true:=decide_eq_true h1
 have hd:decide (8<=n/\n<=200)=true:=decide_eq_true hn
 obtain ⟨m,hss⟩:∃ m:Nat,(newSS n).length=m:=⟨_,rfl⟩
 have hm:m≠0:=by rw [<-hss];unfold newSS;rw [if_pos hn];simp;omega
 have hm':¬ (m:Int)=0:=by omega
 have HSS:=hid hss
 go_enter Try.func41,Try.ntmps41
 go_wp2_with (first | (go_at_call 49;refine (new_s_any n _).mono ?_;rintro e w1 ⟨a,c,a',c',rfl,ho1,hg1,hb1⟩;rw [hss] at hg1 ⊢;have HO1:=hid ho1;have HG1:=hid hg1;have HB1:=hid (((Below.refl w.heap.size w).alloc (Nat.le_refl _) _).trans (hb1.mono (by simp)));have hl1:w.heap.size<w1.heap.size:=Nat.lt_of_lt_of_le (by simp) hb1.size;have w1r0:w1.cell? ⟨w.heap.size,0,none⟩=some (.int .i64 0):=(hb1.cell (p:=⟨w.heap.size,0,none⟩) (by simp<;>omega)).trans (by go_simp);have w1rf0:w1.frozen? ⟨w.heap.size,0,none⟩=false:=(hb1.frozen (p:=⟨w.heap.size,0,none⟩) (by simp<;>omega)).trans (by go_simp);have w1r1:w1.cell? ⟨w.heap.size,1,none⟩=some (.slice none 0 0):=(hb1.cell (p:=⟨w.heap.size,1,none⟩) (by simp<;>omega)).trans (by go_simp);have w1rf1:w1.frozen? ⟨w.heap.size,1,none⟩=false:=(hb1.frozen (p:=⟨w.heap.size,1,none⟩) (by simp<;>omega)).trans (by go_simp);have w1r2:w1.cell? ⟨w.heap.size,2,none⟩=some (.slice none 0 0):=(hb1.cell (p:=⟨w.heap.size,2,none⟩) (by simp<;>omega)).trans (by go_simp);have w1rf2:w1.frozen? ⟨w.heap.size,2,none⟩=false:=(hb1.frozen (p:=⟨w.heap.size,2,none⟩) (by simp<;>omega)).trans (by go_simp);have w1r3:w1.cell? ⟨w.heap.size,3,none⟩=some (.bool false):=(hb1.cell (p:=⟨w.heap.size,3,none⟩) (by simp<;>omega)).trans (by go_simp);have w1rf3:w1.frozen? ⟨w.heap.size,3,none⟩=false:=(hb1.frozen (p:=⟨w.heap.size,3,none⟩) (by simp<;>omega)).trans (by go_simp);have w1r4:w1.cell? ⟨w.heap.size,4,none⟩=some (.int .i64 0):=(hb1.cell (p:=⟨w.heap.size,4,none⟩) (by simp<;>omega)).trans (by go_simp);have w1rf4:w1.frozen? ⟨w.heap.size,4,none⟩=false:=(hb1.frozen (p:=⟨w.heap.size,4,none⟩) (by simp<;>omega)).trans (by go_simp);have w1r5:w1.cell? ⟨w.heap.size,5,none⟩=some (.int .i64 0):=(hb1.cell (p:=⟨w.heap.size,5,none⟩) (by simp<;>omega)).trans (by go_simp);have w1rf5:w1.frozen? ⟨w.heap.size,5,none⟩=false:=(hb1.frozen (p:=⟨w.heap.size,5,none⟩) (by simp<;>omega)).trans (by go_simp);have w1r6:w1.cell? ⟨w.heap.size,6,none⟩=some (.int .i64 0):=(hb1.cell (p:=⟨w.heap.size,6,none⟩) (by simp<;>omega)).trans (by go_simp);have w1rf6:w1.frozen? ⟨w.heap.size,6,none⟩=false:=(hb1.frozen (p:=⟨w.heap.size,6,none⟩) (by simp<;>omega)).trans (by go_simp);have w1r7:w1.cell? ⟨w.heap.size,7,none⟩=some (.int .i64 0):=(hb1.cell (p:=⟨w.heap.size,7,none⟩) (by simp<;>omega)).trans (by go_simp);have w1rf7:w1.frozen? ⟨w.heap.size,7,none⟩=false:=(hb1.frozen (p:=⟨w.heap.size,7,none⟩) (by simp<;>omega)).trans (by go_simp);have w1r8:w1.cell? ⟨w.heap.size,8,none⟩=some (.int .i64 0):=(hb1.cell (p:=⟨w.heap.size,8,none⟩) (by simp<;>omega)).trans (by go_simp);have w1rf8:w1.frozen? ⟨w.heap.size,8,none⟩=false:=(hb1.frozen (p:=⟨w.heap.size,8,none⟩) (by simp<;>omega)).trans (by go_simp);have w1r9:w1.cell? ⟨w.heap.size,9,none⟩=some (.int .i64 0):=(hb1.cell (p:=⟨w.heap.size,9,none⟩) (by simp<;>omega)).trans (by go_simp);have w1rf9:w1.frozen? ⟨w.heap.size,9,none⟩=false:=(hb1.frozen (p:=⟨w.heap.size,9,none⟩) (by simp<;>omega)).trans (by go_simp);have w1r10:w1.cell? ⟨w.heap.size,10,none⟩=some (.int .i64 0):=(hb1.cell (p:=⟨w.heap.size,10,none⟩) (by simp<;>omega)).trans (by go_simp);have w1rf10:w1.frozen? ⟨w.heap.size,10,none⟩=false:=(hb1.frozen (p:=⟨w.heap.size,10,none⟩) (by simp<;>omega)).trans (by go_simp);have w1r11:w1.cell? ⟨w.heap.size,11,none⟩=some (.int .i64 0):=(hb1.cell (p:=⟨w.heap.size,11,none⟩) (by simp<;>omega)).trans (by go_simp);have w1rf11:w1.frozen? ⟨w.heap.size,11,none⟩=false:=(hb1.frozen (p:=⟨w.heap.size,11,none⟩) (by simp<;>omega)).trans (by go_simp);have w1r12:w1.cell? ⟨w.heap.size,12,none⟩=some (.int .i64 0):=(hb1.cell (p:=⟨w.heap.size,12,none⟩) (by simp<;>omega)).trans (by go_simp);have w1rf12:w1.frozen? ⟨w.heap.size,12,none⟩=false:=(hb1.frozen (p:=⟨w.heap.size,12,none⟩) (by simp<;>omega)).trans (by go_simp);have w1r13:w1.cell? ⟨w.heap.size,13,none⟩=some (.slice none 0 0):=(hb1.cell (p:=⟨w.heap.size,13,none⟩) (by simp<;>omega)).trans (by go_simp);have w1rf13:w1.frozen? ⟨w.heap.size,13,none⟩=false:=(hb1.frozen (p:=⟨w.heap.size,13,none⟩) (by simp<;>omega)).trans (by go_simp);have w1r14:w1.cell? ⟨w.heap.size,14,none⟩=some (.slice none 0 0):=(hb1.cell (p:=⟨w.heap.size,14,none⟩) (by simp<;>omega)).trans (by go_simp);have w1rf14:w1.frozen? ⟨w.heap.size,14,none⟩=false:=(hb1.frozen (p:=⟨w.heap.size,14,none⟩) (by simp<;>omega)).trans (by go_simp);have w1r15:w1.cell? ⟨w.heap.size,15,none⟩=some (.slice none 0 0):=(hb1.cell (p:=⟨w.heap.size,15,none⟩) (by simp<;>omega)).trans (by go_simp);have w1rf15:w1.frozen? ⟨w.heap.size,15,none⟩=false:=(hb1.frozen (p:=⟨w.heap.size,15,none⟩) (by simp<;>omega)).trans (by go_simp);clear hb1 ho1 hg1) | (go_at_call 50;refine (width_s _ _).mono ?_;rw [hwd];rintro e wz ⟨rfl,hwz⟩;rw [hwz];clear hwz wz))
 have hol:=HO1.out.lt m (fun h0=>strs_ne (by rw [HSS.out];exact h0))
 have hgn:∀ g,a=some ⟨g,0,none⟩->(newSS n).map Value.string≠[]->w.heap.size<g:=fun g hg hne=>by
  have:=HG1.out g (by subst hg;exact blk_pos _ _ _ hm)
  simp at this;omega
 refine bodyPost_ret (v:=worldV wd a m c a' c' (some ⟨w1.heap.size+1,0,none⟩) 1 1) (by simp [results,Try.results41,go_sem,worldV,hl1,w1r0,w1r1,w1r2,w1r3,w1r4,w1r5,w1r6,w1r7,w1r8,w1r9,w1r10,w1r11,w1r12,w1r13,w1r14,w1r15]) rfl ⟨a,c,a',c',_,1,by rw [HSS.out],?_,?_,?_,?_,?_⟩
 ·refine OwnS.below ?_ ((Below.refl _ _).alloc (Nat.le_refl _) _);refine OwnS.below ?_ ((Below.refl _ _).alloc (Nat.le_refl _) _)
  iterate 16 (refine OwnS.setw ?_ _ (fun g hg hne=>by have:=hgn g hg hne;show w.heap.size≠g;omega) _)
  exact HO1.out
 ·exact .inr ⟨w1.heap.size+1,rfl,row_atw (by simp)⟩
 ·intro g hg
  rw [HSS.out] at hg
  have e1:=HG1.out g hg
  have e2:=hol g hg
  simp at e1
  exact ⟨by omega,fun k hk=>by rw [blk_pos _ _ _ (by omega)] at hk;cases hk;omega⟩
 ·intro g hg
  rw [blk_pos _ _ _ (by omega)] at hg;cases hg;omega
 ·refine Below.alloc ?_ (by simp;omega) _;refine Below.alloc ?_ (by simp;omega) _
  iterate 16 (refine Below.setCell ?_ (by show w.heap.size<=w.heap.size;omega) _)
  exact HB1.out
end Go.Proofs.Ythdilmkbnpmdaaa.nw
namespace Go.Proofs.Ythdilmkbnpmdaaa
open Go.RowKit
theorem results_cell1_tmp {P:Program} {fn:Func} {p u:Tmp} {ty:TypeId} (h:fn.results=#[.cell p ty,.tmp u]) (tmps:Array Value) (w:World) (b o:Nat) (hp:tmps.getD p undef=.pointer (some ⟨b,o,none⟩))
  (cs:List Value) (d:TypeDesc) (hc:w.rangeAt b o cs) (hu:P.underlying ty=some d) (hd:d.isRow=true) (hi:(P.info? ty).map (·.size)=some cs.length):(results fn tmps).run P w=.ok (.tuple #[.agg cs.toArray,tmps.getD u undef]) w:=by
 have hl:=run_loadVar_mid (P:=P) w b o ty cs d hc hu hd hi
 rw [results_cell_tmp h]
 simp [hp,asAddr,hl,Result.andThen]
set_option maxRecDepth 100000 in
theorem rd_plate (g n c m:Nat) (ps:List (List Int)) (w:World) (hp:PR w g ps) (hl:ps.length=n) (hn2:n<=200) (hm:m<n) :
  Calls Try.prog 101 #[.slice (some ⟨g,0,none⟩) n c,.int .i64 (m:Int)] w fun e w'=>e=.returned (.tuple #[.agg ((ps.getD m []).map (Value.int .u8)).toArray,.bool true])/\Below w.heap.size w w':=by
 have hrg:∀ o,(w.alloc o).rangeAt g (m*64) ((ps.getD m []).map (Value.int .u8)):=fun o=>(hp.below (below_new w o)).range (k:=m) (by omega)
 have hxl:=getD_len hp.len (k:=m) (by omega)
 obtain ⟨x,HX⟩:∃ x,Hid (x=ps.getD m []):=⟨_,hid rfl⟩
 rw [<-HX.out] at hrg hxl ⊢
 have hxm:(x.map (Value.int .u8)).toArray.size=64:=by simp [hxl]
 have HI64:Hid ((Try.prog.info? 61).map (·.size)=some (x.map (Value.int .u8)).length):=by show _=_;rw [List.length_map,hxl];kernel_rfl
 have HRG:=hid hrg
 have hm0:¬ ((m:Int)<0):=by omega
 have hm1:¬ (n<=m):=by omega
 clear hrg
 go_enter Try.func101,Try.ntmps101
 go_wp2_with (first | (with_reducible refine at_load 61 _ rfl ?_;refine wpList_load_mid rfl 61 _ rfl g (m*64) rfl (x.map (Value.int .u8)) _ (by exact HRG.out _) Try.underlying61 rfl HI64.out ?_) | (with_reducible refine at_store 61 _ _ rfl ?_;refine wpList_store_mid rfl 61 _ _ rfl w.heap.size 0 (x.map (Value.int .u8)).toArray rfl rfl (by rw [hxm];exact (row_new w _ _).there (by kernel_rfl)) (by rw [hxm];kernel_rfl) (all_oneCell_toArray (ints_one x)) ?_))
 refine bodyPost_ret (v:=.tuple #[.agg (x.map (Value.int .u8)).toArray,.bool true]) (results_cell1_tmp (p:=4) (u:=5) Try.results101 _ _ w.heap.size 0 rfl (x.map (Value.int .u8)) _ (World.rangeAt_setCells_same _ _ _ _ (by rw [List.length_map,hxl];exact (row_new w _ _).there (by kernel_rfl))) Try.underlying61 rfl HI64.out) rfl ⟨rfl,?_⟩
 exact Go.below_setCells (Nat.le_refl _) _ _ _ (below_new _ _)
set_option maxRecDepth 100000 in
theorem rdr (a a':Option Addr) (n c n' c':Nat) (w:World) :
  Calls Try.prog 28 #[.agg #[.slice a n c,.slice a' n' c']] w fun e w'=>e=.returned (.iface 90 (.agg #[.slice a' n' c',.iface 48 (.slice a n c)]))/\Below w.heap.size w w':=by
 go_enter Try.func28,Try.ntmps28
 go_wp2
 go_ret
 exact ⟨rfl,below_new _ _⟩
def z64:List Int:=List.replicate 64 0
theorem z64_length:z64.length=64:=by simp [z64]
set_option maxRecDepth 100000 in
theorem rd_plate_no (g n c:Nat) (m:Int) (w:World) (hn2:n<=200) (hm:¬ (0<=m/\m<(n:Int))) :
  Calls Try.prog 101 #[.slice (some ⟨g,0,none⟩) n c,.int .i64 m] w fun e w'=>e=.returned (.tuple #[.agg (z64.map (Value.int .u8)).toArray,.bool false])/\Below w.heap.size w w':=by
 by_cases h0:m<0
 ·go_enter Try.func101,Try.ntmps101
  go_wp2_with (with_reducible refine at_store 61 _ _ rfl ?_;refine wpList_store_mid rfl 61 _ _ rfl w.heap.size 0 _ rfl rfl (by exact (row_new w _ _).there (by kernel_rfl)) (by kernel_rfl) (by kernel_rfl) ?_)
  refine bodyPost_ret (results_cell1_tmp (p:=4) (u:=5) Try.results101 _ _ w.heap.size 0 rfl _ _ (World.rangeAt_setCells_same _ _ _ _ (by exact (row_new w _ _).there (by kernel_rfl))) Try.underlying61 rfl (by kernel_rfl)) rfl ⟨by kernel_rfl,?_⟩
  exact Go.below_setCells (Nat.le_refl _) _ _ _ (below_new _ _)
 ·have h1:(n:Int)<=m:=by omega
  go_enter Try.func101,Try.ntmps101
  go_wp2_with (with_reducible refine at_store 61 _ _ rfl ?_;refine wpList_store_mid rfl 61 _ _ rfl w.heap.size 0 _ rfl rfl (by exact (row_new w _ _).there (by kernel_rfl)) (by kernel_rfl) (by kernel_rfl) ?_)
  refine bodyPost_ret (results_cell1_tmp (p:=4) (u:=5) Try.results101 _ _ w.heap.size 0 rfl _ _ (World.rangeAt_setCells_same _ _ _ _ (by exact (row_new w _ _).there (by kernel_rfl))) Try.underlying61 rfl (by kernel_rfl)) rfl ⟨by kernel_rfl,?_⟩
  exact Go.below_setCells (Nat.le_refl _) _ _ _ (below_new _ _)
end Go.Proofs.Ythdilmkbnpmdaaa
