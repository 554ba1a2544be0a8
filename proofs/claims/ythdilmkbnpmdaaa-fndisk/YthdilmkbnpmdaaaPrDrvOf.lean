import Derived.Test.YthdilmkbnpmdaaaPrG36
set_option maxHeartbeats 16000000
namespace Go.Proofs.Ythdilmkbnpmdaaa
open Go.RowKit
set_option linter.unusedVariables false
theorem infoHeld:(Try.prog.info? 63).map (fun i=>(i.zero,i.size,i.bytes))=some (some (.agg heldZ),65,72):=by kernel_rfl
def pup (ss:List ByteArray) (k:Nat):List (List Int):=(ss.take k).map nums++List.replicate (ss.length-k) (List.replicate 64 0)
theorem pup_length (ss:List ByteArray) (k:Nat) (h:k<=ss.length):(pup ss k).length=ss.length:=by simp [pup];omega
theorem pup_all (ss:List ByteArray) (k:Nat) (h:ss.length<=k):pup ss k=ss.map nums:=by unfold pup;rw [List.take_of_length_le h,show ss.length-k=0 by omega];simp
theorem pup_set (ss:List ByteArray) (k:Nat) (h:k<ss.length):(pup ss k).set k (nums (ss.getD k ByteArray.empty))=pup ss (k+1):=by
 unfold pup
 rw [List.set_append_right _ _ (by simp;omega)]
 have e1:k-((ss.take k).map nums).length=0:=by simp;omega
 rw [e1,show ss.length-k=(ss.length-(k+1))+1 by omega,List.replicate_succ,List.set_cons_zero,List.take_succ_eq_append_getElem h,List.map_append,List.append_assoc]
 simp [List.getD,h]
def hsOf (ws:List (Int×ByteArray)):List (Int×List Int):=ws.map fun x=>(x.1,nums x.2)
theorem hsOf_length (ws:List (Int×ByteArray)):(hsOf ws).length=ws.length:=by simp [hsOf]
theorem hsOf_take (ws:List (Int×ByteArray)) (k:Nat) (h:k<ws.length):hsOf (ws.take (k+1))=hsOf (ws.take k)++[((ws.getD k (0,ByteArray.empty)).1,nums (ws.getD k (0,ByteArray.empty)).2)]:=by
 unfold hsOf
 rw [List.take_succ_eq_append_getElem h,List.map_append]
 simp [List.getD,h]
set_option maxRecDepth 100000 in
theorem drv_i (a:Option Addr) (ss:List ByteArray) (c:Nat) (a':Option Addr) (ws:List (Int×ByteArray)) (c':Nat) (w:World) (h:Strs w a ss) (h':Wrs w a' ws) (hl:ss.length<=200) (hl':ws.length<=300) (h64:∀ s∈ss,s.size=64) (h64':∀ x∈ws,x.2.size=64) :
  Calls Try.prog 17 #[diskV a ss.length c a' ws.length c'] w fun e w'=>∃ g v,e=.returned (.agg #[.slice (some ⟨g,0,none⟩) ss.length ss.length,v])/\PR w' g (ss.map nums)/\w'.ownsRow (g+1) 63 65 v ws.length (hcells (hsOf ws))/\w.heap.size<=g/\Below w.heap.size w w':=by
 obtain ⟨i0,hi0,hz0,hz1,hz2⟩:=info_parts' infoHeld
 have HI:=hid (And.intro hi0 (And.intro hz0 (And.intro hz1 hz2)))
 clear hi0 hz0 hz1 hz2
 go_enter Try.func17,Try.ntmps17
 go_wp2_with (at_make;refine wpList_make_new rfl _ _ 48 rfl 61 _ 64 64 Try.underlying48 infoSec ss.length rfl rfl (by omega) (by omega) ?_;intro wx hrow hbx hsx;rw [made_secs] at hrow;have hst:=Drs.start w wx ss.length _ _ _ _ 51 63 hbx (by simpa using hsx) (by simpa using hrow);have b0:wx.cell? ⟨w.heap.size,0,none⟩=some (.slice a ss.length c):=((hbx.cell (p:=⟨w.heap.size,0,none⟩) (by simp;omega)).trans (by go_simp));have hszx:wx.heap.size=w.heap.size+1+1+1:=(by simpa using hsx);have hltx:w.heap.size<wx.heap.size:=(by omega);have HST:=hid hst;clear hst hbx hsx hrow)
 have HX0:Hid (List.replicate ss.length (List.replicate 64 0)=pup ss 0):=by show _=_;simp [pup]
 rw [HX0.out] at HST
 go_loopw [4,5,16] (fun _ _ i wr=>∃ k:Nat,k<=ss.length/\i=.int .i64 k/\Drs w wr ss.length (.slice a' ws.length c') 63 (.slice none 0 0) (pup ss k) []) (fun _ _ i _=>ss.length-(intOf i).toNat)
 case atStart=>exact ⟨0,Nat.zero_le _,rfl,HST.out⟩
 case round =>
  clear HST hszx hltx b0 HX0
  obtain ⟨k,hk,rfl,hd⟩:=hrel
  by_cases hlt:k<ss.length
  ·obtain ⟨b,o,s,rfl,hc,HS⟩:=(h.below hd.bel).at hlt
   have hs64:s.size=64:=by rw [HS.out];exact h64 _ (by simp [List.getD,hlt])
   have hxm:((nums s).map (Value.int .u8)).length=64:=by rw [List.length_map,nums_length,hs64]
   have HL:=hid (pup_length ss k hk)
   have HI64:(Try.prog.info? 61).map (·.size)=some ((nums s).map (Value.int .u8)).length:=by rw [hxm];kernel_rfl
   have hone:=ints_one (nums s)
   have hu:=Try.underlying61
   have hk0:(0:Int)<=(k:Int):=by omega
   have hk1:(k:Int)<(ss.length:Int):=by omega
   have HT:=hid (hd.pr.there (k:=k) (by rw [HL.out];exact hlt))
   have HD:=hid hd
   have HS64:=hid hs64
   clear hd hs64
   go_wp2_with fail
   clear hc
   go_region_held3 (fun w'=>w'.cell? ⟨w.heap.size+1+1+1,0,none⟩=some (.slice (some ⟨w.heap.size+1+1,0,none⟩) ss.length ss.length)/\w'.there (w.heap.size+1+1) (k*64) 64)
    (first | assumption | exact ⟨HD.out.d0,HT.out⟩ | exact ⟨(HD.out.drew.below hb2).d0,(HD.out.drew.below hb2).pr.there (by rw [HL.out];exact hlt)⟩ | exact ⟨(World.cell?_setCells_out _ _ _ _ _ (fun e=>by simp at e)).trans (HD.out.drew.below hb2).d0,World.there_setCells ((HD.out.drew.below hb2).pr.there (by rw [HL.out];exact hlt)) _ _ _⟩)
    (first | (go_at_call 33;refine (sec_i s _ HS64.out).mono ?_;rintro e w2 ⟨rfl,hb2⟩))
   have hfill:=(HD.out.drew.below hb2).fill rfl k (by rw [HL.out];exact hlt) (nums s) (by rw [nums_length,HS64.out])
   rw [show (pup ss k).set k (nums s)=pup ss (k+1) by rw [HS.out];exact pup_set ss k hlt] at hfill
   have HF:=hid hfill
   clear hfill hb2
   go_wp2
   go_roundw
   case rel=>exact ⟨k+1,by omega,by go_num,HF.out⟩
   case measure=>simp [intOf];omega
  ·have hall:=pup_all ss k (by omega)
   rw [hall] at hd
   have q1:=hd.b1
   have HD0:=hid hd
   clear hd hall
   go_wp2
   go_loopw [7,31] (fun _ i wr=>∃ (k:Nat) (v:Value),k<=ws.length/\i=.int .i64 k/\Drs w wr ss.length (.slice a' ws.length c') 63 v (ss.map nums) (hsOf (ws.take k))) (fun _ i _=>ws.length-(intOf i).toNat)
   case atStart=>exact ⟨0,_,Nat.zero_le _,rfl,HD0.out⟩
   case round =>
    clear HD0 q1
    obtain ⟨k2,v,hk2,rfl,hd⟩:=hrel
    by_cases hlt2:k2<ws.length
    ·obtain ⟨b,o,m,s,rfl,hc,hc2,HS⟩:=(h'.below hd.bel).at hlt2
     have hs64:s.size=64:=h64' (m,s) (by rw [HS.out];simp [List.getD,hlt2])
     have hnl:(nums s).length=64:=by rw [nums_length,hs64]
     have hhl:(hsOf (ws.take k2)).length=k2:=by rw [hsOf_length];simp;omega
     have HL:=hid hhl
     have HS64:=hid hs64
     have hzh:=zeroHeld
     have hz65:=heldZ_size
     have hzne:=heldZ_ne
     have hfold:=fold_two' (.int .i64 m) ((nums s).map (Value.int .u8)) heldZ (by rw [heldZ_size,List.length_map,hnl])
     have hfold2:=fold_tail (.int .i64 m) ((nums s).map (Value.int .u8)) 65 (by rw [List.length_map,hnl])
     have HD:=hid (hd.alloc (.cells #[.int .i64 m,.string s] 46))
     have hszr:=hd.sz
     have hlr:w.heap.size+1+1+1<wr.heap.size:=by omega
     have q1:=hd.d1
     have q2:=hd.fd1
     clear hd hs64 hhl
     go_wp2_with fail
     clear hc hc2
     have hx0:(wr.alloc (.cells #[.int .i64 m,.string s] 46)).cell? ⟨wr.heap.size,0,none⟩=some (.int .i64 m):=by rw [World.cell?_alloc_at _ _ _ _ rfl];rfl
     have hx1:(wr.alloc (.cells #[.int .i64 m,.string s] 46)).cell? ⟨wr.heap.size,1,none⟩=some (.string s):=by rw [World.cell?_alloc_at _ _ _ _ rfl];rfl
     have hly:wr.heap.size<(wr.alloc (.cells #[.int .i64 m,.string s] 46)).heap.size:=by simp
     obtain ⟨wy,HWY⟩:∃ wy,wy=wr.alloc (.cells #[.int .i64 m,.string s] 46):=⟨_,rfl⟩
     rw [<-HWY] at HD hx0 hx1 hly ⊢
     clear HWY q1 q2
     have q1:=HD.out.d1
     have q2:=HD.out.fd1
     have HX0:=hid hx0
     have HY:=hid hly
     go_region_law (first | (refine step_append_lies _ (by rfl) _ _ _ (by rfl) (w.heap.size+1+1+1+1) 63 i0 (.agg heldZ) 65 72 Try.underlying49 HI.out.1 HI.out.2.1 HI.out.2.2.1 HI.out.2.2.2 (by kernel_rfl) (by omega) v (hsOf (ws.take k2)).length (hcells (hsOf (ws.take k2))) (by rfl) HO.out ⟨w2.heap.size,0,none⟩ 1 1 (Value.int .i64 m::(nums s).map (Value.int .u8)) (by rfl) (by simp [hnl]) (World.news_of_block (heap_alloc_new w2 _)) (held_one m (nums s)) (by omega) (by rw [HL.out];unfold maxLen;omega) (by rw [HL.out];omega) (by simp<;>omega) (w2.heap.size+1) (by simp) ?_;intro g cap w3 hown hgrow hat hlt3;obtain ⟨q4,q5⟩:=HDA.out.grown hgrow;have HOW:=hid hown;have HGR:=hid hgrow;clear hown hgrow hat) | (refine step_call (by rfl) 33 #[.string s] (by go_simp) (sec_i s _ HS64.out) ?_;rintro e w2 ⟨rfl,hb2⟩;refine ⟨_,rfl,?_⟩;have y0:=(hb2.cell (p:=⟨wr.heap.size,0,none⟩) HY.out).trans HX0.out;have y1:=(HD.out.drew.below hb2).d1;have y2:=(HD.out.drew.below hb2).sz;have y3:w.heap.size+1+1+1<w2.heap.size:=(by omega);have HDA:=hid ((HD.out.drew.below hb2).alloc (.cells (Value.int .i64 m::(nums s).map (Value.int .u8)).toArray 63));have HO:=hid HDA.out.own))
     all_goals
      have hpush:=HDA.out.push (x:=(m,nums s)) hnl HOW.out HGR.out
      rw [show (m,nums s)=((ws.getD k2 (0,ByteArray.empty)).1,nums (ws.getD k2 (0,ByteArray.empty)).2) by rw [<-HS.out],<-hsOf_take ws k2 hlt2] at hpush
      have HP:=hid hpush
      clear hpush hfold hfold2 hz65 hzne hzh
      go_wp2
      go_roundw
      case rel=>exact ⟨k2+1,_,by omega,by go_num,HP.out⟩
      case measure=>simp [intOf];omega
    ·have hkn:Hid (ws.take k2=ws):=List.take_of_length_le (by omega)
     rw [hkn.out] at hd
     have HD:=hid hd
     have q0:=hd.d0
     have q1:=hd.d1
     have q2:=hd.r0
     have q3:=hd.r1
     have q4:=hd.fr0
     have q5:=hd.fr1
     obtain ⟨av,nv,cv,rfl⟩:∃ a n c,v=.slice a n c:=by rcases owns_forms hd.own with ⟨e,_⟩ | ⟨g,c,e,_⟩<;>exact ⟨_,_,_,e⟩
     clear hd
     go_wp2
     have own1:=ownsRow_setCell_below (ownsRow_setCell_below HD.out.own (a:=⟨w.heap.size+1,0,none⟩) (by show w.heap.size+1<_;omega) (.slice (some ⟨w.heap.size+1+1,0,none⟩) ss.length ss.length)) (a:=⟨w.heap.size+1,1,none⟩) (by show w.heap.size+1<_;omega) (.slice av nv cv)
     rw [hsOf_length] at own1
     refine bodyPost_ret (v:=.agg #[.slice (some ⟨w.heap.size+1+1,0,none⟩) ss.length ss.length,.slice av nv cv]) (by simp [results,Try.results17,go_sem,q2,q3]) rfl ⟨w.heap.size+1+1,_,rfl,?_,own1.mono (by omega),by omega,?_⟩
     ·exact (HD.out.pr.other _ (by show w.heap.size+1≠w.heap.size+1+1;omega) _).other _ (by show w.heap.size+1≠w.heap.size+1+1;omega) _
     ·exact (HD.out.bel.setCell (by show w.heap.size<=w.heap.size+1;omega) _).setCell (by show w.heap.size<=w.heap.size+1;omega) _
end Go.Proofs.Ythdilmkbnpmdaaa
