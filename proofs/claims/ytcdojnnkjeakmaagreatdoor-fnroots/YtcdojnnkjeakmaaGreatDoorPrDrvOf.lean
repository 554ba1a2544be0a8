import Derived.Test.YtcdojnnkjeakmaaGreatDoorPrG46
set_option maxHeartbeats 16000000
namespace Go.Proofs.YtcdojnnkjeakmaaGreatDoor
open Go.RowKit
set_option linter.unusedVariables false
theorem v53:(Tryz.prog.info? 101).map (fun i=>(i.zero,i.size,i.bytes))=some (some (.agg y2b),65,72):=by kernel_rfl
def pup (ss:List ByteArray) (k:Nat):List (List Int):=(ss.take k).map zFD++List.replicate (ss.length-k) (List.replicate 64 0)
theorem ZUp (ss:List ByteArray) (k:Nat) (h:k<=ss.length):(pup ss k).length=ss.length:=by simp [pup];omega
theorem qDn (ss:List ByteArray) (k:Nat) (h:ss.length<=k):pup ss k=ss.map zFD:=by unfold pup;rw [List.take_of_length_le h,show ss.length-k=0 by omega];simp
theorem Xda (ss:List ByteArray) (k:Nat) (h:k<ss.length):(pup ss k).set k (zFD (ss.getD k ByteArray.empty))=pup ss (k+1):=by
 unfold pup;rw [List.set_append_right _ _ (by simp;omega)];have e1:k-((ss.take k).map zFD).length=0:=by simp;omega
 rw [e1,show ss.length-k=(ss.length-(k+1))+1 by omega,List.replicate_succ,List.set_cons_zero,List.take_succ_eq_append_getElem h,List.map_append,List.append_assoc];simp [List.getD,h]
def ZiU (ws:List (Int×ByteArray)):List (Int×List Int):=ws.map fun x=>(x.1,zFD x.2)
theorem qOd (ws:List (Int×ByteArray)):(ZiU ws).length=ws.length:=by simp [ZiU]
theorem QoF (ws:List (Int×ByteArray)) (k:Nat) (h:k<ws.length):ZiU (ws.take (k+1))=ZiU (ws.take k)++[((ws.getD k (0,ByteArray.empty)).1,zFD (ws.getD k (0,ByteArray.empty)).2)]:=by
 unfold ZiU;rw [List.take_succ_eq_append_getElem h,List.map_append];simp [List.getD,h]
set_option maxRecDepth 100000 in
theorem Xt0 (a:Option Addr) (ss:List ByteArray) (c:Nat) (a':Option Addr) (ws:List (Int×ByteArray)) (c':Nat) (w:World) (h:Strs w a ss) (h':Wrs w a' ws) (hl:ss.length<=200) (cQ:ws.length<=300) (b8:∀ s∈ss,s.size=64) (aW:∀ x∈ws,x.2.size=64) :
  Calls Tryz.prog 26 #[Zoj a ss.length c a' ws.length c'] w fun e w'=>∃ g v,e=.returned (.agg #[.slice (some ⟨g,0,none⟩) ss.length ss.length,v])/\PR w' g (ss.map zFD)/\w'.ownsRow (g+1) 101 65 v ws.length (qOX (ZiU ws))/\w.heap.size<=g/\Below w.heap.size w w':=by
 obtain ⟨i0,bI,bW,bU,bC⟩:=q00 v53;have HI:=hid (And.intro bI (And.intro bW (And.intro bU bC)));clear bI bW bU bC;go_enter Tryz.func26,Tryz.ntmps26;go_wp2_with (at_make;refine yIc rfl _ _ 69 rfl 86 _ 64 64 Tryz.underlying69 yqx ss.length rfl rfl (by omega) (by omega) ?_;intro wx aJ aS aV;rw [jDu] at aJ;have bQ:=Drs.start w wx ss.length _ _ _ _ 72 101 aS (by simpa using aV) (by simpa using aJ);have b0:wx.cell? ⟨w.heap.size,0,none⟩=some (.slice a ss.length c):=((aS.cell (p:=⟨w.heap.size,0,none⟩) (by simp;omega)).trans (by go_simp));have aQ:wx.heap.size=w.heap.size+1+1+1:=(by simpa using aV);have aR:w.heap.size<wx.heap.size:=(by omega);have aT:=hid bQ;clear bQ aS aV aJ);have aO:Hid (List.replicate ss.length (List.replicate 64 0)=pup ss 0):=by show _=_;simp [pup]
 rw [aO.out] at aT;go_loopw [4,5,16] (fun _ _ i wr=>∃ k:Nat,k<=ss.length/\i=.int .i64 k/\Drs w wr ss.length (.slice a' ws.length c') 101 (.slice none 0 0) (pup ss k) []) (fun _ _ i _=>ss.length-(intOf i).toNat)
 case atStart=>exact ⟨0,Nat.zero_le _,rfl,aT.out⟩
 case round =>
  clear aT aQ aR b0 aO;obtain ⟨k,hk,rfl,hd⟩:=hrel
  by_cases aI:k<ss.length
  ·obtain ⟨b,o,s,rfl,hc,HS⟩:=(h.below hd.bel).at aI
   have aA:s.size=64:=by rw [HS.out];exact b8 _ (by simp [List.getD,aI])
   have b7:((zFD s).map (Value.int .u8)).length=64:=by rw [List.length_map,vgz,aA]
   have HL:=hid (ZUp ss k hk);have bZ:(Tryz.prog.info? 86).map (·.size)=some ((zFD s).map (Value.int .u8)).length:=by rw [b7];kernel_rfl
   have cJ:=xgE (zFD s);have hu:=Tryz.underlying86;have cP:(0:Int)<=(k:Int):=by omega
   have cN:(k:Int)<(ss.length:Int):=by omega
   have HT:=hid (hd.pr.there (k:=k) (by rw [HL.out];exact aI));have HD:=hid hd;have aF:=hid aA;clear hd aA;go_wp2_with fail;clear hc
   go_region_held3 (fun w'=>w'.cell? ⟨w.heap.size+1+1+1,0,none⟩=some (.slice (some ⟨w.heap.size+1+1,0,none⟩) ss.length ss.length)/\w'.there (w.heap.size+1+1) (k*64) 64)
    (first | assumption | exact ⟨HD.out.d0,HT.out⟩ | exact ⟨(HD.out.drew.below aC).d0,(HD.out.drew.below aC).pr.there (by rw [HL.out];exact aI)⟩ | exact ⟨(World.cell?_setCells_out _ _ _ _ _ (fun e=>by simp at e)).trans (HD.out.drew.below aC).d0,World.there_setCells ((HD.out.drew.below aC).pr.there (by rw [HL.out];exact aI)) _ _ _⟩)
    (first | (go_at_call 48;refine (jsf s _ aF.out).mono ?_;rintro e w2 ⟨rfl,aC⟩))
   have aD:=(HD.out.drew.below aC).fill rfl k (by rw [HL.out];exact aI) (zFD s) (by rw [vgz,aF.out]);rw [show (pup ss k).set k (zFD s)=pup ss (k+1) by rw [HS.out];exact Xda ss k aI] at aD;have HF:=hid aD;clear aD aC;go_wp2;go_roundw
   case rel=>exact ⟨k+1,by omega,by go_num,HF.out⟩
   case measure=>simp [intOf];omega
  ·have aK:=qDn ss k (by omega)
   rw [aK] at hd;have q1:=hd.b1;have bJ:=hid hd;clear hd aK;go_wp2;go_loopw [7,31] (fun _ i wr=>∃ (k:Nat) (v:Value),k<=ws.length/\i=.int .i64 k/\Drs w wr ss.length (.slice a' ws.length c') 101 v (ss.map zFD) (ZiU (ws.take k))) (fun _ i _=>ws.length-(intOf i).toNat)
   case atStart=>exact ⟨0,_,Nat.zero_le _,rfl,bJ.out⟩
   case round =>
    clear bJ q1;obtain ⟨k2,v,cS,rfl,hd⟩:=hrel
    by_cases aH:k2<ws.length
    ·obtain ⟨b,o,m,s,rfl,hc,cI,HS⟩:=(h'.below hd.bel).at aH
     have aA:s.size=64:=aW (m,s) (by rw [HS.out];simp [List.getD,aH]);have aP:(zFD s).length=64:=by rw [vgz,aA]
     have bV:(ZiU (ws.take k2)).length=k2:=by rw [qOd];simp;omega
     have HL:=hid bV;have aF:=hid aA;have cL:=vXi;have aX:=qHW;have aU:=Qlg;have aL:=y6L (.int .i64 m) ((zFD s).map (Value.int .u8)) y2b (by rw [qHW,List.length_map,aP]);have aG:=kJd (.int .i64 m) ((zFD s).map (Value.int .u8)) 65 (by rw [List.length_map,aP]);have HD:=hid (hd.alloc (.cells #[.int .i64 m,.string s] 97));have cC:=hd.sz;have cO:w.heap.size+1+1+1<wr.heap.size:=by omega
     have q1:=hd.d1;have q2:=hd.fd1;clear hd aA bV;go_wp2_with fail;clear hc cI;have bH:(wr.alloc (.cells #[.int .i64 m,.string s] 97)).cell? ⟨wr.heap.size,0,none⟩=some (.int .i64 m):=by rw [World.cell?_alloc_at _ _ _ _ rfl];rfl
     have bY:(wr.alloc (.cells #[.int .i64 m,.string s] 97)).cell? ⟨wr.heap.size,1,none⟩=some (.string s):=by rw [World.cell?_alloc_at _ _ _ _ rfl];rfl
     have bG:wr.heap.size<(wr.alloc (.cells #[.int .i64 m,.string s] 97)).heap.size:=by simp
     obtain ⟨wy,aZ⟩:∃ wy,wy=wr.alloc (.cells #[.int .i64 m,.string s] 97):=⟨_,rfl⟩;rw [<-aZ] at HD bH bY bG ⊢;clear aZ q1 q2;have q1:=HD.out.d1;have q2:=HD.out.fd1;have aO:=hid bH;have HY:=hid bG
     go_region_law (first | (refine step_append_lies _ (by rfl) _ _ _ (by rfl) (w.heap.size+1+1+1+1) 101 i0 (.agg y2b) 65 72 Tryz.underlying70 HI.out.1 HI.out.2.1 HI.out.2.2.1 HI.out.2.2.2 (by kernel_rfl) (by omega) v (ZiU (ws.take k2)).length (qOX (ZiU (ws.take k2))) (by rfl) HO.out ⟨w2.heap.size,0,none⟩ 1 1 (Value.int .i64 m::(zFD s).map (Value.int .u8)) (by rfl) (by simp [aP]) (World.news_of_block (heap_alloc_new w2 _)) (qQs m (zFD s)) (by omega) (by rw [HL.out];unfold maxLen;omega) (by rw [HL.out];omega) (by simp<;>omega) (w2.heap.size+1) (by simp) ?_;intro g cap w3 aN aE cE cH;obtain ⟨q4,q5⟩:=aY.out.grown aE;have cK:=hid aN;have cF:=hid aE;clear aN aE cE) | (refine XRf (by rfl) _ _ (by go_simp) (jsf s _ aF.out) ?_;rintro e w2 ⟨rfl,aC⟩;refine ⟨_,rfl,?_⟩;have y0:=(aC.cell (p:=⟨wr.heap.size,0,none⟩) HY.out).trans aO.out;have y1:=(HD.out.drew.below aC).d1;have y2:=(HD.out.drew.below aC).sz;have y3:w.heap.size+1+1+1<w2.heap.size:=(by omega);have aY:=hid ((HD.out.drew.below aC).alloc (.cells (Value.int .i64 m::(zFD s).map (Value.int .u8)).toArray 101));have HO:=hid aY.out.own))
     all_goals
      have aB:=aY.out.push (x:=(m,zFD s)) aP cK.out cF.out;rw [show (m,zFD s)=((ws.getD k2 (0,ByteArray.empty)).1,zFD (ws.getD k2 (0,ByteArray.empty)).2) by rw [<-HS.out],<-QoF ws k2 aH] at aB;have HP:=hid aB;clear aB aL aG aX aU cL;go_wp2;go_roundw
      case rel=>exact ⟨k2+1,_,by omega,by go_num,HP.out⟩
      case measure=>simp [intOf];omega
    ·have cM:Hid (ws.take k2=ws):=List.take_of_length_le (by omega)
     rw [cM.out] at hd;have HD:=hid hd;have q0:=hd.d0;have q1:=hd.d1;have q2:=hd.r0;have q3:=hd.r1;have q4:=hd.fr0;have q5:=hd.fr1;obtain ⟨av,nv,cv,rfl⟩:∃ a n c,v=.slice a n c:=by rcases yUO hd.own with ⟨e,_⟩ | ⟨g,c,e,_⟩<;>exact ⟨_,_,_,e⟩
     clear hd;go_wp2;have aM:=ownsRow_setCell_below (ownsRow_setCell_below HD.out.own (a:=⟨w.heap.size+1,0,none⟩) (by show w.heap.size+1<_;omega) (.slice (some ⟨w.heap.size+1+1,0,none⟩) ss.length ss.length)) (a:=⟨w.heap.size+1,1,none⟩) (by show w.heap.size+1<_;omega) (.slice av nv cv);rw [qOd] at aM;refine bodyPost_ret (v:=.agg #[.slice (some ⟨w.heap.size+1+1,0,none⟩) ss.length ss.length,.slice av nv cv]) (by simp [results,Tryz.results26,go_sem,q2,q3]) rfl ⟨w.heap.size+1+1,_,rfl,?_,aM.mono (by omega),by omega,?_⟩
     ·exact (HD.out.pr.other _ (by show w.heap.size+1≠w.heap.size+1+1;omega) _).other _ (by show w.heap.size+1≠w.heap.size+1+1;omega) _
     ·exact (HD.out.bel.setCell (by show w.heap.size<=w.heap.size+1;omega) _).setCell (by show w.heap.size<=w.heap.size+1;omega) _
end Go.Proofs.YtcdojnnkjeakmaaGreatDoor
