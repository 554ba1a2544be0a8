import Derived.Test.YtehbpeinnepdcaaGreatDoorPrDrvOf
import Derived.Test.YtehbpeinnepdcaaGreatDoorPrFate
import Derived.Test.YtehbpeinnepdcaaGreatDoorPrG42
set_option maxHeartbeats 16000000
set_option maxRecDepth 8000
set_option linter.unusedVariables false
set_option linter.unusedSimpArgs false
namespace Go.Proofs.YtehbpeinnepdcaaGreatDoor
open Go.RowKit
section
def Xab (zs:List Int):Nat->List (Int×List Int)->List (List Int)->List (List Int)
 | _,[],ps=>ps
 | i,x::r,ps=>Xab zs (i+1) r (ps.set x.1.toNat (torn (fate zs i) x.2 (ps.getD x.1.toNat [])))
theorem jjn (zs:List Int):∀ (hs:List (Int×List Int)) (i:Nat) (ps:List (List Int)),(Xab zs i hs ps).length=ps.length
 | [],_,_=>rfl
 | x::r,i,ps=>by rw [Xab,jjn zs r];simp
section
variable {W w w':World} {R X g:Nat} {xs:List Value} {a2:Option Addr} {hs:List (Int×List Int)} {ps ps':List (List Int)}
end
end
section
theorem XA9 (p:ByteArray) (i j:Nat) (h:i<=j):zFD (p.extract i j)=((zFD p).take j).drop i:=by
 unfold zFD;rw [ByteArray.data_extract,Array.toList_extract];simp [List.map_drop,List.map_take,List.take_drop,Nat.add_sub_cancel' h]
theorem QzJ (F:Nat) (d t:ByteArray) (hF:F<=64) (hd:d.size=64) (ht:t.size=64):zFD (d.extract 0 F++t.extract F 64)=torn F (zFD d) (zFD t):=by
 rw [Q5X,XA9 _ _ _ (Nat.zero_le _),XA9 _ _ _ hF,torn,List.drop_zero];rw [List.take_of_length_le (l:=zFD t) (by rw [vgz];omega)]
theorem XLI (F:Nat) (d t:ByteArray) (hF:F<=64) (hd:d.size=64) (ht:t.size=64):(d.extract 0 F++t.extract F 64).size=64:=by
 rw [ByteArray.size_append,ByteArray.size_extract,ByteArray.size_extract];omega
structure PTs (W w:World) (R X g g' n n' c1 c1':Nat) (ws:List (Int×ByteArray)) (ts:List ByteArray):Prop where
 bel:Below W.heap.size W w
 rr:Row w R [.slice none 0 0,.slice none 0 0]
 rx:Row w X [.slice (some ⟨g,0,none⟩) n c1,.slice (some ⟨g',0,none⟩) n' c1']
 rs:Row w g (ts.map Value.string)
 own:OwnS w (some ⟨g',0,none⟩) (yaV ws)
section
variable {W w w':World} {R X g g' n n' c1 c1':Nat} {ws:List (Int×ByteArray)} {ts:List ByteArray}
theorem PTs.below (h:PTs W w R X g g' n n' c1 c1' ws ts) (hb:Below w.heap.size w w'):PTs W w' R X g g' n n' c1 c1' ws ts :=
 ⟨h.bel.trans (hb.mono h.bel.size),h.rr.below hb,h.rx.below hb,h.rs.below hb,h.own.below hb⟩
theorem PTs.drew (h:PTs W w R X g g' n n' c1 c1' ws ts):PTs W w.drew R X g g' n n' c1 c1' ws ts:=h.below ((Below.refl _ _).drew)
theorem PTs.set (h:PTs W w R X g g' n n' c1 c1' ws ts) (m:Nat) (hm:m<ts.length) (s:ByteArray) (h1:W.heap.size<=g) (h2:R≠g) (h3:X≠g) (h4:yaV ws≠[]->g'≠g):PTs W (w.setCell ⟨g,m,none⟩ (.string s)) R X g g' n n' c1 c1' ws (ts.set m s):=by
 refine ⟨h.bel.setCell h1 _,h.rr.other _ (fun e=>h2 e.symm) _,h.rx.other _ (fun e=>h3 e.symm) _,?_,?_⟩
 ·rw [List.map_set];exact h.rs.set m (by simpa using hm) _
 ·rcases h.own with ho | ⟨b,e,hr⟩
  ·exact .inl ho
  ·injection e with e;injection e with e
   by_cases hc:yaV ws=[]
   ·exact .inl hc
   ·exact .inr ⟨g',rfl,(e ▸ hr).other _ (fun e2=>h4 hc e2.symm) _⟩
end
set_option maxRecDepth 100000 in
theorem Xi5 (a:Option Addr) (ss:List ByteArray) (c:Nat) (a':Option Addr) (ws:List (Int×ByteArray)) (c':Nat) (f:Option Addr) (zs:List Int) (cf:Nat) (w:World) (h:Strs w a ss) (h':Wrs w a' ws) (hz:Ints w f zs) (eJ:zs.length<=1048576) (cN:vlG ss ws=true) :
  Calls Tryz.prog 97 #[Zoj a ss.length c a' ws.length c',.slice f zs.length cf] w fun e w'=>∃ a1 c1 cC c1',e=.returned (Zoj a1 ss.length c1 cC 0 c1')/\OwnD w' a1 (secs (Xab zs 0 (ZiU ws) (ss.map zFD))) cC []/\(∀ g,blk a1 ss.length=some g->w.heap.size<=g)/\Below w.heap.size w w':=by
 obtain ⟨⟨eK,dQ,dR⟩,bG,hw⟩:=q67 cN
 have bI:∀ o1 o2,Below w.heap.size w ((w.alloc o1).alloc o2):=fun o1 o2=>((Below.refl _ _).alloc (Nat.le_refl _) _).alloc (by simp) _
 obtain ⟨aI,aG⟩:∃ aI,Hid (aI=Xab zs 0 (ZiU ws) (ss.map zFD)):=⟨_,hid rfl⟩;rw [<-aG.out];go_enter Tryz.func97,Tryz.ntmps97;go_wp2_with fail;refine (xpE a ss c a' ws c' _ (h.below (bI _ _)) (h'.below (bI _ _)) (by omega) (by omega) (fun s hs=>by have:=bG s hs;omega) (fun x hx=>by have:=of_decide_eq_true (hw x hx);omega)).mono ?_;rw [cN];rintro e w1 ⟨rfl,aT⟩;have cE:=(bI _ _).trans (aT.mono (by simp;omega));obtain ⟨q1,q2⟩:=y6s aT;have rR:=(kR4 (w.alloc (.cells #[.slice a ss.length c,.slice a' ws.length c'] 26)) #[.slice none 0 0,.slice none 0 0] 26 (w.heap.size+1) (by simp)).below aT;have aX:=hid rR;have aF:=hid cE;clear rR aT cE;go_wp2_with fail;refine (copy_s a ss c a' ws c' _ (h.below aF.out) (h'.below aF.out) dQ dR).mono ?_;rintro e w2 ⟨g,c1,g',c1',rfl,aW,hg,dL,aU⟩;clear q1 q2;go_wp2;have aC:ss.length≠0:=by omega
 have cL:w1.heap.size<=g:=hg g (by unfold blk;rw [if_neg aC];rfl);have dE:=aX.out.lt
 have bU:Row w2 g (ss.map Value.string):=by
  rcases aW.s with e | ⟨b,e,hr⟩
  ·exact absurd (congrArg List.length e) (by rw [List.length_map,List.length_nil];omega)
  ·cases e;exact hr
 have eG:=bU.lt
 have cM:yaV ws≠[]->g'≠g:=fun hc=>by
  have hl:ws.length≠0:=fun e=>hc (by rw [List.eq_nil_of_length_eq_zero e];rfl)
  rcases aW.ne with e | e | e
  ·unfold blk at e;rw [if_neg aC] at e;exact absurd e (by simp)
  ·unfold blk at e;rw [if_neg hl] at e;exact absurd e (by simp)
  ·unfold blk at e;rw [if_neg aC,if_neg hl] at e;exact fun e2=>e (by rw [e2])
 have aA:PTs w (w2.alloc (.cells #[.slice (some ⟨g,0,none⟩) ss.length c1,.slice (some ⟨g',0,none⟩) ws.length c1'] 26)) (w.heap.size+1) w2.heap.size g g' ss.length ws.length c1 c1' ws ss :=
  ⟨Below.then (Below.then aF.out (Nat.le_refl _) aU) (Nat.le_refl _) (zE5 _ _),(aX.out.below aU).alloc _,xER _ _ _,bU.alloc _,aW.p.below (zE5 _ _)⟩
 have bZ:=hid aA;have HW:=hid hw;have cP:=hid bG;have cU:=hid cM;have cO:w.heap.size<=g:=Nat.le_trans aF.out.size cL;have bH:w.heap.size+1≠g:=by omega
 have cH:w2.heap.size≠g:=by omega
 have eB:w.heap.size+1<w2.heap.size:=by have:=aU.size;omega
 clear aA aW hg dL aU bU cM hw bG aX aF cL dE;go_loopw [6,7,8] (fun i _ _ wr=>∃ (k:Nat) (ts:List ByteArray),k<=ws.length/\i=.int .i64 k/\ts.length=ss.length/\Hid (∀ s∈ts,s.size=64)/\Hid (Xab zs k ((ZiU ws).drop k) (ts.map zFD)=aI)/\PTs w wr (w.heap.size+1) w2.heap.size g g' ss.length ws.length c1 c1' ws ts) (fun i _ _ _=>ws.length-(intOf i).toNat)
 case atStart=>exact ⟨0,ss,Nat.zero_le _,rfl,rfl,hid (fun s hs=>by have:=cP.out s hs;omega),by show _=_;rw [List.drop_zero,aG.out],bZ.out⟩
 case round =>
  clear bZ;obtain ⟨k,ts,hk,rfl,aE,aH,HK,aA⟩:=hrel
  by_cases aV:k<ws.length
  ·obtain ⟨b,o,m0,d,he,cI,cJ,HX⟩:=aA.own.wrs.at aV
   obtain ⟨rfl,rfl⟩:g'=b/\o=0:=by cases he;exact ⟨rfl,rfl⟩
   rw [Nat.zero_add] at cI cJ;clear he;have aO:(m0,d)∈ws:=by rw [HX.out];simp [List.getD,aV]
   have aR:=of_decide_eq_true (HW.out (m0,d) aO);obtain ⟨m,rfl,hm⟩:∃ m:Nat,m0=(m:Int)/\m<ss.length:=⟨m0.toNat,by have:=aR.1;omega,by have:=aR.2.1;have:=aR.1;simp at *;omega⟩;have aL:d.size=64:=by have:=aR.2.2;simp at this;omega
   have cK:=aA.rs.cell m (.string (ts.getD m ByteArray.empty)) (by simp [List.getD,aE,hm]);have aD:(ts.getD m ByteArray.empty).size=64:=aH.out _ (by simp [List.getD,aE,hm]);have dJ:=aA.rs.froz m (by simp [aE,hm]);obtain ⟨t,aZ⟩:∃ t,Hid (t=ts.getD m ByteArray.empty):=⟨_,hid rfl⟩;rw [<-aZ.out] at cK aD;have x0:=aA.rx.cell 0 _ rfl;have x1:=aA.rx.cell 1 _ rfl;have dO:=aA.rx.lt;have eI:=aA.rs.lt;have aM:=zrd zs k;have aS:=hid aA;have HZ:=hid (hz.below aA.bel);clear aA aO aR;obtain ⟨F,hF⟩:∃ F:Nat,F=fate zs k:=⟨_,rfl⟩;have cZ:F<=64:=by rw [hF];exact zrd zs k
   obtain ⟨zv,bY⟩:∃ zv:Int,zv=if k<zs.length then zs.getD k 0 else 0:=⟨_,rfl⟩;obtain ⟨z1,bV⟩:∃ z1:Int,z1=if zv<0 then 0 else zv:=⟨_,rfl⟩
   have cF:(F:Int)=if 64<z1 then 64 else z1:=by
    rw [hF,bV,bY];unfold fate
    by_cases h1:k<zs.length
    ·rw [if_pos h1,if_pos h1]
     by_cases h2:zs.getD k 0<0
     ·rw [if_pos h2,if_pos h2];rfl
     ·rw [if_neg h2,if_neg h2]
      by_cases h3:64<zs.getD k 0
      ·rw [if_pos h3,if_pos h3];rfl
      ·rw [if_neg h3,if_neg h3];omega
    ·rw [if_neg h1,if_neg h1];rfl
   have HF:=hid hF.symm;have b8:=hid bY;have cW:=hid bV;have cS:=hid cF;clear hF bY bV cF aM;go_upto_if 25 with fail;go_cut [7] from 22 to 29 (fun kv wx=>kv=.int .i64 zv/\wr=wx)
   case first =>
    by_cases bW:k<zs.length
    ·have e:=b8.out
     rw [if_pos bW] at e;obtain ⟨bz,oz,z,rfl,eC,eD,cY⟩:=HZ.out.at bW;obtain rfl:zv=z:=by rw [e];exact cY.out.symm
     clear e;have dU:(k:Int)<(zs.length:Int):=by omega
     have eL:¬ ((zs.length:Int)<=(k:Int)):=by omega
     go_wp2_with fail;go_meet;exact ⟨rfl,rfl⟩
    ·have e:=b8.out
     rw [if_neg bW] at e;subst e;have dU:¬ ((k:Int)<(zs.length:Int)):=by omega
     go_wp2_with fail;go_meet;exact ⟨rfl,rfl⟩
   case rest =>
   obtain ⟨rfl,rfl⟩:=hcut;go_upto_if 31 with fail;go_cut [7] from 30 to 31 (fun kv wx=>kv=.int .i64 z1/\wr=wx)
   case first =>
    have e:=cW.out
    by_cases aP:zv<0
    ·rw [if_pos aP] at e
     subst e;go_wp2_with fail;go_meet;exact ⟨rfl,rfl⟩
    ·rw [if_neg aP] at e
     subst e;go_wp2_with fail;go_meet;exact ⟨rfl,rfl⟩
   case rest =>
   obtain ⟨rfl,rfl⟩:=hcut;go_upto_if 33 with fail;go_cut [7] from 32 to 33 (fun kv wx=>kv=.int .i64 (F:Int)/\wr=wx)
   case first =>
    have e:=cS.out
    by_cases aJ:64<z1
    ·rw [if_pos aJ] at e
     obtain rfl:F=64:=by omega
     go_wp2_with fail;go_meet;exact ⟨rfl,rfl⟩
    ·rw [if_neg aJ] at e
     subst e;go_wp2_with fail;go_meet;exact ⟨rfl,rfl⟩
   case rest =>
   obtain ⟨rfl,rfl⟩:=hcut;go_wp2_with fail;have hq:=aS.out.below (zE5 wr (.cells #[.int .i64 (m:Int),.string d] 74));have hy:=Cx.new wr (.int .i64 (m:Int)) (.string d) 74;obtain ⟨wq,bC⟩:∃ wq,wq=wr.alloc (.cells #[.int .i64 (m:Int),.string d] 74):=⟨_,rfl⟩;rw [<-bC] at hq hy ⊢;have eH:wr.heap.size<wq.heap.size:=by rw [bC];simp
   have eF:g≠wr.heap.size:=by omega
   have aK:=hq.rs.cell m (.string t) (by rw [aZ.out];simp [List.getD,aE,hm]);have aN:=hq.rs.froz m (by simp [aE,hm]);have HQ:=hid hq;have HY:=hid hy;have b7:=hid aK;have cQ:=hid aN;clear hq hy aK aN cK dJ x0 x1 cI cJ bC;refine wp_region_held_drew (S:=fun w'=>w'.cell? ⟨w2.heap.size,0,none⟩=some (.slice (some ⟨g,0,none⟩) ss.length c1)/\w'.cell? ⟨wr.heap.size,0,none⟩=some (.int .i64 (m:Int))/\w'.cell? ⟨wr.heap.size,1,none⟩=some (.string d)) (by kernel_rfl) ⟨HQ.out.rx.cell 0 _ rfl,HY.out.c0,HY.out.c1⟩ (fun aB=>?_);refine TZ 0 (.pointer (some ⟨w2.heap.size,0,none⟩)) rfl aB (TZ 1 (.slice (some ⟨g,0,none⟩) ss.length c1) rfl aB (TZ 2 (.pointer (some ⟨wr.heap.size,0,none⟩)) rfl aB (TZ 3 (.int .i64 (m:Int)) rfl aB (TZ 4 (.pointer (some ⟨wr.heap.size,1,none⟩)) rfl aB (TZ 5 (.string d) rfl aB (TZ 6 (.int .i64 (F:Int)) rfl aB (TZ 7 (.string (d.extract 0 F)) rfl aB (TZ 8 (.pointer (some ⟨w2.heap.size,0,none⟩)) rfl aB (TZ 9 (.slice (some ⟨g,0,none⟩) ss.length c1) rfl aB (TZ 10 (.pointer (some ⟨wr.heap.size,0,none⟩)) rfl aB (TZ 11 (.int .i64 (m:Int)) rfl aB ?_)))))))))))
   simp only [PS];refine TZ 12 (.pointer (some ⟨g,m,none⟩)) rfl aB (TZ 14 (.int .i64 (F:Int)) rfl aB ?_);simp only [PS];refine RD 13 rfl (fun K hK=>?_);have bJ:=b7.out;go_simp;clear bJ;refine hK.out _ _ aB (fun _=>?_);clear hK K;refine TZ 15 (.string (t.extract F t.size)) rfl aB (TZ 16 (.string (d.extract 0 F++t.extract F t.size)) rfl aB (TZ 17 (.pointer (some ⟨g,m,none⟩)) rfl aB ?_));simp only [PS];refine RD 18 rfl (fun K hK=>?_);have bJ:=b7.out;have dI:=cQ.out;go_simp;clear bJ dI;refine hK.out _ _ ⟨(World.cell?_setCell_far _ _ _ _ (by show g≠w2.heap.size;omega)).trans aB.1,(World.cell?_setCell_far _ _ _ _ (by show g≠wr.heap.size;omega)).trans aB.2.1,(World.cell?_setCell_far _ _ _ _ (by show g≠wr.heap.size;omega)).trans aB.2.2⟩ (fun _=>?_);clear hK K;refine DN ?_;have hV:d.extract 0 F++t.extract F 64=d.extract 0 F++t.extract F 64:=by rfl
   have aQ:=HQ.out.drew.set m (by omega) (d.extract 0 F++t.extract F 64) cO bH cH cU.out;have aY:=hid aQ
   have cT:Hid (Xab zs (k+1) ((ZiU ws).drop (k+1)) ((ts.set m (d.extract 0 F++t.extract F 64)).map zFD)=aI):=by
    show _=_;rw [hV];have dK:fate zs k=F:=HF.out
    have dH:(ZiU ws).drop k=((m:Int),zFD d)::(ZiU ws).drop (k+1):=by
     rw [JGy (ZiU ws) k (0,[]) (by rw [qOd];exact aV)]
     have dM:(ZiU ws).getD k (0,[])=((m:Int),zFD d):=by
      have e:=HX.out;simp [ZiU,List.getD,aV] at e ⊢;rw [<-e];exact ⟨rfl,rfl⟩
     rw [dM]
    rw [<-HK.out,dH,Xab,Int.toNat_natCast,dK,List.map_set,QzJ F d t (by omega) aL aD]
    congr 2
    rw [aZ.out];simp [List.getD,aE,hm]
   have cV:Hid (∀ s∈ts.set m (d.extract 0 F++t.extract F 64),s.size=64):=fun s hs=>by
    rw [hV] at hs;rcases List.mem_or_eq_of_mem_set hs with h1 | h1
    ·exact aH.out s h1
    ·rw [h1];exact XLI F d t (by omega) aL aD
   clear aQ aB hV;go_wp2;go_roundw
   case rel=>exact ⟨k+1,_,by omega,by go_num,by simp [aE],cV,cT,aY.out⟩
   case measure=>simp [intOf];omega
  ·have bQ:Hid (ts=secs aI):=by
    have:=HK.out;rw [List.drop_of_length_le (by rw [qOd];omega)] at this;show _=_;rw [<-this];show ts=(ts.map zFD).map strOfNums;rw [List.map_map];exact (List.map_id'' (fun s=>ZXs s) ts).symm
   rw [bQ.out] at aA;have aS:=hid aA;have q0:=aA.rx.cell 0 _ rfl;have q1:=aA.rx.cell 1 _ rfl;have f1:=aA.rx.froz 1 (by simp);have r0:=aA.rr.cell 0 _ rfl;have r1:=aA.rr.cell 1 _ rfl;obtain ⟨dY,dZ⟩:=aA.rr.z2;have dO:=aA.rx.lt;have dN:=aA.rr.lt;have n1:w2.heap.size≠w.heap.size+1:=by omega
   clear aA;go_wp2;have dV:wr.heap.size≠w.heap.size+1:=by omega
   refine bodyPost_ret (v:=Zoj (some ⟨g,0,none⟩) ss.length c1 (some ⟨wr.heap.size,0,none⟩) 0 0) (by simp [results,Tryz.results97,go_sem,r0,r1,n1,dV,dN]) rfl ⟨_,_,_,_,rfl,⟨.inr ⟨g,rfl,?_⟩,.inl rfl,.inr (.inl rfl)⟩,fun k hk=>?_,?_⟩
   ·exact ((((aS.out.rs.other _ (by show w2.heap.size≠g;exact cH) _).other _ (by show w.heap.size+1≠g;exact bH) _).other _ (by show w.heap.size+1≠g;exact bH) _)).alloc _
   ·unfold blk at hk
    rw [if_neg aC] at hk
    cases hk
    exact cO
   ·exact (((aS.out.bel.setCell (by show w.heap.size<=w2.heap.size;omega) _).setCell (by show w.heap.size<=w.heap.size+1;omega) _).setCell (by show w.heap.size<=w.heap.size+1;omega) _).alloc (by simp;omega) _
end
def qDE (zs:List Int):List Value:=zs.map (Value.int .i64)
theorem Row.ints {w:World} {g:Nat} {zs:List Int} (h:Row w g (qDE zs)):Ints w (some ⟨g,0,none⟩) zs :=
 .inr ⟨g,0,rfl,h.lt,fun i hi=>by rw [Nat.zero_add];exact h.cell i _ (by simp [qDE,List.getD,hi])⟩
theorem JaL (a:Option Addr) (ss:List ByteArray) (c:Nat) (a':Option Addr) (ws:List (Int×ByteArray)) (c':Nat) (v:Value) (w:World) (h:Strs w a ss) (h':Wrs w a' ws) (hl:ss.length<=1048576) (aD:ws.length<=1048576) (hs:∀ s∈ss,s.size<=1048576) (aF:∀ x∈ws,x.2.size<=1048576) (aE:vlG ss ws=false) :
  Calls Tryz.prog 97 #[Zoj a ss.length c a' ws.length c',v] w fun e w'=>e=.returned (Zoj none 0 0 none 0 0)/\Below w.heap.size w w':=by
 have aA:∀ o1 o2,Below w.heap.size w ((w.alloc o1).alloc o2):=fun o1 o2=>((Below.refl _ _).alloc (Nat.le_refl _) _).alloc (by simp) _
 go_enter Tryz.func97,Tryz.ntmps97;go_wp2_with fail;refine (xpE a ss c a' ws c' _ (h.below (aA _ _)) (h'.below (aA _ _)) hl aD hs aF).mono ?_;rw [aE];rintro e w1 ⟨rfl,aB⟩;have aC:=hid ((aA _ _).trans (aB.mono (by simp;omega)));have rR:=(kR4 (w.alloc (.cells #[.slice a ss.length c,.slice a' ws.length c'] 26)) #[.slice none 0 0,.slice none 0 0] 26 (w.heap.size+1) (by simp)).below aB;have r0:=rR.cell 0 _ rfl;have r1:=rR.cell 1 _ rfl;obtain ⟨aG,aH⟩:=rR.z2;clear rR aB;go_wp2;exact bodyPost_ret (v:=Zoj none 0 0 none 0 0) (by simp [results,Tryz.results97,go_sem,r0,r1]) rfl ⟨rfl,(aC.out.setCell (by show w.heap.size<=w.heap.size+1;omega) _).setCell (by show w.heap.size<=w.heap.size+1;omega) _⟩
def jYf (zs:List Int) (ss:List ByteArray) (ws:List (Int×ByteArray)):List ByteArray:=if vlG ss ws=true then secs (Xab zs 0 (ZiU ws) (ss.map zFD)) else []
theorem jhD (a:Option Addr) (ss:List ByteArray) (c:Nat) (a':Option Addr) (ws:List (Int×ByteArray)) (c':Nat) (f:Option Addr) (zs:List Int) (cf:Nat) (w:World) (h:Strs w a ss) (h':Wrs w a' ws) (hz:Ints w f zs) (aD:zs.length<=1048576) (hl:ss.length<=1048576) (aC:ws.length<=1048576) (hs:∀ s∈ss,s.size<=1048576) (aE:∀ x∈ws,x.2.size<=1048576) :
  Calls Tryz.prog 97 #[Zoj a ss.length c a' ws.length c',.slice f zs.length cf] w fun e w'=>∃ a1 c1 aB c1',e=.returned (Zoj a1 (jYf zs ss ws).length c1 aB 0 c1')/\OwnS w' a1 ((jYf zs ss ws).map Value.string)/\(∀ g,blk a1 (jYf zs ss ws).length=some g->w.heap.size<=g)/\Below w.heap.size w w':=by
 by_cases aA:vlG ss ws=true
 ·have e1:jYf zs ss ws=secs (Xab zs 0 (ZiU ws) (ss.map zFD)):=by simp [jYf,aA]
  have e2:(jYf zs ss ws).length=ss.length:=by rw [e1];simp [secs,jjn]
  refine (Xi5 a ss c a' ws c' f zs cf w h h' hz aD aA).mono ?_;rintro e w' ⟨a1,c1,aB,c1',rfl,ho,hg,hb⟩;rw [e2];exact ⟨a1,c1,aB,c1',rfl,by rw [e1];exact ho.s,hg,hb⟩
 ·have e1:jYf zs ss ws=[]:=by simp [jYf,aA]
  rw [e1];refine (JaL a ss c a' ws c' _ w h h' hl aC hs aE (by simpa using aA)).mono ?_;rintro e w' ⟨rfl,hb⟩;exact ⟨none,0,none,0,rfl,.inl rfl,(fun g hg=>by cases hg),hb⟩
end Go.Proofs.YtehbpeinnepdcaaGreatDoor
