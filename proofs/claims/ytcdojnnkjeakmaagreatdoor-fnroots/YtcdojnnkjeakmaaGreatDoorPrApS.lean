import Derived.Test.YtcdojnnkjeakmaaGreatDoorPrG43
import Derived.Test.YtcdojnnkjeakmaaGreatDoorPrG53
set_option maxHeartbeats 16000000
namespace Go.Proofs.YtcdojnnkjeakmaaGreatDoor
open Go.RowKit
set_option linter.unusedVariables false
set_option linter.unusedSimpArgs false
set_option maxRecDepth 8000
theorem ZNG (k v:ByteArray):∀ u∈[Value.string k,.string v],u.oneCell'=true:=by
 intro u hu;simp only [List.mem_cons,List.not_mem_nil,or_false] at hu;rcases hu with rfl | rfl<;>rfl
theorem qTA (o:List Pr) (c:Pr):qJS (o++[c])=qJS o++[.string c.1,.string c.2]:=by rw [qAB];rfl
theorem zBX {w:World} {A:Array Value} {t:TypeId} {g:Nat} (hg:w.heap.size=g):Row (w.alloc (.cells A t)) g A.toList:=by subst hg;exact xER w A t
theorem ZyM {w w':World} {o:Obj} {r:Option Nat} (h:(w.drew.alloc o).grownBy w' r):(w.alloc o).grownBy w' r:=⟨h.os,h.tape,h.output,h.size,h.block⟩
theorem vvQ {w w':World} {base:Nat} {e:TypeId} {s:Nat} {v:Value} {n:Nat} {xs:List Value} (h:w.ownsRow base e s v n xs) (hk:∀ b,base<=b->b<w.heap.size->w'.heap[b]?=w.heap[b]?):w'.ownsRow base e s v n xs:=by
 refine ⟨h.1,?_⟩;rcases h.2 with hn | ⟨g,cap,aC,rfl,hb,aB,aA⟩
 ·exact .inl hn
 ·exact .inr ⟨g,cap,aC,rfl,hb,(hk g hb (Array.getElem?_eq_some_iff.1 aB).1).trans aB,aA⟩
theorem k53 {α:Type} (l:List α) (k:Nat) (d:α) (h:k<l.length):l.take (k+1)=l.take k++[l.getD k d]:=by
 rw [List.take_succ_eq_append_getElem h];simp [List.getD,h]
structure OutX (w wb wr:World) (v:Value) (o:List Pr):Prop where
 row:Row wr (w.heap.size+1+1+1) [v]
 own:wr.ownsRow (w.heap.size+1+1+1+1) 176 2 v o.length (qJS o)
 bel:Below (w.heap.size+1+1+1) wb wr
theorem OutX.below {w wb wr w':World} {v:Value} {o:List Pr} (h:OutX w wb wr v o) (hb:Below wr.heap.size wr w'):OutX w wb w' v o:=⟨h.row.below hb,jcb h.own hb,h.bel.trans (hb.mono (by have:=h.row.lt;omega))⟩
theorem OutX.sl {w wb wr:World} {v:Value} {o:List Pr} (h:OutX w wb wr v o):∃ va vc,v=Value.slice va o.length vc:=by
 rcases yUO h.own with ⟨e1,e2⟩ | ⟨g,cap,e1,_⟩
 ·exact ⟨none,0,by rw [e1,e2]⟩
 ·exact ⟨_,cap,e1⟩
theorem OutX.push {w wb wr w9:World} {va:Option Addr} {vc g9 aA:Nat} {out:List Pr} {x:Pr} {o:Obj} (h:OutX w wb wr (.slice va out.length vc) out)
  (aB:w9.ownsRow (w.heap.size+1+1+1+1) 176 2 (.slice (some ⟨g9,0,none⟩) (out.length+1) aA) (out.length+1) (qJS out++[.string x.1,.string x.2])) (hg:(wr.alloc o).grownBy w9 (Value.slice va out.length vc).ownBlock) :
  Row w9 (w.heap.size+1+1+1) [.slice va out.length vc]/\OutX w wb (w9.setCell ⟨w.heap.size+1+1+1,0,none⟩ (.slice (some ⟨g9,0,none⟩) (out.length+1) aA)) (.slice (some ⟨g9,0,none⟩) (out.length+1) aA) (out++[x])/\Below (w.heap.size+1+1+1) wb w9:=by
 have aG:=h.row.lt;have hr:Row w9 (w.heap.size+1+1+1) [.slice va out.length vc]:=(h.row.alloc o).grown hg (fun e=>by have:=(h.own.lt _ e.symm).1;omega);have aC:Below (w.heap.size+1+1+1) wb w9:=h.bel.trans (zRE (w:=wr) ⟨hg.os,hg.tape,hg.output,Nat.le_trans (by simp) hg.size,fun k hk aE=>(hg.block k (by simp;omega) aE).trans (((Below.refl wr.heap.size wr).alloc (Nat.le_refl _) o).block k hk)⟩ (by omega) (fun k hk=>by have:=(h.own.lt k hk).1;omega));have aF:=(aB.lt g9 rfl).1;refine ⟨hr,⟨hr.set 0 (by simp) _,?_,aC.setCell (p:=⟨w.heap.size+1+1+1,0,none⟩) (Nat.le_refl _) _⟩,aC⟩;have aD:w9.grownBy (w9.setCell ⟨w.heap.size+1+1+1,0,none⟩ (.slice (some ⟨g9,0,none⟩) (out.length+1) aA)) (some (w.heap.size+1+1+1)):=⟨rfl,rfl,rfl,by simp [World.setCell],fun k _ hk=>Below.heap_setCell _ _ _ k (fun e=>hk (by rw [e]))⟩;have:=aB.kept aD (.inr (by simp [Value.ownBlock];omega));rw [List.length_append,qTA];exact this
theorem Z6i {w wb wr w':World} {va:Option Addr} {vc:Nat} {out:List Pr} (h:OutX w wb wr (.slice va out.length vc) out) (hb:Below w.heap.size wr w') (hk:∀ k,w.heap.size+1+1+1+1<=k->w'.heap[k]?=wr.heap[k]?) (aB:Below w.heap.size w wb) (hs:w.heap.size+1+1+1+1<=wb.heap.size):XIH w w' (.returned (stV va out.length vc)) out:=by
 have aA:out.length<=vc:=by
  rcases h.own.2 with ⟨e1,e2⟩ | ⟨g,cap,aC,e1,_,_,h3,_⟩
  ·rw [e2];omega
  ·cases e1;exact h3
 have ho:=vvQ h.own (fun b h1 _=>hk b h1);refine ⟨va,vc,rfl,aA,?_,fun g hg=>?_,aB.trans ((h.bel.mono (by omega)).trans hb)⟩
 ·rcases yUO ho with ⟨_,e2⟩ | ⟨g,cap,e1,_,_,e4⟩
  ·exact .inl (by rw [List.eq_nil_of_length_eq_zero e2];rfl)
  ·cases e1;exact .inr ⟨g,rfl,e4⟩
 ·unfold blk at hg
  split at hg
  ·cases hg
  ·cases va with
   | none=>cases hg
   | some ad =>
    simp at hg;subst hg;have:=(h.own.lt ad.block rfl).1;omega
theorem qMu (a:Option Addr) (rs:List Pr) (c:Nat) (aC aD:ByteArray) (aI:Bool) (w:World) (h:Prs w a rs) (hl:rs.length<=100000) :
  Calls Tryz.prog 90 #[stV a rs.length c,.agg #[.string aC,.string aD,.bool aI]] w fun e w'=>XIH w w' e (chF (aC,aD,aI) rs):=by
 obtain ⟨i0,dM,dQ,dR,dU⟩:=q5D q2K;have HI:=hid (And.intro dM (And.intro dQ (And.intro dR dU)));clear dM dQ dR dU;unfold stV;obtain ⟨wb,b8⟩:∃ wb,wb=(((w.alloc (.cells #[.slice a rs.length c] 57)).alloc (.cells #[.string aC,.string aD,.bool aI] 117)).alloc (.cells #[.slice none 0 0] 57)).alloc (.cells #[.slice none 0 0] 57):=⟨_,rfl⟩;have eH:wb.heap.size=w.heap.size+1+1+1+1:=by rw [b8];simp
 have cY:Hid (Below w.heap.size w wb):=by show Below _ _ _;rw [b8];exact ((((Below.refl _ _).alloc (Nat.le_refl _) _).alloc (by simp) _).alloc (by simp<;>omega) _).alloc (by simp<;>omega) _
 have cI:Hid (∀ w',Below (w.heap.size+1+1+1) wb w'->Row w' (w.heap.size) [.slice a rs.length c]/\Row w' (w.heap.size+1) [.string aC,.string aD,.bool aI]/\Row w' (w.heap.size+1+1) [.slice none 0 0]):=fun w' hb=>by
  have r0:Row wb (w.heap.size) [.slice a rs.length c]:=by rw [b8];exact (((xER w _ _).alloc _).alloc _).alloc _
  have r1:Row wb (w.heap.size+1) [.string aC,.string aD,.bool aI]:=by rw [b8];exact ((zBX (w:=w.alloc _) (by simp)).alloc _).alloc _
  have r2:Row wb (w.heap.size+1+1) [.slice none 0 0]:=by rw [b8];exact (zBX (w:=(w.alloc _).alloc _) (by simp)).alloc _
  have aC:∀ {g:Nat} {cs:List Value},g<w.heap.size+1+1+1->Row wb g cs->Row w' g cs:=fun hg r=>⟨Nat.lt_of_lt_of_le r.lt hb.size,fun i v hv=>(hb.cell (p:=⟨_,i,none⟩) hg).trans (r.cell i v hv),fun i hi=>(hb.frozen (p:=⟨_,i,none⟩) hg).trans (r.froz i hi)⟩
  exact ⟨aC (by omega) r0,aC (by omega) r1,aC (by omega) r2⟩
 have cF:Row wb (w.heap.size+1+1+1) [.slice none 0 0]:=by rw [b8];exact zBX (w:=((w.alloc _).alloc _).alloc _) (by simp)
 have dY:Hid (Row wb (w.heap.size+1+1+1) [.slice none 0 0]):=cF;clear cF;go_enter Tryz.func90,Tryz.ntmps90;go_wp2_with fail;rw [<-b8];clear b8;go_loopw [6,7] (fun d i wr=>∃ k:Nat,k<=rs.length/\i=.int .i64 (k:Int)/\d=.bool (chW (aC,aD,aI) (rs.take k)).1/\∃ y,OutX w wb wr y (chW (aC,aD,aI) (rs.take k)).2) (fun _ i _=>rs.length-(intOf i).toNat)
 case atStart=>exact ⟨0,Nat.zero_le _,rfl,by simp [chW],.slice none 0 0,⟨dY.out,World.ownsRow_nil _ _ _ _,Below.refl _ _⟩⟩
 case round =>
  obtain ⟨k,hk,rfl,rfl,y,hx⟩:=hrel;obtain ⟨out,bY⟩:∃ out,out=(chW (aC,aD,aI) (rs.take k)).2:=⟨_,rfl⟩;obtain ⟨d,hd⟩:∃ d,d=(chW (aC,aD,aI) (rs.take k)).1:=⟨_,rfl⟩;have cM:chW (aC,aD,aI) (rs.take k)=(d,out):=by rw [hd,bY]
  rw [<-bY] at hx;rw [<-hd]
  have dN:out.length<=100001:=by
   have:=(xzP (aC,aD,aI) (rs.take k) _ rfl).1;rw [<-bY,List.length_take] at this
   split at this<;>omega
  clear bY hd;obtain ⟨va,vc,rfl⟩:=hx.sl;obtain ⟨cW,cJ,cN⟩:=cI.out _ hx.bel;have q0:=cW.cell 0 _ rfl;have bZ:=cJ.cell 0 _ rfl;have b7:=cJ.cell 1 _ rfl;have q3:=hx.row.cell 0 _ rfl;have r3:=hx.row.froz 0 (by simp);have l3:=hx.row.lt;have aW:Below w.heap.size w wr:=cY.out.trans (hx.bel.mono (by omega));have HX:=hid hx;clear hx
  by_cases dJ:k<rs.length
  ·obtain ⟨b,o,s0,s1,rfl,cO,cP,HS⟩:=(h.below aW).at dJ
   have dE:b<w.heap.size:=by
    rcases h with h | ⟨b',o',h1,h2,_⟩
    ·subst h;simp at dJ
    ·cases h1;exact h2
   have eD:(k:Int)<(rs.length:Int):=by omega
   have eJ:(0:Int)<=(k:Int):=by omega
   have cH:chW (aC,aD,aI) (rs.take (k+1))=xIY aC aD (d,out) (s0,s1):=by rw [k53 rs k (ByteArray.empty,ByteArray.empty) dJ,Jii,<-HS.out,cM]
   have aG:=hid cH;clear cH cM HS cW cJ cN
   have aL:Hid (∀ w',Below (w.heap.size+1+1+1) wr w'->w'.cell? ⟨w.heap.size,0,none⟩=some (.slice (some ⟨b,o,none⟩) rs.length c)/\w'.cell? ⟨b,o+k*2,none⟩=some (.string s0)/\w'.cell? ⟨b,o+k*2+1,none⟩=some (.string s1)/\w'.cell? ⟨w.heap.size+1,0,none⟩=some (.string aC)/\w'.cell? ⟨w.heap.size+1,1,none⟩=some (.string aD)):=fun w' hb=>⟨(hb.cell (p:=⟨w.heap.size,0,none⟩) (by show w.heap.size<_;omega)).trans q0,(hb.cell (p:=⟨b,o+k*2,none⟩) (by show b<_;omega)).trans cO,(hb.cell (p:=⟨b,o+k*2+1,none⟩) (by show b<_;omega)).trans cP,(hb.cell (p:=⟨w.heap.size+1,0,none⟩) (by show w.heap.size+1<_;omega)).trans bZ,(hb.cell (p:=⟨w.heap.size+1,1,none⟩) (by show w.heap.size+1<_;omega)).trans b7⟩
   have dZ:Hid (∀ w',Below w.heap.size w w'->w'.cell? ⟨b,o+k*2,none⟩=some (.string s0)/\w'.cell? ⟨b,o+k*2+1,none⟩=some (.string s1)):=fun w' hb=>⟨(hb.cell (p:=⟨b,o+k*2,none⟩) dE).trans ((aW.cell (p:=⟨b,o+k*2,none⟩) dE).symm.trans cO),(hb.cell (p:=⟨b,o+k*2+1,none⟩) dE).trans ((aW.cell (p:=⟨b,o+k*2+1,none⟩) dE).symm.trans cP)⟩
   cases d with
   | true =>
    go_wp2_with fail;refine wp_region_held_drew (S:=fun w'=>w'.cell? ⟨w.heap.size,0,none⟩=some (.slice (some ⟨b,o,none⟩) rs.length c)/\w'.cell? ⟨b,o+k*2,none⟩=some (.string s0)/\w'.cell? ⟨b,o+k*2+1,none⟩=some (.string s1)/\w'.cell? ⟨w.heap.size+1,0,none⟩=some (.string aC)/\w'.cell? ⟨w.heap.size+1,1,none⟩=some (.string aD)) (by kernel_rfl) (aL.out _ (Below.refl _ _).drew) (fun aB=>?_);refine TY 0 (.bool true) rfl aB ?_;simp only [PS];refine TY 1 (.bool false) rfl aB ?_;simp only [PS];refine TY 2 (.bool false) rfl aB ?_;simp only [PS];refine TK 3 (undef) rfl (Or.inr ⟨by kernel_rfl,rfl⟩) aB ?_;simp only [PS];refine TK 4 (undef) rfl (Or.inr ⟨by kernel_rfl,rfl⟩) aB ?_;simp only [PS];refine TK 5 (undef) rfl (Or.inr ⟨by kernel_rfl,rfl⟩) aB ?_;simp only [PS];refine TK 6 (undef) rfl (Or.inr ⟨by kernel_rfl,rfl⟩) aB ?_;simp only [PS];refine TK 7 (undef) rfl (Or.inr ⟨by kernel_rfl,rfl⟩) aB ?_;simp only [PS];refine TK 8 (undef) rfl (Or.inr ⟨by kernel_rfl,rfl⟩) aB ?_
    simp only [PS];refine TK 9 (undef) rfl (Or.inr ⟨by kernel_rfl,rfl⟩) aB ?_;simp only [PS];refine TK 10 (undef) rfl (Or.inr ⟨by kernel_rfl,rfl⟩) aB ?_;simp only [PS];refine TK 11 (undef) rfl (Or.inr ⟨by kernel_rfl,rfl⟩) aB ?_;simp only [PS];refine TY 12 (.bool false) rfl aB ?_;simp only [PS];refine DN ?_;obtain ⟨aN,aK⟩:∃ aN,aN=wr.drew:=⟨_,rfl⟩;have aJ:Below wr.heap.size wr aN:=by rw [aK];exact (Below.refl _ _).drew
    rw [<-aK];have bC:=HX;have aO:=aL;have cL:Below w.heap.size w aN:=aW.trans (aJ.mono aW.size);have bG:=hid (bC.out.below aJ)
    have aP:Hid (∀ w',Below (w.heap.size+1+1+1) aN w'->w'.cell? ⟨w.heap.size,0,none⟩=some (.slice (some ⟨b,o,none⟩) rs.length c)/\w'.cell? ⟨b,o+k*2,none⟩=some (.string s0)/\w'.cell? ⟨b,o+k*2+1,none⟩=some (.string s1)/\w'.cell? ⟨w.heap.size+1,0,none⟩=some (.string aC)/\w'.cell? ⟨w.heap.size+1,1,none⟩=some (.string aD)):=fun w' hb=>aO.out w' ((aJ.mono (Nat.le_of_lt l3)).trans hb)
    clear aK HX aL aW q0 bZ b7 q3 r3 l3 cO cP bC aO aJ aB;generalize aN=wr at *;have HX:=bG;have aL:=aP;clear bG aP;have q3:=HX.out.row.cell 0 _ rfl;have r3:=HX.out.row.froz 0 (by simp);have l3:=HX.out.row.lt;have bZ:=(aL.out _ (Below.refl _ _)).2.2.2.1;have b7:=(aL.out _ (Below.refl _ _)).2.2.2.2;go_wp2_with fail
    by_cases he:s0=aC
    ·have HE:=hid he
     clear he;have cZ:(s0.toList == aC.toList)=true:=by rw [HE.out];simp
     refine wp_region_held_drew (S:=fun w'=>w'.cell? ⟨w.heap.size,0,none⟩=some (.slice (some ⟨b,o,none⟩) rs.length c)/\w'.cell? ⟨b,o+k*2,none⟩=some (.string s0)/\w'.cell? ⟨b,o+k*2+1,none⟩=some (.string s1)/\w'.cell? ⟨w.heap.size+1,0,none⟩=some (.string aC)/\w'.cell? ⟨w.heap.size+1,1,none⟩=some (.string aD)) (by kernel_rfl) (aL.out _ (Below.refl _ _).drew) (fun aB=>?_);refine TY 0 (.pointer (some ⟨w.heap.size,0,none⟩)) rfl aB ?_;simp only [PS];refine TY 1 (.slice (some ⟨b,o,none⟩) rs.length c) rfl aB ?_;simp only [PS];refine TY 2 (.int .i64 (k:Int)) rfl aB ?_;simp only [PS];refine TY 3 (.pointer (some ⟨b,o+k*2,none⟩)) rfl aB ?_;simp only [PS];refine TY 4 (.pointer (some ⟨b,o+k*2,none⟩)) rfl aB ?_;simp only [PS];refine TY 5 (.string s0) rfl aB ?_;simp only [PS];refine TY 6 (.pointer (some ⟨w.heap.size+1,0,none⟩)) rfl aB ?_;simp only [PS];refine TY 7 (.string aC) rfl aB ?_;simp only [PS];refine TY 8 (.bool false) rfl aB ?_
     simp only [PS];refine DN ?_;go_wp2;have he:=HE.out;refine ⟨⟨k+1,by omega,by go_num,by rw [aG.out];simp [xIY,he],.slice va out.length vc,?_⟩,by simp [intOf];omega⟩;have aX:(chW (aC,aD,aI) (rs.take (k+1))).2=out:=by rw [aG.out];simp [xIY,he]
     rw [aX];exact HX.out.below (Below.refl _ _).drew
    ·have HE:=hid he
     clear he;have cZ:(s0.toList == aC.toList)=false:=by rw [beq_eq_false_iff_ne];intro hh;rw [ByteArray.toList_eq,ByteArray.toList_eq] at hh;exact HE.out (ByteArray.ext (Array.ext' hh))
     refine wp_region_held_drew (S:=fun w'=>w'.cell? ⟨w.heap.size,0,none⟩=some (.slice (some ⟨b,o,none⟩) rs.length c)/\w'.cell? ⟨b,o+k*2,none⟩=some (.string s0)/\w'.cell? ⟨b,o+k*2+1,none⟩=some (.string s1)/\w'.cell? ⟨w.heap.size+1,0,none⟩=some (.string aC)/\w'.cell? ⟨w.heap.size+1,1,none⟩=some (.string aD)) (by kernel_rfl) (aL.out _ (Below.refl _ _).drew) (fun aB=>?_);refine TY 0 (.pointer (some ⟨w.heap.size,0,none⟩)) rfl aB ?_;simp only [PS];refine TY 1 (.slice (some ⟨b,o,none⟩) rs.length c) rfl aB ?_;simp only [PS];refine TY 2 (.int .i64 (k:Int)) rfl aB ?_;simp only [PS];refine TY 3 (.pointer (some ⟨b,o+k*2,none⟩)) rfl aB ?_;simp only [PS];refine TY 4 (.pointer (some ⟨b,o+k*2,none⟩)) rfl aB ?_;simp only [PS];refine TY 5 (.string s0) rfl aB ?_;simp only [PS];refine TY 6 (.pointer (some ⟨w.heap.size+1,0,none⟩)) rfl aB ?_;simp only [PS];refine TY 7 (.string aC) rfl aB ?_;simp only [PS];refine TY 8 (.bool true) rfl aB ?_
     simp only [PS];refine DN ?_;obtain ⟨wd,bV⟩:∃ wd,wd=wr.drew:=⟨_,rfl⟩;have cC:Below wr.heap.size wr wd:=by rw [bV];exact (Below.refl _ _).drew
     rw [<-bV];clear bV;have aM:=hid (HX.out.below cC);have qd:=aM.out.row.cell 0 _ rfl;have rd:=aM.out.row.froz 0 (by simp);have ld:=aM.out.row.lt
     have aH:Hid (∀ w',Below (w.heap.size+1+1+1) wd w'->w'.cell? ⟨w.heap.size,0,none⟩=some (.slice (some ⟨b,o,none⟩) rs.length c)/\w'.cell? ⟨b,o+k*2,none⟩=some (.string s0)/\w'.cell? ⟨b,o+k*2+1,none⟩=some (.string s1)/\w'.cell? ⟨w.heap.size+1,0,none⟩=some (.string aC)/\w'.cell? ⟨w.heap.size+1,1,none⟩=some (.string aD)):=fun w' hb=>aL.out w' ((cC.mono (Nat.le_of_lt l3)).trans hb)
     clear aB;go_wp2_with fail;refine wp_region_held_drew (S:=fun w'=>w'.cell? ⟨w.heap.size,0,none⟩=some (.slice (some ⟨b,o,none⟩) rs.length c)/\w'.cell? ⟨b,o+k*2,none⟩=some (.string s0)/\w'.cell? ⟨b,o+k*2+1,none⟩=some (.string s1)/\w'.cell? ⟨w.heap.size+1,0,none⟩=some (.string aC)/\w'.cell? ⟨w.heap.size+1,1,none⟩=some (.string aD)) (by kernel_rfl) (aH.out _ (Below.refl _ _).drew) (fun aB=>?_);refine TY 0 (.pointer (some ⟨w.heap.size+1+1+1,0,none⟩)) rfl aB ?_;simp only [PS];refine TY 2 (.pointer (some ⟨w.heap.size,0,none⟩)) rfl aB ?_;simp only [PS];refine TY 3 (.slice (some ⟨b,o,none⟩) rs.length c) rfl aB ?_;simp only [PS];refine TY 4 (.int .i64 (k:Int)) rfl aB ?_;simp only [PS];refine TY 5 (.pointer (some ⟨b,o+k*2,none⟩)) rfl aB ?_;simp only [PS];refine TY 6 (.agg #[.string s0,.string s1]) rfl aB ?_;simp only [PS];refine wpAnyH_ready (rs:=[1,7]) (by kernel_rfl) (by simp) ?_;refine AllReadyH.cons rfl (fun K hK=>?_) (AllReadyH.cons rfl (fun K hK=>?_) AllReadyH.nil)
     ·go_simp
      refine hK.out _ _ aB (fun _=>?_);clear hK K
      try simp only [PS]
      refine RD 7 rfl (fun K hK=>?_);go_simp;refine hK.out _ _ (aH.out _ ((Below.refl _ _).drew.alloc (Nat.le_of_lt ld) _)) (fun cT=>?_);clear hK K
      try simp only [PS]
      refine RD 8 rfl (fun K hK=>?_);refine step_append_lies _ (by rfl) _ _ _ (by rfl) (w.heap.size+1+1+1+1) 176 i0 (.agg #[.string ByteArray.empty,.string ByteArray.empty]) 2 32 Tryz.underlying55 HI.out.1 HI.out.2.1 HI.out.2.2.1 HI.out.2.2.2 rfl (by omega) (.slice va out.length vc) out.length _ (by rfl) (jcb aM.out.own ((Below.refl _ _).drew.alloc (Nat.le_refl _) _)) ⟨wd.heap.size,0,none⟩ 1 1 [.string s0,.string s1] (by rfl) rfl (World.news_of_block (heap_alloc_new wd.drew _)) (ZNG _ _) (by omega) (by unfold maxLen;(try simp)<;>omega) (by (try simp)<;>omega) (by (try simp)<;>omega) (wd.heap.size+1) (by simp) ?_;intro g9 aQ w9 aE aA aR bQ;have aF:=OutX.push (x:=(s0,s1)) aM.out aE (ZyM aA);have q9:=aF.1.cell 0 _ rfl;have r9:=aF.1.froz 0 (by simp);have l9:=aF.1.lt;have aZ:=hid aF;have aU:Below (w.heap.size+1+1+1) wd w9:=zRE ⟨aA.os,aA.tape,aA.output,Nat.le_trans (by simp) aA.size,fun k hk bU=>(aA.block k (by simp;omega) bU).trans (((Below.refl wd.heap.size wd).drew.alloc (Nat.le_refl _) _).block k hk)⟩ (Nat.le_of_lt ld) (fun k hk=>by have:=(aM.out.own.lt k hk).1;omega)
      clear aE aA aR aF;refine hK.out _ _ (aH.out _ aU) (fun bH=>?_);clear hK K
      try simp only [PS]
      refine TY 9 (.pointer (some ⟨w.heap.size+1+1+1,0,none⟩)) rfl bH ?_;simp only [PS];refine RD 10 rfl (fun K hK=>?_);go_simp;refine hK.out _ _ (aH.out _ (aU.setCell (p:=⟨w.heap.size+1+1+1,0,none⟩) (Nat.le_refl _) _)) (fun cU=>?_);clear hK K
      try simp only [PS]
      refine DN ?_;go_wp2;have he:=HE.out;refine ⟨⟨k+1,by omega,by go_num,by rw [aG.out];simp [xIY,he],.slice (some ⟨g9,0,none⟩) (out.length+1) aQ,?_⟩,by simp [intOf];omega⟩;have aX:(chW (aC,aD,aI) (rs.take (k+1))).2=out++[(s0,s1)]:=by rw [aG.out];simp [xIY,he]
      rw [aX];simpa only [List.length_append,List.length_singleton] using aZ.out.2.1
     ·go_simp
      refine hK.out _ _ (aH.out _ ((Below.refl _ _).drew.alloc (Nat.le_of_lt ld) _)) (fun bI=>?_);clear hK K
      try simp only [PS]
      refine RD 1 rfl (fun K hK=>?_);go_simp;refine hK.out _ _ bI (fun _=>?_);clear hK K
      try simp only [PS]
      refine RD 8 rfl (fun K hK=>?_);refine step_append_lies _ (by rfl) _ _ _ (by rfl) (w.heap.size+1+1+1+1) 176 i0 (.agg #[.string ByteArray.empty,.string ByteArray.empty]) 2 32 Tryz.underlying55 HI.out.1 HI.out.2.1 HI.out.2.2.1 HI.out.2.2.2 rfl (by omega) (.slice va out.length vc) out.length _ (by rfl) (jcb aM.out.own ((Below.refl _ _).drew.alloc (Nat.le_refl _) _)) ⟨wd.heap.size,0,none⟩ 1 1 [.string s0,.string s1] (by rfl) rfl (World.news_of_block (heap_alloc_new wd.drew _)) (ZNG _ _) (by omega) (by unfold maxLen;(try simp)<;>omega) (by (try simp)<;>omega) (by (try simp)<;>omega) (wd.heap.size+1) (by simp) ?_;intro g9 aQ w9 aE aA aR bQ;have aF:=OutX.push (x:=(s0,s1)) aM.out aE (ZyM aA);have q9:=aF.1.cell 0 _ rfl;have r9:=aF.1.froz 0 (by simp);have l9:=aF.1.lt;have aZ:=hid aF;have aU:Below (w.heap.size+1+1+1) wd w9:=zRE ⟨aA.os,aA.tape,aA.output,Nat.le_trans (by simp) aA.size,fun k hk bU=>(aA.block k (by simp;omega) bU).trans (((Below.refl wd.heap.size wd).drew.alloc (Nat.le_refl _) _).block k hk)⟩ (Nat.le_of_lt ld) (fun k hk=>by have:=(aM.out.own.lt k hk).1;omega)
      clear aE aA aR aF;refine hK.out _ _ (aH.out _ aU) (fun bJ=>?_);clear hK K
      try simp only [PS]
      refine TY 9 (.pointer (some ⟨w.heap.size+1+1+1,0,none⟩)) rfl bJ ?_;simp only [PS];refine RD 10 rfl (fun K hK=>?_);go_simp;refine hK.out _ _ (aH.out _ (aU.setCell (p:=⟨w.heap.size+1+1+1,0,none⟩) (Nat.le_refl _) _)) (fun cV=>?_);clear hK K
      try simp only [PS]
      refine DN ?_;go_wp2;have he:=HE.out;refine ⟨⟨k+1,by omega,by go_num,by rw [aG.out];simp [xIY,he],.slice (some ⟨g9,0,none⟩) (out.length+1) aQ,?_⟩,by simp [intOf];omega⟩;have aX:(chW (aC,aD,aI) (rs.take (k+1))).2=out++[(s0,s1)]:=by rw [aG.out];simp [xIY,he]
      rw [aX];simpa only [List.length_append,List.length_singleton] using aZ.out.2.1
   | false =>
    rcases Int.lt_trichotomy (kpc s0 aC) 0 with cE | cE | cE
    ·have aY:Hid (klt aC s0=false):=y6a cE
     have HE:Hid (¬ s0=aC):=fun e=>by rw [e,zB6] at cE;omega
     have dL:Op.bytesLess s0.toList aC.toList=true:=(kHw _ _).1 cE;go_wp2_with fail;refine wp_region_held_drew (S:=fun w'=>w'.cell? ⟨w.heap.size,0,none⟩=some (.slice (some ⟨b,o,none⟩) rs.length c)/\w'.cell? ⟨b,o+k*2,none⟩=some (.string s0)/\w'.cell? ⟨b,o+k*2+1,none⟩=some (.string s1)/\w'.cell? ⟨w.heap.size+1,0,none⟩=some (.string aC)/\w'.cell? ⟨w.heap.size+1,1,none⟩=some (.string aD)) (by kernel_rfl) (aL.out _ (Below.refl _ _).drew) (fun aB=>?_);refine TY 0 (.bool false) rfl aB ?_;simp only [PS];refine TY 1 (.bool true) rfl aB ?_;simp only [PS];refine TY 2 (.bool true) rfl aB ?_;simp only [PS];refine TY 3 (.pointer (some ⟨w.heap.size,0,none⟩)) rfl aB ?_;simp only [PS];refine TY 4 (.slice (some ⟨b,o,none⟩) rs.length c) rfl aB ?_;simp only [PS];refine TY 5 (.int .i64 (k:Int)) rfl aB ?_;simp only [PS];refine TY 6 (.pointer (some ⟨b,o+k*2,none⟩)) rfl aB ?_;simp only [PS];refine TY 7 (.pointer (some ⟨b,o+k*2,none⟩)) rfl aB ?_
     simp only [PS];refine TY 8 (.string s0) rfl aB ?_;simp only [PS];refine TY 9 (.pointer (some ⟨w.heap.size+1,0,none⟩)) rfl aB ?_;simp only [PS];refine TY 10 (.string aC) rfl aB ?_;simp only [PS];refine TY 11 (.bool false) rfl aB ?_;simp only [PS];refine TY 12 (.bool false) rfl aB ?_;simp only [PS];refine DN ?_;obtain ⟨aN,aK⟩:∃ aN,aN=wr.drew:=⟨_,rfl⟩;have aJ:Below wr.heap.size wr aN:=by rw [aK];exact (Below.refl _ _).drew
     rw [<-aK];have bC:=HX;have aO:=aL;have cL:Below w.heap.size w aN:=aW.trans (aJ.mono aW.size);have bG:=hid (bC.out.below aJ)
     have aP:Hid (∀ w',Below (w.heap.size+1+1+1) aN w'->w'.cell? ⟨w.heap.size,0,none⟩=some (.slice (some ⟨b,o,none⟩) rs.length c)/\w'.cell? ⟨b,o+k*2,none⟩=some (.string s0)/\w'.cell? ⟨b,o+k*2+1,none⟩=some (.string s1)/\w'.cell? ⟨w.heap.size+1,0,none⟩=some (.string aC)/\w'.cell? ⟨w.heap.size+1,1,none⟩=some (.string aD)):=fun w' hb=>aO.out w' ((aJ.mono (Nat.le_of_lt l3)).trans hb)
     clear aK HX aL aW q0 bZ b7 q3 r3 l3 cO cP bC aO aJ aB;generalize aN=wr at *;have HX:=bG;have aL:=aP;clear bG aP;have q3:=HX.out.row.cell 0 _ rfl;have r3:=HX.out.row.froz 0 (by simp);have l3:=HX.out.row.lt;have bZ:=(aL.out _ (Below.refl _ _)).2.2.2.1;have b7:=(aL.out _ (Below.refl _ _)).2.2.2.2;go_wp2_with fail;have cZ:(s0.toList == aC.toList)=false:=by rw [beq_eq_false_iff_ne];intro hh;rw [ByteArray.toList_eq,ByteArray.toList_eq] at hh;exact HE.out (ByteArray.ext (Array.ext' hh))
     refine wp_region_held_drew (S:=fun w'=>w'.cell? ⟨w.heap.size,0,none⟩=some (.slice (some ⟨b,o,none⟩) rs.length c)/\w'.cell? ⟨b,o+k*2,none⟩=some (.string s0)/\w'.cell? ⟨b,o+k*2+1,none⟩=some (.string s1)/\w'.cell? ⟨w.heap.size+1,0,none⟩=some (.string aC)/\w'.cell? ⟨w.heap.size+1,1,none⟩=some (.string aD)) (by kernel_rfl) (aL.out _ (Below.refl _ _).drew) (fun aB=>?_);refine TY 0 (.pointer (some ⟨w.heap.size,0,none⟩)) rfl aB ?_;simp only [PS];refine TY 1 (.slice (some ⟨b,o,none⟩) rs.length c) rfl aB ?_;simp only [PS];refine TY 2 (.int .i64 (k:Int)) rfl aB ?_;simp only [PS];refine TY 3 (.pointer (some ⟨b,o+k*2,none⟩)) rfl aB ?_;simp only [PS];refine TY 4 (.pointer (some ⟨b,o+k*2,none⟩)) rfl aB ?_;simp only [PS];refine TY 5 (.string s0) rfl aB ?_;simp only [PS];refine TY 6 (.pointer (some ⟨w.heap.size+1,0,none⟩)) rfl aB ?_;simp only [PS];refine TY 7 (.string aC) rfl aB ?_;simp only [PS];refine TY 8 (.bool true) rfl aB ?_
     simp only [PS];refine DN ?_;obtain ⟨wd,bV⟩:∃ wd,wd=wr.drew:=⟨_,rfl⟩;have cC:Below wr.heap.size wr wd:=by rw [bV];exact (Below.refl _ _).drew
     rw [<-bV];clear bV;have aM:=hid (HX.out.below cC);have qd:=aM.out.row.cell 0 _ rfl;have rd:=aM.out.row.froz 0 (by simp);have ld:=aM.out.row.lt
     have aH:Hid (∀ w',Below (w.heap.size+1+1+1) wd w'->w'.cell? ⟨w.heap.size,0,none⟩=some (.slice (some ⟨b,o,none⟩) rs.length c)/\w'.cell? ⟨b,o+k*2,none⟩=some (.string s0)/\w'.cell? ⟨b,o+k*2+1,none⟩=some (.string s1)/\w'.cell? ⟨w.heap.size+1,0,none⟩=some (.string aC)/\w'.cell? ⟨w.heap.size+1,1,none⟩=some (.string aD)):=fun w' hb=>aL.out w' ((cC.mono (Nat.le_of_lt l3)).trans hb)
     clear aB;go_wp2_with fail;refine wp_region_held_drew (S:=fun w'=>w'.cell? ⟨w.heap.size,0,none⟩=some (.slice (some ⟨b,o,none⟩) rs.length c)/\w'.cell? ⟨b,o+k*2,none⟩=some (.string s0)/\w'.cell? ⟨b,o+k*2+1,none⟩=some (.string s1)/\w'.cell? ⟨w.heap.size+1,0,none⟩=some (.string aC)/\w'.cell? ⟨w.heap.size+1,1,none⟩=some (.string aD)) (by kernel_rfl) (aH.out _ (Below.refl _ _).drew) (fun aB=>?_);refine TY 0 (.pointer (some ⟨w.heap.size+1+1+1,0,none⟩)) rfl aB ?_;simp only [PS];refine TY 2 (.pointer (some ⟨w.heap.size,0,none⟩)) rfl aB ?_;simp only [PS];refine TY 3 (.slice (some ⟨b,o,none⟩) rs.length c) rfl aB ?_;simp only [PS];refine TY 4 (.int .i64 (k:Int)) rfl aB ?_;simp only [PS];refine TY 5 (.pointer (some ⟨b,o+k*2,none⟩)) rfl aB ?_;simp only [PS];refine TY 6 (.agg #[.string s0,.string s1]) rfl aB ?_;simp only [PS];refine wpAnyH_ready (rs:=[1,7]) (by kernel_rfl) (by simp) ?_;refine AllReadyH.cons rfl (fun K hK=>?_) (AllReadyH.cons rfl (fun K hK=>?_) AllReadyH.nil)
     ·go_simp
      refine hK.out _ _ aB (fun _=>?_);clear hK K
      try simp only [PS]
      refine RD 7 rfl (fun K hK=>?_);go_simp;refine hK.out _ _ (aH.out _ ((Below.refl _ _).drew.alloc (Nat.le_of_lt ld) _)) (fun cT=>?_);clear hK K
      try simp only [PS]
      refine RD 8 rfl (fun K hK=>?_);refine step_append_lies _ (by rfl) _ _ _ (by rfl) (w.heap.size+1+1+1+1) 176 i0 (.agg #[.string ByteArray.empty,.string ByteArray.empty]) 2 32 Tryz.underlying55 HI.out.1 HI.out.2.1 HI.out.2.2.1 HI.out.2.2.2 rfl (by omega) (.slice va out.length vc) out.length _ (by rfl) (jcb aM.out.own ((Below.refl _ _).drew.alloc (Nat.le_refl _) _)) ⟨wd.heap.size,0,none⟩ 1 1 [.string s0,.string s1] (by rfl) rfl (World.news_of_block (heap_alloc_new wd.drew _)) (ZNG _ _) (by omega) (by unfold maxLen;(try simp)<;>omega) (by (try simp)<;>omega) (by (try simp)<;>omega) (wd.heap.size+1) (by simp) ?_;intro g9 aQ w9 aE aA aR bQ;have aF:=OutX.push (x:=(s0,s1)) aM.out aE (ZyM aA);have q9:=aF.1.cell 0 _ rfl;have r9:=aF.1.froz 0 (by simp);have l9:=aF.1.lt;have aZ:=hid aF;have aU:Below (w.heap.size+1+1+1) wd w9:=zRE ⟨aA.os,aA.tape,aA.output,Nat.le_trans (by simp) aA.size,fun k hk bU=>(aA.block k (by simp;omega) bU).trans (((Below.refl wd.heap.size wd).drew.alloc (Nat.le_refl _) _).block k hk)⟩ (Nat.le_of_lt ld) (fun k hk=>by have:=(aM.out.own.lt k hk).1;omega)
      clear aE aA aR aF;refine hK.out _ _ (aH.out _ aU) (fun bH=>?_);clear hK K
      try simp only [PS]
      refine TY 9 (.pointer (some ⟨w.heap.size+1+1+1,0,none⟩)) rfl bH ?_;simp only [PS];refine RD 10 rfl (fun K hK=>?_);go_simp;refine hK.out _ _ (aH.out _ (aU.setCell (p:=⟨w.heap.size+1+1+1,0,none⟩) (Nat.le_refl _) _)) (fun cU=>?_);clear hK K
      try simp only [PS]
      refine DN ?_;go_wp2;have he:=HE.out;refine ⟨⟨k+1,by omega,by go_num,by rw [aG.out];simp [xIY,he,aY.out,X7b],.slice (some ⟨g9,0,none⟩) (out.length+1) aQ,?_⟩,by simp [intOf];omega⟩;have aX:(chW (aC,aD,aI) (rs.take (k+1))).2=out++[(s0,s1)]:=by rw [aG.out];simp [xIY,he,aY.out,X7b]
      rw [aX];simpa only [List.length_append,List.length_singleton] using aZ.out.2.1
     ·go_simp
      refine hK.out _ _ (aH.out _ ((Below.refl _ _).drew.alloc (Nat.le_of_lt ld) _)) (fun bI=>?_);clear hK K
      try simp only [PS]
      refine RD 1 rfl (fun K hK=>?_);go_simp;refine hK.out _ _ bI (fun _=>?_);clear hK K
      try simp only [PS]
      refine RD 8 rfl (fun K hK=>?_);refine step_append_lies _ (by rfl) _ _ _ (by rfl) (w.heap.size+1+1+1+1) 176 i0 (.agg #[.string ByteArray.empty,.string ByteArray.empty]) 2 32 Tryz.underlying55 HI.out.1 HI.out.2.1 HI.out.2.2.1 HI.out.2.2.2 rfl (by omega) (.slice va out.length vc) out.length _ (by rfl) (jcb aM.out.own ((Below.refl _ _).drew.alloc (Nat.le_refl _) _)) ⟨wd.heap.size,0,none⟩ 1 1 [.string s0,.string s1] (by rfl) rfl (World.news_of_block (heap_alloc_new wd.drew _)) (ZNG _ _) (by omega) (by unfold maxLen;(try simp)<;>omega) (by (try simp)<;>omega) (by (try simp)<;>omega) (wd.heap.size+1) (by simp) ?_;intro g9 aQ w9 aE aA aR bQ;have aF:=OutX.push (x:=(s0,s1)) aM.out aE (ZyM aA);have q9:=aF.1.cell 0 _ rfl;have r9:=aF.1.froz 0 (by simp);have l9:=aF.1.lt;have aZ:=hid aF;have aU:Below (w.heap.size+1+1+1) wd w9:=zRE ⟨aA.os,aA.tape,aA.output,Nat.le_trans (by simp) aA.size,fun k hk bU=>(aA.block k (by simp;omega) bU).trans (((Below.refl wd.heap.size wd).drew.alloc (Nat.le_refl _) _).block k hk)⟩ (Nat.le_of_lt ld) (fun k hk=>by have:=(aM.out.own.lt k hk).1;omega)
      clear aE aA aR aF;refine hK.out _ _ (aH.out _ aU) (fun bJ=>?_);clear hK K
      try simp only [PS]
      refine TY 9 (.pointer (some ⟨w.heap.size+1+1+1,0,none⟩)) rfl bJ ?_;simp only [PS];refine RD 10 rfl (fun K hK=>?_);go_simp;refine hK.out _ _ (aH.out _ (aU.setCell (p:=⟨w.heap.size+1+1+1,0,none⟩) (Nat.le_refl _) _)) (fun cV=>?_);clear hK K
      try simp only [PS]
      refine DN ?_;go_wp2;have he:=HE.out;refine ⟨⟨k+1,by omega,by go_num,by rw [aG.out];simp [xIY,he,aY.out,X7b],.slice (some ⟨g9,0,none⟩) (out.length+1) aQ,?_⟩,by simp [intOf];omega⟩;have aX:(chW (aC,aD,aI) (rs.take (k+1))).2=out++[(s0,s1)]:=by rw [aG.out];simp [xIY,he,aY.out,X7b]
      rw [aX];simpa only [List.length_append,List.length_singleton] using aZ.out.2.1
    ·have he:=(Z1R _ _).1 cE
     have aY:Hid (klt aC s0=false):=by show _=_;rw [he];exact X7b _
     have HE:=hid he;have dL:s0.toList=aC.toList:=by rw [he]
     clear he;go_wp2_with fail;refine wp_region_held_drew (S:=fun w'=>w'.cell? ⟨w.heap.size,0,none⟩=some (.slice (some ⟨b,o,none⟩) rs.length c)/\w'.cell? ⟨b,o+k*2,none⟩=some (.string s0)/\w'.cell? ⟨b,o+k*2+1,none⟩=some (.string s1)/\w'.cell? ⟨w.heap.size+1,0,none⟩=some (.string aC)/\w'.cell? ⟨w.heap.size+1,1,none⟩=some (.string aD)) (by kernel_rfl) (aL.out _ (Below.refl _ _).drew) (fun aB=>?_);refine TY 0 (.bool false) rfl aB ?_;simp only [PS];refine TY 1 (.bool true) rfl aB ?_;simp only [PS];refine TY 2 (.bool true) rfl aB ?_;simp only [PS];refine TY 3 (.pointer (some ⟨w.heap.size,0,none⟩)) rfl aB ?_;simp only [PS];refine TY 4 (.slice (some ⟨b,o,none⟩) rs.length c) rfl aB ?_;simp only [PS];refine TY 5 (.int .i64 (k:Int)) rfl aB ?_;simp only [PS];refine TY 6 (.pointer (some ⟨b,o+k*2,none⟩)) rfl aB ?_;simp only [PS];refine TY 7 (.pointer (some ⟨b,o+k*2,none⟩)) rfl aB ?_;simp only [PS];refine TY 8 (.string s0) rfl aB ?_
     simp only [PS];refine TY 9 (.pointer (some ⟨w.heap.size+1,0,none⟩)) rfl aB ?_;simp only [PS];refine TY 10 (.string aC) rfl aB ?_;simp only [PS];refine TY 11 (.bool false) rfl aB ?_;simp only [PS];refine TY 12 (.bool false) rfl aB ?_;simp only [PS];refine DN ?_;obtain ⟨aN,aK⟩:∃ aN,aN=wr.drew:=⟨_,rfl⟩;have aJ:Below wr.heap.size wr aN:=by rw [aK];exact (Below.refl _ _).drew
     rw [<-aK];have bC:=HX;have aO:=aL;have cL:Below w.heap.size w aN:=aW.trans (aJ.mono aW.size);have bG:=hid (bC.out.below aJ)
     have aP:Hid (∀ w',Below (w.heap.size+1+1+1) aN w'->w'.cell? ⟨w.heap.size,0,none⟩=some (.slice (some ⟨b,o,none⟩) rs.length c)/\w'.cell? ⟨b,o+k*2,none⟩=some (.string s0)/\w'.cell? ⟨b,o+k*2+1,none⟩=some (.string s1)/\w'.cell? ⟨w.heap.size+1,0,none⟩=some (.string aC)/\w'.cell? ⟨w.heap.size+1,1,none⟩=some (.string aD)):=fun w' hb=>aO.out w' ((aJ.mono (Nat.le_of_lt l3)).trans hb)
     clear aK HX aL aW q0 bZ b7 q3 r3 l3 cO cP bC aO aJ aB;generalize aN=wr at *;have HX:=bG;have aL:=aP;clear bG aP;have q3:=HX.out.row.cell 0 _ rfl;have r3:=HX.out.row.froz 0 (by simp);have l3:=HX.out.row.lt;have bZ:=(aL.out _ (Below.refl _ _)).2.2.2.1;have b7:=(aL.out _ (Below.refl _ _)).2.2.2.2;go_wp2_with fail;have cZ:(s0.toList == aC.toList)=true:=by rw [HE.out];simp
     refine wp_region_held_drew (S:=fun w'=>w'.cell? ⟨w.heap.size,0,none⟩=some (.slice (some ⟨b,o,none⟩) rs.length c)/\w'.cell? ⟨b,o+k*2,none⟩=some (.string s0)/\w'.cell? ⟨b,o+k*2+1,none⟩=some (.string s1)/\w'.cell? ⟨w.heap.size+1,0,none⟩=some (.string aC)/\w'.cell? ⟨w.heap.size+1,1,none⟩=some (.string aD)) (by kernel_rfl) (aL.out _ (Below.refl _ _).drew) (fun aB=>?_);refine TY 0 (.pointer (some ⟨w.heap.size,0,none⟩)) rfl aB ?_;simp only [PS];refine TY 1 (.slice (some ⟨b,o,none⟩) rs.length c) rfl aB ?_;simp only [PS];refine TY 2 (.int .i64 (k:Int)) rfl aB ?_;simp only [PS];refine TY 3 (.pointer (some ⟨b,o+k*2,none⟩)) rfl aB ?_;simp only [PS];refine TY 4 (.pointer (some ⟨b,o+k*2,none⟩)) rfl aB ?_;simp only [PS];refine TY 5 (.string s0) rfl aB ?_;simp only [PS];refine TY 6 (.pointer (some ⟨w.heap.size+1,0,none⟩)) rfl aB ?_;simp only [PS];refine TY 7 (.string aC) rfl aB ?_;simp only [PS];refine TY 8 (.bool false) rfl aB ?_
     simp only [PS];refine DN ?_;go_wp2;have he:=HE.out;refine ⟨⟨k+1,by omega,by go_num,by rw [aG.out];simp [xIY,he,aY.out,X7b],.slice va out.length vc,?_⟩,by simp [intOf];omega⟩;have aX:(chW (aC,aD,aI) (rs.take (k+1))).2=out:=by rw [aG.out];simp [xIY,he,aY.out,X7b]
     rw [aX];exact HX.out.below (Below.refl _ _).drew
    ·have aY:Hid (klt aC s0=true):=QCX cE
     have HE:Hid (¬ s0=aC):=fun e=>by rw [e,zB6] at cE;omega
     have dL:¬ (s0.toList=aC.toList):=fun hh=>by rw [ByteArray.toList_eq,ByteArray.toList_eq] at hh;exact HE.out (ByteArray.ext (Array.ext' hh))
     have eI:Op.bytesLess s0.toList aC.toList=false:=by cases hq:Op.bytesLess s0.toList aC.toList with | false=>rfl | true=>(have:=(kHw _ _).2 hq;omega)
     go_wp2_with fail;refine wp_region_held_drew (S:=fun w'=>w'.cell? ⟨w.heap.size,0,none⟩=some (.slice (some ⟨b,o,none⟩) rs.length c)/\w'.cell? ⟨b,o+k*2,none⟩=some (.string s0)/\w'.cell? ⟨b,o+k*2+1,none⟩=some (.string s1)/\w'.cell? ⟨w.heap.size+1,0,none⟩=some (.string aC)/\w'.cell? ⟨w.heap.size+1,1,none⟩=some (.string aD)) (by kernel_rfl) (aL.out _ (Below.refl _ _).drew) (fun aB=>?_);refine TY 0 (.bool false) rfl aB ?_;simp only [PS];refine TY 1 (.bool true) rfl aB ?_;simp only [PS];refine TY 2 (.bool true) rfl aB ?_;simp only [PS];refine TY 3 (.pointer (some ⟨w.heap.size,0,none⟩)) rfl aB ?_;simp only [PS];refine TY 4 (.slice (some ⟨b,o,none⟩) rs.length c) rfl aB ?_;simp only [PS];refine TY 5 (.int .i64 (k:Int)) rfl aB ?_;simp only [PS];refine TY 6 (.pointer (some ⟨b,o+k*2,none⟩)) rfl aB ?_;simp only [PS];refine TY 7 (.pointer (some ⟨b,o+k*2,none⟩)) rfl aB ?_;simp only [PS];refine TY 8 (.string s0) rfl aB ?_;simp only [PS]
     refine TY 9 (.pointer (some ⟨w.heap.size+1,0,none⟩)) rfl aB ?_;simp only [PS];refine TY 10 (.string aC) rfl aB ?_;simp only [PS];refine TY 11 (.bool true) rfl aB ?_;simp only [PS];refine TY 12 (.bool true) rfl aB ?_;simp only [PS];refine DN ?_;obtain ⟨aN,aK⟩:∃ aN,aN=wr.drew:=⟨_,rfl⟩;have aJ:Below wr.heap.size wr aN:=by rw [aK];exact (Below.refl _ _).drew
     rw [<-aK];have bC:=HX;have aO:=aL;have cL:Below w.heap.size w aN:=aW.trans (aJ.mono aW.size);have bG:=hid (bC.out.below aJ)
     have aP:Hid (∀ w',Below (w.heap.size+1+1+1) aN w'->w'.cell? ⟨w.heap.size,0,none⟩=some (.slice (some ⟨b,o,none⟩) rs.length c)/\w'.cell? ⟨b,o+k*2,none⟩=some (.string s0)/\w'.cell? ⟨b,o+k*2+1,none⟩=some (.string s1)/\w'.cell? ⟨w.heap.size+1,0,none⟩=some (.string aC)/\w'.cell? ⟨w.heap.size+1,1,none⟩=some (.string aD)):=fun w' hb=>aO.out w' ((aJ.mono (Nat.le_of_lt l3)).trans hb)
     clear aK HX aL aW q0 bZ b7 q3 r3 l3 cO cP bC aO aJ aB;generalize aN=wr at *;have HX:=bG;have aL:=aP;clear bG aP;have q3:=HX.out.row.cell 0 _ rfl;have r3:=HX.out.row.froz 0 (by simp);have l3:=HX.out.row.lt;have bZ:=(aL.out _ (Below.refl _ _)).2.2.2.1;have b7:=(aL.out _ (Below.refl _ _)).2.2.2.2;go_wp2_with (at_builtin;refine WAL _ rfl _ _ 55 rfl (w.heap.size+1+1+1+1) Tryz.underlying55 HI.out rfl (by omega) _ out.length _ rfl (HX.out.own.alloc _) ⟨wr.heap.size,0,none⟩ 1 1 [.string aC,.string aD] rfl rfl (World.news_of_block (heap_alloc_new wr _)) (ZNG _ _) (by simp;omega) (wr.heap.size+1) (by simp) ?_;intro g7 aT w7 aV aS cK dK;have aF:=OutX.push (x:=(aC,aD)) HX.out aV aS;have q7:=aF.1.cell 0 _ rfl;have r7:=aF.1.froz 0 (by simp);have l7:=aF.1.lt;have dH:=(cI.out _ aF.2.2).2.2.cell 0 _ rfl;have dV:=(cI.out _ aF.2.2).2.2.froz 0 (by simp);have cS:=hid aF;clear aV aS cK aF);obtain ⟨w8,dO⟩:∃ w8,w8=w7.setCell ⟨w.heap.size+1+1+1,0,none⟩ (.slice (some ⟨g7,0,none⟩) (out.length+1) aT):=⟨_,rfl⟩
     have bW:=cS.out.2.1;rw [<-dO] at bW ⊢;clear dO q7 r7 l7 dH dV cS;have e8:Value.slice (some ⟨g7,0,none⟩) (out.length+1) aT=.slice (some ⟨g7,0,none⟩) (out++[(aC,aD)]).length aT:=by rw [List.length_append];rfl
     rw [e8] at bW;have q8:=bW.row.cell 0 _ rfl;have r8:=bW.row.froz 0 (by simp);have l8:=bW.row.lt;have dI:=hid bW
     have cQ:Hid (∀ w',Below (w.heap.size+1+1+1) w8 w'->w'.cell? ⟨w.heap.size,0,none⟩=some (.slice (some ⟨b,o,none⟩) rs.length c)/\w'.cell? ⟨b,o+k*2,none⟩=some (.string s0)/\w'.cell? ⟨b,o+k*2+1,none⟩=some (.string s1)/\w'.cell? ⟨w.heap.size+1,0,none⟩=some (.string aC)/\w'.cell? ⟨w.heap.size+1,1,none⟩=some (.string aD)):=fun w' hb=>by
      obtain ⟨cW,cJ,cN⟩:=cI.out _ (dI.out.bel.trans hb);have eB:Below w.heap.size w w':=cY.out.trans ((dI.out.bel.trans hb).mono (by omega));obtain ⟨eF,eG⟩:=dZ.out w' eB;exact ⟨cW.cell 0 _ rfl,eF,eG,cJ.cell 0 _ rfl,cJ.cell 1 _ rfl⟩
     clear bW;have cZ:(s0.toList == aC.toList)=false:=by rw [beq_eq_false_iff_ne];intro hh;rw [ByteArray.toList_eq,ByteArray.toList_eq] at hh;exact HE.out (ByteArray.ext (Array.ext' hh))
     refine wp_region_held_drew (S:=fun w'=>w'.cell? ⟨w.heap.size,0,none⟩=some (.slice (some ⟨b,o,none⟩) rs.length c)/\w'.cell? ⟨b,o+k*2,none⟩=some (.string s0)/\w'.cell? ⟨b,o+k*2+1,none⟩=some (.string s1)/\w'.cell? ⟨w.heap.size+1,0,none⟩=some (.string aC)/\w'.cell? ⟨w.heap.size+1,1,none⟩=some (.string aD)) (by kernel_rfl) (cQ.out _ (Below.refl _ _).drew) (fun aB=>?_);refine TY 0 (.pointer (some ⟨w.heap.size,0,none⟩)) rfl aB ?_;simp only [PS];refine TY 1 (.slice (some ⟨b,o,none⟩) rs.length c) rfl aB ?_;simp only [PS];refine TY 2 (.int .i64 (k:Int)) rfl aB ?_;simp only [PS];refine TY 3 (.pointer (some ⟨b,o+k*2,none⟩)) rfl aB ?_;simp only [PS];refine TY 4 (.pointer (some ⟨b,o+k*2,none⟩)) rfl aB ?_;simp only [PS];refine TY 5 (.string s0) rfl aB ?_;simp only [PS];refine TY 6 (.pointer (some ⟨w.heap.size+1,0,none⟩)) rfl aB ?_;simp only [PS];refine TY 7 (.string aC) rfl aB ?_;simp only [PS];refine TY 8 (.bool true) rfl aB ?_
     simp only [PS];refine DN ?_;obtain ⟨wd,bV⟩:∃ wd,wd=w8.drew:=⟨_,rfl⟩;have cC:Below w8.heap.size w8 wd:=by rw [bV];exact (Below.refl _ _).drew
     rw [<-bV];clear bV;have aM:=hid (dI.out.below cC);have qd:=aM.out.row.cell 0 _ rfl;have rd:=aM.out.row.froz 0 (by simp);have ld:=aM.out.row.lt
     have aH:Hid (∀ w',Below (w.heap.size+1+1+1) wd w'->w'.cell? ⟨w.heap.size,0,none⟩=some (.slice (some ⟨b,o,none⟩) rs.length c)/\w'.cell? ⟨b,o+k*2,none⟩=some (.string s0)/\w'.cell? ⟨b,o+k*2+1,none⟩=some (.string s1)/\w'.cell? ⟨w.heap.size+1,0,none⟩=some (.string aC)/\w'.cell? ⟨w.heap.size+1,1,none⟩=some (.string aD)):=fun w' hb=>cQ.out w' ((cC.mono (Nat.le_of_lt l8)).trans hb)
     clear aB;go_wp2_with fail;refine wp_region_held_drew (S:=fun w'=>w'.cell? ⟨w.heap.size,0,none⟩=some (.slice (some ⟨b,o,none⟩) rs.length c)/\w'.cell? ⟨b,o+k*2,none⟩=some (.string s0)/\w'.cell? ⟨b,o+k*2+1,none⟩=some (.string s1)/\w'.cell? ⟨w.heap.size+1,0,none⟩=some (.string aC)/\w'.cell? ⟨w.heap.size+1,1,none⟩=some (.string aD)) (by kernel_rfl) (aH.out _ (Below.refl _ _).drew) (fun aB=>?_);refine TY 0 (.pointer (some ⟨w.heap.size+1+1+1,0,none⟩)) rfl aB ?_;simp only [PS];refine TY 2 (.pointer (some ⟨w.heap.size,0,none⟩)) rfl aB ?_;simp only [PS];refine TY 3 (.slice (some ⟨b,o,none⟩) rs.length c) rfl aB ?_;simp only [PS];refine TY 4 (.int .i64 (k:Int)) rfl aB ?_;simp only [PS];refine TY 5 (.pointer (some ⟨b,o+k*2,none⟩)) rfl aB ?_;simp only [PS];refine TY 6 (.agg #[.string s0,.string s1]) rfl aB ?_;simp only [PS];refine wpAnyH_ready (rs:=[1,7]) (by kernel_rfl) (by simp) ?_;refine AllReadyH.cons rfl (fun K hK=>?_) (AllReadyH.cons rfl (fun K hK=>?_) AllReadyH.nil)
     ·go_simp
      refine hK.out _ _ aB (fun _=>?_);clear hK K
      try simp only [PS]
      refine RD 7 rfl (fun K hK=>?_);go_simp;refine hK.out _ _ (aH.out _ ((Below.refl _ _).drew.alloc (Nat.le_of_lt ld) _)) (fun cT=>?_);clear hK K
      try simp only [PS]
      refine RD 8 rfl (fun K hK=>?_);refine step_append_lies _ (by rfl) _ _ _ (by rfl) (w.heap.size+1+1+1+1) 176 i0 (.agg #[.string ByteArray.empty,.string ByteArray.empty]) 2 32 Tryz.underlying55 HI.out.1 HI.out.2.1 HI.out.2.2.1 HI.out.2.2.2 rfl (by omega) (.slice (some ⟨g7,0,none⟩) (out++[(aC,aD)]).length aT) (out++[(aC,aD)]).length _ (by rfl) (jcb aM.out.own ((Below.refl _ _).drew.alloc (Nat.le_refl _) _)) ⟨wd.heap.size,0,none⟩ 1 1 [.string s0,.string s1] (by rfl) rfl (World.news_of_block (heap_alloc_new wd.drew _)) (ZNG _ _) (by omega) (by unfold maxLen;(try simp)<;>omega) (by (try simp)<;>omega) (by (try simp)<;>omega) (wd.heap.size+1) (by simp) ?_;intro g9 aQ w9 aE aA aR bQ;have aF:=OutX.push (x:=(s0,s1)) aM.out aE (ZyM aA);have q9:=aF.1.cell 0 _ rfl;have r9:=aF.1.froz 0 (by simp);have l9:=aF.1.lt;have aZ:=hid aF;have aU:Below (w.heap.size+1+1+1) wd w9:=zRE ⟨aA.os,aA.tape,aA.output,Nat.le_trans (by simp) aA.size,fun k hk bU=>(aA.block k (by simp;omega) bU).trans (((Below.refl wd.heap.size wd).drew.alloc (Nat.le_refl _) _).block k hk)⟩ (Nat.le_of_lt ld) (fun k hk=>by have:=(aM.out.own.lt k hk).1;omega)
      clear aE aA aR aF;refine hK.out _ _ (aH.out _ aU) (fun bH=>?_);clear hK K
      try simp only [PS]
      refine TY 9 (.pointer (some ⟨w.heap.size+1+1+1,0,none⟩)) rfl bH ?_;simp only [PS];refine RD 10 rfl (fun K hK=>?_);go_simp;refine hK.out _ _ (aH.out _ (aU.setCell (p:=⟨w.heap.size+1+1+1,0,none⟩) (Nat.le_refl _) _)) (fun cU=>?_);clear hK K
      try simp only [PS]
      refine DN ?_;go_wp2;have he:=HE.out;refine ⟨⟨k+1,by omega,by go_num,by rw [aG.out];simp [xIY,he,aY.out,X7b],.slice (some ⟨g9,0,none⟩) ((out++[(aC,aD)]).length+1) aQ,?_⟩,by simp [intOf];omega⟩;have aX:(chW (aC,aD,aI) (rs.take (k+1))).2=(out++[(aC,aD)])++[(s0,s1)]:=by rw [aG.out];simp [xIY,he,aY.out,X7b]
      rw [aX];simpa only [List.length_append,List.length_singleton] using aZ.out.2.1
     ·go_simp
      refine hK.out _ _ (aH.out _ ((Below.refl _ _).drew.alloc (Nat.le_of_lt ld) _)) (fun bI=>?_);clear hK K
      try simp only [PS]
      refine RD 1 rfl (fun K hK=>?_);go_simp;refine hK.out _ _ bI (fun _=>?_);clear hK K
      try simp only [PS]
      refine RD 8 rfl (fun K hK=>?_);refine step_append_lies _ (by rfl) _ _ _ (by rfl) (w.heap.size+1+1+1+1) 176 i0 (.agg #[.string ByteArray.empty,.string ByteArray.empty]) 2 32 Tryz.underlying55 HI.out.1 HI.out.2.1 HI.out.2.2.1 HI.out.2.2.2 rfl (by omega) (.slice (some ⟨g7,0,none⟩) (out++[(aC,aD)]).length aT) (out++[(aC,aD)]).length _ (by rfl) (jcb aM.out.own ((Below.refl _ _).drew.alloc (Nat.le_refl _) _)) ⟨wd.heap.size,0,none⟩ 1 1 [.string s0,.string s1] (by rfl) rfl (World.news_of_block (heap_alloc_new wd.drew _)) (ZNG _ _) (by omega) (by unfold maxLen;(try simp)<;>omega) (by (try simp)<;>omega) (by (try simp)<;>omega) (wd.heap.size+1) (by simp) ?_;intro g9 aQ w9 aE aA aR bQ;have aF:=OutX.push (x:=(s0,s1)) aM.out aE (ZyM aA);have q9:=aF.1.cell 0 _ rfl;have r9:=aF.1.froz 0 (by simp);have l9:=aF.1.lt;have aZ:=hid aF;have aU:Below (w.heap.size+1+1+1) wd w9:=zRE ⟨aA.os,aA.tape,aA.output,Nat.le_trans (by simp) aA.size,fun k hk bU=>(aA.block k (by simp;omega) bU).trans (((Below.refl wd.heap.size wd).drew.alloc (Nat.le_refl _) _).block k hk)⟩ (Nat.le_of_lt ld) (fun k hk=>by have:=(aM.out.own.lt k hk).1;omega)
      clear aE aA aR aF;refine hK.out _ _ (aH.out _ aU) (fun bJ=>?_);clear hK K
      try simp only [PS]
      refine TY 9 (.pointer (some ⟨w.heap.size+1+1+1,0,none⟩)) rfl bJ ?_;simp only [PS];refine RD 10 rfl (fun K hK=>?_);go_simp;refine hK.out _ _ (aH.out _ (aU.setCell (p:=⟨w.heap.size+1+1+1,0,none⟩) (Nat.le_refl _) _)) (fun cV=>?_);clear hK K
      try simp only [PS]
      refine DN ?_;go_wp2;have he:=HE.out;refine ⟨⟨k+1,by omega,by go_num,by rw [aG.out];simp [xIY,he,aY.out,X7b],.slice (some ⟨g9,0,none⟩) ((out++[(aC,aD)]).length+1) aQ,?_⟩,by simp [intOf];omega⟩;have aX:(chW (aC,aD,aI) (rs.take (k+1))).2=(out++[(aC,aD)])++[(s0,s1)]:=by rw [aG.out];simp [xIY,he,aY.out,X7b]
      rw [aX];simpa only [List.length_append,List.length_singleton] using aZ.out.2.1
  ·have eC:k=rs.length:=by omega
   subst eC;rw [List.take_length] at cM;have q2:=cN.cell 0 _ rfl;have r2:=cN.froz 0 (by simp);have l2:=cN.lt;clear cW cJ cN
   cases d with
   | true =>
    have hF:chF (aC,aD,aI) rs=out:=by unfold chF;rw [cM];rfl
    have HF:=hid hF;clear cM hF;go_wp2_with fail;rw [HF.out];refine bodyPost_ret (v:=stV va out.length vc) (by simp [results,Tryz.results90,go_sem,stV,q2]) rfl (Z6i HX.out ?_ ?_ cY.out (by omega))
    ·exact ((Below.refl _ _).setCell (p:=⟨w.heap.size+1+1,0,none⟩) (by show w.heap.size<=w.heap.size+1+1;omega) _)
    ·exact fun k hk=>Below.heap_setCell _ _ _ k (by show _≠w.heap.size+1+1;omega)
   | false =>
    have hF:chF (aC,aD,aI) rs=out++[(aC,aD)]:=by unfold chF;rw [cM];rfl
    have HF:=hid hF;clear cM hF;go_wp2_with (at_builtin;refine WAL _ rfl _ _ 55 rfl (w.heap.size+1+1+1+1) Tryz.underlying55 HI.out rfl (by omega) _ out.length _ rfl (HX.out.own.alloc _) ⟨wr.heap.size,0,none⟩ 1 1 [.string aC,.string aD] rfl rfl (World.news_of_block (heap_alloc_new wr _)) (ZNG _ _) (by simp;omega) (wr.heap.size+1) (by simp) ?_;intro g7 aT w7 aV aS cK dK;have aF:=OutX.push (x:=(aC,aD)) HX.out aV aS;have q7:=aF.1.cell 0 _ rfl;have r7:=aF.1.froz 0 (by simp);have l7:=aF.1.lt;have dH:=(cI.out _ aF.2.2).2.2.cell 0 _ rfl;have dV:=(cI.out _ aF.2.2).2.2.froz 0 (by simp);have cS:=hid aF;clear aV aS cK aF);have dH:w7.cell? ⟨w.heap.size+1+1,0,none⟩=some (.slice none 0 0):=(cI.out _ cS.out.2.2).2.2.cell 0 _ rfl;rw [HF.out];have e8:Value.slice (some ⟨g7,0,none⟩) (out.length+1) aT=.slice (some ⟨g7,0,none⟩) (out++[(aC,aD)]).length aT:=by rw [List.length_append];rfl
    have bW:=cS.out.2.1;rw [e8] at bW;refine bodyPost_ret (v:=stV (some ⟨g7,0,none⟩) (out++[(aC,aD)]).length aT) (by simp [results,Tryz.results90,go_sem,stV,dH]) rfl (Z6i bW ?_ ?_ cY.out (by omega))
    ·rw [<-e8];exact ((Below.refl _ _).setCell (p:=⟨w.heap.size+1+1,0,none⟩) (by show w.heap.size<=w.heap.size+1+1;omega) _)
    ·rw [<-e8];exact fun k hk=>Below.heap_setCell _ _ _ k (by show _≠w.heap.size+1+1;omega)
end Go.Proofs.YtcdojnnkjeakmaaGreatDoor
