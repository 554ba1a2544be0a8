import Derived.Test.YtcdojnnkjeakmaaGreatDoorPrG47
import Derived.Test.YtcdojnnkjeakmaaGreatDoorPrG46
set_option maxHeartbeats 16000000
set_option maxRecDepth 8000
set_option linter.unusedVariables false
set_option linter.unusedSimpArgs false
namespace Go.Proofs.YtcdojnnkjeakmaaGreatDoor
open Go.RowKit
theorem zeros_s (w:World):Calls Tryz.prog 46 #[] w fun e w'=>e=.returned (.string vWo)/\Below w.heap.size w w':=by
 go_enter Tryz.func46,Tryz.ntmps46;go_wp2_with (at_make;refine yIc rfl _ _ 22 rfl 5 _ 1 1 Tryz.underlying22 Q44 64 rfl rfl (by omega) (by omega) ?_;intro wx aA aB aD;rw [QBo _ rfl] at aA;have aC:=run_convert_bytes_arg (P:=Tryz.prog) wx 22 5 Tryz.underlying22 Tryz.underlying5 w.heap.size 0 64 64 (List.replicate 64 0) rfl (fun i hi=>by rw [Nat.zero_add];have h1:=aA.cell i (.int .u8 0) (by rw [List.getElem?_replicate,if_pos hi]);rw [h1,List.getD_eq_getElem?_getD,List.getElem?_replicate,if_pos hi];rfl) 9 Tryz.underlying9;clear aA);go_ret;exact ⟨rfl,aB⟩
theorem new_s (n:Nat) (w:World) (h1:8<=n) (h2:n<=200) :
  Calls Tryz.prog 70 #[.int .i64 (n:Int)] w fun e w'=>∃ g c,e=.returned (Zoj (some ⟨g,0,none⟩) n c none 0 0)/\w.heap.size<=g/\Row w' g ((List.replicate n vWo).map Value.string)/\Below w.heap.size w w':=by
 have aU:(8:Int)<=(n:Int):=by omega
 have aW:(n:Int)<=200:=by omega
 obtain ⟨i0,aI,aK,aJ,aH⟩:=q00 kDp;have HI:=hid (And.intro aI (And.intro aK (And.intro aJ aH)));clear aI aK aJ aH;go_enter Tryz.func70,Tryz.ntmps70;go_wp2;go_loopw [4] (fun i wr=>∃ (k:Nat) (v:Value),k<=n/\i=.int .i64 k/\Dsk w wr w.heap.size (w.heap.size+1) (w.heap.size+1+1) 9 97 v (.slice none 0 0) (List.replicate k vWo) []) (fun i _=>n-(intOf i).toNat)
 case atStart=>exact ⟨0,_,Nat.zero_le _,rfl,Dsk.start _ _ _ _ _⟩
 case round =>
  obtain ⟨k,v,hk,rfl,hd⟩:=hrel
  by_cases aX:k<n
  ·have HD:=hid hd
   have q0:=hd.d0;have q1:=hd.fd0;clear hd;go_wp2_with fail
   go_region_law (first | (refine step_append_lies _ (by rfl) _ _ _ (by rfl) (w.heap.size+1+1) 9 i0 (.string ByteArray.empty) 1 16 Tryz.underlying28 HI.out.1 HI.out.2.1 HI.out.2.2.1 HI.out.2.2.2 rfl (by omega) v (List.replicate k vWo).length ((List.replicate k vWo).map Value.string) (by rfl) HO.out ⟨w2.heap.size,0,none⟩ 1 1 [.string vWo] (by rfl) rfl (World.news_of_block (heap_alloc_new w2 _)) (by intro u hu;simp at hu;subst hu;rfl) (by omega) (by rw [List.length_replicate];unfold maxLen;omega) (by rw [List.length_replicate];omega) (by simp<;>omega) (w2.heap.size+1) (by simp) ?_;intro g cap w3 aE aB aG aO;obtain ⟨q4,q5⟩:=aL.out.grown aB;have aQ:=hid aE;have aN:=hid aB;have aR:=hid aG;clear aE aB aG) | (refine XRf (by rfl) _ _ (by go_simp) (zeros_s _) ?_;rintro e w2 ⟨rfl,aC⟩;refine ⟨_,rfl,?_⟩;have q2:=(HD.out.drew.below aC).d0;have q3:=(HD.out.drew.below aC).fd0;have aP:=(HD.out.drew.below aC).sz;have aM:w.heap.size+1<w2.heap.size:=(by omega);have HO:=hid ((HD.out.drew.below aC).own.alloc (.cells #[.string vWo] 9));have aL:=hid ((HD.out.drew.below aC).alloc (.cells #[.string vWo] 9))))
   all_goals
    have aA:=aL.out.push aQ.out aN.out aR.out (by simp);rw [List.length_replicate,show List.replicate k vWo++[vWo]=List.replicate (k+1) vWo by rw [List.replicate_succ']] at aA;have HP:=hid aA;clear aA;go_wp2;go_roundw
    case rel=>exact ⟨k+1,_,by omega,by go_num,HP.out⟩
    case measure=>simp [intOf];omega
  ·have aS:k=n:=by omega
   subst aS;have aF:=yUO hd.own;rw [List.length_replicate] at aF
   obtain ⟨g,cap,rfl,aV,aT,aD⟩:∃ g cap,v=.slice (some ⟨g,0,none⟩) k cap/\w.heap.size+1+1<=g/\g<wr.heap.size/\Row wr g ((List.replicate k vWo).map Value.string):=by
    rcases aF with h0 | h0
    ·omega
    ·exact h0
   clear aF;have HD:=hid hd.bel;have HR:=hid aD;clear aD;have q0:=hd.d0;have q1:=hd.d1;have q2:=hd.r0;have q3:=hd.r1;have q4:=hd.fr0;have q5:=hd.fr1;clear hd;go_wp2;refine bodyPost_ret (v:=Zoj (some ⟨g,0,none⟩) k cap none 0 0) (by simp [results,Tryz.results70,go_sem,q2,q3]) rfl ⟨g,cap,rfl,by omega,?_,?_⟩
   ·exact (HR.out.other _ (by show w.heap.size≠g;omega) _).other _ (by show w.heap.size≠g;omega) _
   ·exact (HD.out.setCell (Nat.le_refl _) _).setCell (Nat.le_refl _) _
end Go.Proofs.YtcdojnnkjeakmaaGreatDoor
namespace Go.Proofs.YtcdojnnkjeakmaaGreatDoor
abbrev nops (m:Nat):List Value:=List.replicate m (.slice none 0 0)
end Go.Proofs.YtcdojnnkjeakmaaGreatDoor
namespace Go.Proofs.YtcdojnnkjeakmaaGreatDoor.nw
open Go.RowKit
theorem new_s_no (n:Int) (w:World) (h:¬ (8<=n/\n<=200)) :
  Calls Tryz.prog 70 #[.int .i64 n] w fun e w'=>e=.returned (Zoj none 0 0 none 0 0)/\Below w.heap.size w w':=by
 by_cases h8:8<=n
 ·have h2:200<n:=by omega
  go_enter Tryz.func70,Tryz.ntmps70;go_wp2;exact bodyPost_ret (v:=Zoj none 0 0 none 0 0) (by simp [results,Tryz.results70,go_sem]) rfl ⟨rfl,zE5 _ _⟩
 ·go_enter Tryz.func70,Tryz.ntmps70
  go_wp2;exact bodyPost_ret (v:=Zoj none 0 0 none 0 0) (by simp [results,Tryz.results70,go_sem]) rfl ⟨rfl,zE5 _ _⟩
def newSS (n:Int):List ByteArray:=if 8<=n/\n<=200 then List.replicate n.toNat vWo else []
theorem new_s_any (n:Int) (w:World) :
  Calls Tryz.prog 70 #[.int .i64 n] w fun e w'=>∃ a c a' c',e=.returned (Zoj a (newSS n).length c a' 0 c')/\OwnS w' a ((newSS n).map Value.string)/\(∀ g,blk a (newSS n).length=some g->w.heap.size<=g)/\Below w.heap.size w w':=by
 by_cases h:8<=n/\n<=200
 ·obtain ⟨m,rfl⟩:∃ m:Nat,n=(m:Int):=⟨n.toNat,by omega⟩
  have e1:newSS (m:Int)=List.replicate m vWo:=by simp [newSS,h]
  rw [e1];refine (new_s m w (by omega) (by omega)).mono ?_;rintro e w' ⟨g,c,rfl,hg,hr,hb⟩
  exact ⟨_,c,none,0,by rw [List.length_replicate],.inr ⟨g,rfl,hr⟩,fun g' aA=>by rw [List.length_replicate,qdd g 0 m (by omega)] at aA;cases aA;exact hg,hb⟩
 ·have e1:newSS n=[]:=by simp [newSS,h]
  rw [e1];refine (new_s_no n w h).mono ?_;rintro e w' ⟨rfl,hb⟩;exact ⟨none,0,none,0,rfl,.inl rfl,(fun g' aA=>by cases aA),hb⟩
def worldV (wd:Int) (a:Option Addr) (n c:Nat) (a':Option Addr) (c':Nat) (p:Option Addr) (m cp:Nat):Value:=.agg #[.int .i64 wd,.slice a n c,.slice a' 0 c',.bool false,.int .i64 0,.int .i64 0,.int .i64 0,.int .i64 0,.int .i64 0,.int .i64 0,.int .i64 0,.int .i64 0,.int .i64 0,.slice none 0 0,.slice p m cp,.slice none 0 0]
def NwPost (w w':World) (e:Ending) (wd:Int) (ss:List ByteArray) (m:Nat):Prop:=∃ a c a' c' p cp,e=.returned (worldV wd a ss.length c a' c' p m cp)/\OwnS w' a (ss.map Value.string)/\OwnS w' p (nops m)/\(∀ g,blk a ss.length=some g->w.heap.size<=g/\∀ k,blk p m=some k->g≠k)/\(∀ g,blk p m=some g->w.heap.size<=g)/\Below w.heap.size w w'
theorem OwnS.setw {w:World} {a:Option Addr} {cs:List Value} (h:OwnS w a cs) (p:Addr) (hp:∀ g,a=some ⟨g,0,none⟩->cs≠[]->p.block≠g) (v:Value):OwnS (w.setCell p v) a cs:=by
 by_cases h0:cs=[]
 ·exact .inl h0
 ·obtain ⟨g,rfl,hr⟩:=h.resolve_left h0
  exact .inr ⟨g,rfl,hr.other p (hp g rfl h0) v⟩
theorem row_atw {w:World} {A:Array Value} {t:TypeId} {g:Nat} (hg:w.heap.size=g):Row (w.alloc (.cells A t)) g A.toList:=by subst hg;exact xER w A t
theorem nw_s_yes (n wd:Int) (w:World) (hn:8<=n/\n<=200) (h1:1<=wd/\wd<=8) :
  Calls Tryz.prog 59 #[.int .i64 n,.int .i64 wd] w fun e w'=>NwPost w w' e wd (newSS n) 1:=by
 have cI:decide (1<=wd/\wd<=8)=true:=decide_eq_true h1;have hd:decide (8<=n/\n<=200)=true:=decide_eq_true hn;obtain ⟨m,aJ⟩:∃ m:Nat,(newSS n).length=m:=⟨_,rfl⟩;have hm:m≠0:=by rw [<-aJ];unfold newSS;rw [if_pos hn];simp;omega
 have cL:¬ (m:Int)=0:=by omega
 have aI:=hid aJ;go_enter Tryz.func59,Tryz.ntmps59
 go_wp2_with (first | (go_at_call 70;refine (new_s_any n _).mono ?_;rintro e w1 ⟨a,c,a',c',rfl,bC,aV,aA⟩;rw [aJ] at aV ⊢;have bH:=hid bC;have bV:=hid aV;have cJ:=hid (((Below.refl w.heap.size w).alloc (Nat.le_refl _) _).trans (aA.mono (by simp)));have cH:w.heap.size<w1.heap.size:=Nat.lt_of_lt_of_le (by simp) aA.size;have aH:w1.cell? ⟨w.heap.size,0,none⟩=some (.int .i64 0):=(aA.cell (p:=⟨w.heap.size,0,none⟩) (by simp<;>omega)).trans (by go_simp);have cE:w1.frozen? ⟨w.heap.size,0,none⟩=false:=(aA.frozen (p:=⟨w.heap.size,0,none⟩) (by simp<;>omega)).trans (by go_simp);have aY:w1.cell? ⟨w.heap.size,1,none⟩=some (.slice none 0 0):=(aA.cell (p:=⟨w.heap.size,1,none⟩) (by simp<;>omega)).trans (by go_simp);have bW:w1.frozen? ⟨w.heap.size,1,none⟩=false:=(aA.frozen (p:=⟨w.heap.size,1,none⟩) (by simp<;>omega)).trans (by go_simp);have aO:w1.cell? ⟨w.heap.size,2,none⟩=some (.slice none 0 0):=(aA.cell (p:=⟨w.heap.size,2,none⟩) (by simp<;>omega)).trans (by go_simp);have bY:w1.frozen? ⟨w.heap.size,2,none⟩=false:=(aA.frozen (p:=⟨w.heap.size,2,none⟩) (by simp<;>omega)).trans (by go_simp);have aS:w1.cell? ⟨w.heap.size,3,none⟩=some (.bool false):=(aA.cell (p:=⟨w.heap.size,3,none⟩) (by simp<;>omega)).trans (by go_simp);have bZ:w1.frozen? ⟨w.heap.size,3,none⟩=false:=(aA.frozen (p:=⟨w.heap.size,3,none⟩) (by simp<;>omega)).trans (by go_simp);have aN:w1.cell? ⟨w.heap.size,4,none⟩=some (.int .i64 0):=(aA.cell (p:=⟨w.heap.size,4,none⟩) (by simp<;>omega)).trans (by go_simp);have bG:w1.frozen? ⟨w.heap.size,4,none⟩=false:=(aA.frozen (p:=⟨w.heap.size,4,none⟩) (by simp<;>omega)).trans (by go_simp);have aQ:w1.cell? ⟨w.heap.size,5,none⟩=some (.int .i64 0):=(aA.cell (p:=⟨w.heap.size,5,none⟩) (by simp<;>omega)).trans (by go_simp);have cC:w1.frozen? ⟨w.heap.size,5,none⟩=false:=(aA.frozen (p:=⟨w.heap.size,5,none⟩) (by simp<;>omega)).trans (by go_simp);have aP:w1.cell? ⟨w.heap.size,6,none⟩=some (.int .i64 0):=(aA.cell (p:=⟨w.heap.size,6,none⟩) (by simp<;>omega)).trans (by go_simp);have bI:w1.frozen? ⟨w.heap.size,6,none⟩=false:=(aA.frozen (p:=⟨w.heap.size,6,none⟩) (by simp<;>omega)).trans (by go_simp);have aL:w1.cell? ⟨w.heap.size,7,none⟩=some (.int .i64 0):=(aA.cell (p:=⟨w.heap.size,7,none⟩) (by simp<;>omega)).trans (by go_simp);have bQ:w1.frozen? ⟨w.heap.size,7,none⟩=false:=(aA.frozen (p:=⟨w.heap.size,7,none⟩) (by simp<;>omega)).trans (by go_simp);have aW:w1.cell? ⟨w.heap.size,8,none⟩=some (.int .i64 0):=(aA.cell (p:=⟨w.heap.size,8,none⟩) (by simp<;>omega)).trans (by go_simp);have b7:w1.frozen? ⟨w.heap.size,8,none⟩=false:=(aA.frozen (p:=⟨w.heap.size,8,none⟩) (by simp<;>omega)).trans (by go_simp);have aK:w1.cell? ⟨w.heap.size,9,none⟩=some (.int .i64 0):=(aA.cell (p:=⟨w.heap.size,9,none⟩) (by simp<;>omega)).trans (by go_simp);have bJ:w1.frozen? ⟨w.heap.size,9,none⟩=false:=(aA.frozen (p:=⟨w.heap.size,9,none⟩) (by simp<;>omega)).trans (by go_simp);have aE:w1.cell? ⟨w.heap.size,10,none⟩=some (.int .i64 0):=(aA.cell (p:=⟨w.heap.size,10,none⟩) (by simp<;>omega)).trans (by go_simp);have aZ:w1.frozen? ⟨w.heap.size,10,none⟩=false:=(aA.frozen (p:=⟨w.heap.size,10,none⟩) (by simp<;>omega)).trans (by go_simp);have aG:w1.cell? ⟨w.heap.size,11,none⟩=some (.int .i64 0):=(aA.cell (p:=⟨w.heap.size,11,none⟩) (by simp<;>omega)).trans (by go_simp);have aX:w1.frozen? ⟨w.heap.size,11,none⟩=false:=(aA.frozen (p:=⟨w.heap.size,11,none⟩) (by simp<;>omega)).trans (by go_simp);have aF:w1.cell? ⟨w.heap.size,12,none⟩=some (.int .i64 0):=(aA.cell (p:=⟨w.heap.size,12,none⟩) (by simp<;>omega)).trans (by go_simp);have aT:w1.frozen? ⟨w.heap.size,12,none⟩=false:=(aA.frozen (p:=⟨w.heap.size,12,none⟩) (by simp<;>omega)).trans (by go_simp);have aB:w1.cell? ⟨w.heap.size,13,none⟩=some (.slice none 0 0):=(aA.cell (p:=⟨w.heap.size,13,none⟩) (by simp<;>omega)).trans (by go_simp);have aU:w1.frozen? ⟨w.heap.size,13,none⟩=false:=(aA.frozen (p:=⟨w.heap.size,13,none⟩) (by simp<;>omega)).trans (by go_simp);have aC:w1.cell? ⟨w.heap.size,14,none⟩=some (.slice none 0 0):=(aA.cell (p:=⟨w.heap.size,14,none⟩) (by simp<;>omega)).trans (by go_simp);have aM:w1.frozen? ⟨w.heap.size,14,none⟩=false:=(aA.frozen (p:=⟨w.heap.size,14,none⟩) (by simp<;>omega)).trans (by go_simp);have aD:w1.cell? ⟨w.heap.size,15,none⟩=some (.slice none 0 0):=(aA.cell (p:=⟨w.heap.size,15,none⟩) (by simp<;>omega)).trans (by go_simp);have aR:w1.frozen? ⟨w.heap.size,15,none⟩=false:=(aA.frozen (p:=⟨w.heap.size,15,none⟩) (by simp<;>omega)).trans (by go_simp);clear aA bC aV) | (go_at_call 30;refine (X3C _ _).mono ?_;rw [cI];rintro e wz ⟨rfl,b8⟩;rw [b8];clear b8 wz))
 have cF:=bH.out.lt m (fun h0=>qXV (by rw [aI.out];exact h0))
 have cK:∀ g,a=some ⟨g,0,none⟩->(newSS n).map Value.string≠[]->w.heap.size<g:=fun g hg bU=>by
  have:=bV.out g (by subst hg;exact qdd _ _ _ hm);simp at this;omega
 refine bodyPost_ret (v:=worldV wd a m c a' c' (some ⟨w1.heap.size+1,0,none⟩) 1 1) (by simp [results,Tryz.results59,go_sem,worldV,cH,aH,aY,aO,aS,aN,aQ,aP,aL,aW,aK,aE,aG,aF,aB,aC,aD]) rfl ⟨a,c,a',c',_,1,by rw [aI.out],?_,?_,?_,?_,?_⟩
 ·refine OwnS.below ?_ ((Below.refl _ _).alloc (Nat.le_refl _) _);refine OwnS.below ?_ ((Below.refl _ _).alloc (Nat.le_refl _) _)
  iterate 16 (refine OwnS.setw ?_ _ (fun g hg bU=>by have:=cK g hg bU;show w.heap.size≠g;omega) _)
  exact bH.out
 ·exact .inr ⟨w1.heap.size+1,rfl,row_atw (by simp)⟩
 ·intro g hg
  rw [aI.out] at hg;have e1:=bV.out g hg;have e2:=cF g hg;simp at e1
  exact ⟨by omega,fun k hk=>by rw [qdd _ _ _ (by omega)] at hk;cases hk;omega⟩
 ·intro g hg
  rw [qdd _ _ _ (by omega)] at hg;cases hg;omega
 ·refine Below.alloc ?_ (by simp;omega) _;refine Below.alloc ?_ (by simp;omega) _
  iterate 16 (refine Below.setCell ?_ (by show w.heap.size<=w.heap.size;omega) _)
  exact cJ.out
end Go.Proofs.YtcdojnnkjeakmaaGreatDoor.nw
