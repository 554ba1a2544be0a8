import Derived.Test.YtcdojnnkjeakmaaGreatDoorPrFbS
import Derived.Test.YtcdojnnkjeakmaaGreatDoorPrFbI
import Derived.Test.YtcdojnnkjeakmaaGreatDoorPrApS
set_option maxHeartbeats 16000000
set_option maxRecDepth 8000
set_option linter.unusedVariables false
set_option linter.unusedSimpArgs false
namespace Go.Proofs.YtcdojnnkjeakmaaGreatDoor
open Go.RowKit
def xee (aA:List (List Ch)) (n:Int):Int:=(aA.map fun b=>JFN (jvj b).size n).sum
theorem jxV (l:Nat) (n:Int):0<=JFN l n/\JFN l n<=(l:Int)+1:=by
 unfold JFN QgM
 split
 ·split
  ·omega
  ·have h:=Nat.div_le_self (l-1) (56-n).toNat
   obtain ⟨q,hq⟩:∃ q,q=(l-1) / (56-n).toNat:=⟨_,rfl⟩;rw [<-hq] at h ⊢;omega
 ·omega
theorem ks4 (b:List Ch):(jvj b).size<=2460:=by
 unfold jvj
 split
 ·rename_i h
  obtain ⟨h1,h2⟩:=q4Z h;have:=XEt b h2;omega
 ·simp
theorem ZL5 (n:Int):xee [] n=0:=rfl
theorem Zbv (aA:List (List Ch)) (b:List Ch) (n:Int):xee (aA++[b]) n=xee aA n+JFN (jvj b).size n:=by simp [xee]
theorem z3n (aA:List (List Ch)) (n:Int):0<=xee aA n/\xee aA n<=2461*(aA.length:Int):=by
 induction aA with
 | nil=>exact ⟨Int.le_refl _,by simp [xee]⟩
 | cons b r ih =>
  have e:xee (b::r) n=JFN (jvj b).size n+xee r n:=by simp [xee]
  have h1:=jxV (jvj b).size n;have h2:=ks4 b;rw [e,List.length_cons];omega
theorem QsK {α:Type} (l:List α) (k:Nat) (d:α) (h:k<l.length):l.take (k+1)=l.take k++[l.getD k d]:=by
 rw [List.take_succ_eq_append_getElem h];simp [List.getD,h]
theorem JBO (a:Option Addr) (rs:List Pr) (c:Nat) (n:Int) (w:World) (h:Prs w a rs) (hl:rs.length<=1048576) (hs:∀ x∈rs,x.1.size<=1048576/\x.2.size<=1048576) :
  Calls Tryz.prog 75 #[.agg #[.slice a rs.length c],.int .i64 n] w fun e w'=>e=.returned (.int .i64 (xee (ZZG rs) n))/\Below w.heap.size w w':=by
 have aH:Below w.heap.size w (w.alloc (.cells #[.slice a rs.length c] 57)):=(Below.refl _ _).alloc (Nat.le_refl _) _;have hv:=kL5 a rs c (w.alloc (.cells #[.slice a rs.length c] 57)) (h.below aH) hl hs;have HV:=hid hv;have aJ:=hid aH;clear hv aH;obtain ⟨aA,aD⟩:∃ aA,aA=ZZG rs:=⟨_,rfl⟩;have aR:=xwW rs
 have aQ:Hid (∀ b∈aA,b.length<=1048576/\∀ x∈b,x.1.size<=1048576/\x.2.1.size<=1048576):=by
  intro b hb;rw [aD] at hb;obtain ⟨h1,h2⟩:=j2b hb;exact ⟨by omega,fun x hx=>hs _ (h2 x hx)⟩
 rw [<-aD] at HV aR ⊢;clear aD;go_enter Tryz.func75,Tryz.ntmps75;go_wp2_with (go_at_call 91;refine HV.out.mono ?_;rintro e w2 ⟨v,rfl,aE,aK⟩);obtain ⟨va,vc,rfl,aP⟩:=aE.bts;have aS:=hid aP;have aO:=hid (aJ.out.trans (aK.mono aJ.out.size));clear aE aK aP HV aJ;go_loopw [5,7] (fun y i wr=>∃ k:Nat,k<=aA.length/\i=.int .i64 (k:Int)/\y=.int .i64 (xee (aA.take k) n)/\Below w2.heap.size w2 wr) (fun _ i _=>aA.length-(intOf i).toNat)
 case atStart=>exact ⟨0,Nat.zero_le _,rfl,rfl,Below.refl _ _⟩
 case round =>
  obtain ⟨k,hk,rfl,rfl,aC⟩:=hrel
  by_cases aI:k<aA.length
  ·obtain ⟨g,p,cc,rfl,hg,hc,aG⟩:=(aS.out.below aC).at aI
   have aW:(k:Int)<(aA.length:Int):=by omega
   have aZ:(0:Int)<=(k:Int):=by omega
   have aB:=aQ.out (aA.getD k []) (by simp [List.getD,aI]);have aF:=hid (Zbv (aA.take k) (aA.getD k []) n);rw [<-QsK aA k [] aI] at aF;have hR:=z3n (aA.take k) n;have aY:(aA.take k).length<=5:=by rw [List.length_take];omega
   have hP:=jxV (jvj (aA.getD k [])).size n;have hO:=ks4 (aA.getD k []);obtain ⟨b,hb⟩:∃ b,b=aA.getD k []:=⟨_,rfl⟩;rw [<-hb] at hc aG aB aF hP hO;obtain ⟨r,hr⟩:∃ r,r=xee (aA.take k) n:=⟨_,rfl⟩;rw [<-hr] at aF hR ⊢;have HF:=hid (fun W (hW:Chs W p b)=>Qqx p b cc W hW aB.1 aB.2);have HG:=hid (fun W=>J0I (jvj b) n W (by omega));have aU:=hid aG;have aN:=hid aC;obtain ⟨q,hq⟩:∃ q,q=JFN (jvj b).size n:=⟨_,rfl⟩;rw [<-hq] at HG hP aF;obtain ⟨bo,aM⟩:∃ bo,bo=jvj b:=⟨_,rfl⟩;rw [<-aM] at HF HG hP hO;have aX:IntKind.i64.wrap (r+q)=r+q:=by simp [IntKind.wrap,IntKind.bits,IntKind.signed];omega
   clear hb hr hq aM aB aG aC
   go_wp2_with (first | (go_at_call 77;refine (HF.out _ aU.out).mono ?_;rintro e w3 ⟨rfl,aL⟩) | (go_at_call 92;refine (HG.out _).mono ?_;rintro e w4 ⟨rfl,aT⟩))
   refine ⟨⟨k+1,by omega,by go_num,?_,?_⟩,by simp [intOf];omega⟩
   ·rw [aF.out]
   ·exact aN.out.trans ((aL.trans (aT.mono aL.size)).mono aN.out.size)
  ·have aV:k=aA.length:=by omega
   subst aV;go_wp2;go_ret;exact ⟨by simp,aO.out.trans (aC.mono aO.out.size)⟩
def yWg (T H F R:Int):Bool:=decide (0<=T/\T<=1000000000) && decide (0<=R/\R<=60000) && decide (0<=H/\H<=1) && decide (1<=F/\F<=999999000)
def jWr (W S L T H F R U O:Int) (rs:List Pr):Bool:=decide (1<=W/\W<=8) && decide (8<=S/\S<=200) && decide (1<=L/\L<=60000) && yWg T H F R && decide (0<=U/\U<=hv S) && decide (0<=O/\O<=U) && z0q rs && decide (xee (ZZG rs) W<=hv S-1)
theorem Jr0 (n lo hi:Int) (b:Bool) (h:decide (lo<=n/\n<=hi)=b) (w:World):Calls Tryz.prog 87 #[.int .i64 n,.int .i64 lo,.int .i64 hi] w fun e w'=>e=.returned (.bool b)/\w'=w:=by
 subst h
 by_cases h1:lo<=n<;>by_cases h2:n<=hi<;>(go_enter Tryz.func87,Tryz.ntmps87;go_wp2;go_ret;simp [h1,h2])
theorem QU8 {S:Int} (h:8<=S/\S<=200):3<=hv S/\hv S<=99:=by unfold hv;rw [if_pos h];omega
theorem JbE {S:Int} (h:¬ (8<=S/\S<=200)):hv S=0:=by unfold hv;rw [if_neg h]
theorem kJm (W S L T H F R U O:Int) (rs:List Pr) (h:¬ (1<=W/\W<=8)\/¬ (8<=S/\S<=200)\/¬ (1<=L/\L<=60000)\/yWg T H F R=false\/¬ (0<=U/\U<=hv S)\/¬ (0<=O/\O<=U)\/z0q rs=false\/¬ (xee (ZZG rs) W<=hv S-1)):jWr W S L T H F R U O rs=false:=by
 unfold jWr;rcases h with h | h | h | h | h | h | h | h<;>simp [h]
theorem JRN (T H F R:Int) (h:¬ (0<=T/\T<=1000000000)\/¬ (0<=R/\R<=60000)\/¬ (0<=H/\H<=1)\/¬ (1<=F/\F<=999999000)):yWg T H F R=false:=by
 unfold yWg;rcases h with h | h | h | h<;>simp [h]
theorem ZHK (W S L T H F R U O:Int) (a:Option Addr) (rs:List Pr) (c:Nat) (w:World) (h:Prs w a rs) (hl:rs.length<=1048576) (hs:∀ x∈rs,x.1.size<=1048576/\x.2.size<=1048576) :
  Calls Tryz.prog 71 #[QPD W S L T H F R U O a rs.length c] w fun e w'=>e=.returned (.bool (jWr W S L T H F R U O rs))/\Below w.heap.size w w':=by
 unfold QPD
 have aF:∀ o,Below w.heap.size w (w.alloc o):=fun o=>(Below.refl _ _).alloc (Nat.le_refl _) _
 have aB:∀ o p,Below w.heap.size w ((w.alloc o).alloc p):=fun o p=>((Below.refl _ _).alloc (Nat.le_refl _) _).alloc (by simp) _
 have aH:=hid (fun o p=>yPv a rs c ((w.alloc o).alloc p) (h.below (aB o p)) hl hs);have aG:=hid (fun w2 (h2:Below w.heap.size w w2)=>JBO a rs c W w2 (h.below h2) hl hs);obtain ⟨E,HE⟩:∃ E,Hid (E=jWr W S L T H F R U O rs):=⟨_,hid rfl⟩;rw [<-HE.out];obtain ⟨Q,hQ⟩:∃ Q,Q=hv S:=⟨_,rfl⟩;have HQ:=hid hQ;have no:=kJm W S L T H F R U O rs;rw [<-HE.out,<-hQ] at no;have NO:=hid no;clear no hQ
 by_cases c1:1<=W/\W<=8
 case neg =>
  have d1:decide (1<=W/\W<=8)=false:=decide_eq_false c1;have he:E=false:=NO.out (.inl (c1));subst he;go_enter Tryz.func71,Tryz.ntmps71
  go_wp2_with (first | (go_at_call 74;refine (QQj _ _).mono ?_;rw [<-HQ.out];rintro e wz ⟨rfl,aA⟩;rw [aA];clear aA wz) | (go_at_call 30;refine (X3C _ _).mono ?_;rw [d1];rintro e wz ⟨rfl,aA⟩;rw [aA];clear aA wz) | (go_at_call 87;refine (Jr0 _ _ _ _ (by assumption) _).mono ?_;rintro e wz ⟨rfl,aA⟩;rw [aA];clear aA wz))
  go_ret;exact ⟨rfl,aF _⟩
 have d1:decide (1<=W/\W<=8)=true:=decide_eq_true c1
 by_cases c2:8<=S/\S<=200
 case neg =>
  have d2:decide (8<=S/\S<=200)=false:=decide_eq_false c2;have aI:Q=0:=by rw [HQ.out];exact JbE c2
  subst aI;have he:E=false:=NO.out (.inr (.inl (c2)));subst he;go_enter Tryz.func71,Tryz.ntmps71
  go_wp2_with (first | (go_at_call 74;refine (QQj _ _).mono ?_;rw [<-HQ.out];rintro e wz ⟨rfl,aA⟩;rw [aA];clear aA wz) | (go_at_call 30;refine (X3C _ _).mono ?_;rw [d1];rintro e wz ⟨rfl,aA⟩;rw [aA];clear aA wz) | (go_at_call 87;refine (Jr0 _ _ _ _ (by assumption) _).mono ?_;rintro e wz ⟨rfl,aA⟩;rw [aA];clear aA wz))
  go_ret;exact ⟨rfl,aF _⟩
 have d2:decide (8<=S/\S<=200)=true:=decide_eq_true c2;have aM:3<=Q/\Q<=99:=by rw [HQ.out];exact QU8 c2
 have aI:¬ Q=0:=by omega
 by_cases c3:1<=L/\L<=60000
 case neg =>
  have d3:decide (1<=L/\L<=60000)=false:=decide_eq_false c3;have he:E=false:=NO.out (.inr (.inr (.inl (c3))));subst he;go_enter Tryz.func71,Tryz.ntmps71
  go_wp2_with (first | (go_at_call 74;refine (QQj _ _).mono ?_;rw [<-HQ.out];rintro e wz ⟨rfl,aA⟩;rw [aA];clear aA wz) | (go_at_call 30;refine (X3C _ _).mono ?_;rw [d1];rintro e wz ⟨rfl,aA⟩;rw [aA];clear aA wz) | (go_at_call 87;refine (Jr0 _ _ _ _ (by assumption) _).mono ?_;rintro e wz ⟨rfl,aA⟩;rw [aA];clear aA wz))
  go_ret;exact ⟨rfl,aF _⟩
 have d3:decide (1<=L/\L<=60000)=true:=decide_eq_true c3
 by_cases c4:0<=T/\T<=1000000000
 case neg =>
  have d4:decide (0<=T/\T<=1000000000)=false:=decide_eq_false c4;have he:E=false:=NO.out (.inr (.inr (.inr (.inl (JRN T H F R (.inl (c4)))))));subst he;go_enter Tryz.func71,Tryz.ntmps71
  go_wp2_with (first | (go_at_call 74;refine (QQj _ _).mono ?_;rw [<-HQ.out];rintro e wz ⟨rfl,aA⟩;rw [aA];clear aA wz) | (go_at_call 30;refine (X3C _ _).mono ?_;rw [d1];rintro e wz ⟨rfl,aA⟩;rw [aA];clear aA wz) | (go_at_call 87;refine (Jr0 _ _ _ _ (by assumption) _).mono ?_;rintro e wz ⟨rfl,aA⟩;rw [aA];clear aA wz))
  go_ret;exact ⟨rfl,aB _ _⟩
 have d4:decide (0<=T/\T<=1000000000)=true:=decide_eq_true c4
 by_cases c5:0<=H/\H<=1
 case neg =>
  have d5:decide (0<=H/\H<=1)=false:=decide_eq_false c5;have he:E=false:=NO.out (.inr (.inr (.inr (.inl (JRN T H F R (.inr (.inr (.inl (c5)))))))));subst he;go_enter Tryz.func71,Tryz.ntmps71
  go_wp2_with (first | (go_at_call 74;refine (QQj _ _).mono ?_;rw [<-HQ.out];rintro e wz ⟨rfl,aA⟩;rw [aA];clear aA wz) | (go_at_call 30;refine (X3C _ _).mono ?_;rw [d1];rintro e wz ⟨rfl,aA⟩;rw [aA];clear aA wz) | (go_at_call 87;refine (Jr0 _ _ _ _ (by assumption) _).mono ?_;rintro e wz ⟨rfl,aA⟩;rw [aA];clear aA wz))
  go_ret;exact ⟨rfl,aB _ _⟩
 have d5:decide (0<=H/\H<=1)=true:=decide_eq_true c5
 by_cases c6:1<=F/\F<=999999000
 case neg =>
  have d6:decide (1<=F/\F<=999999000)=false:=decide_eq_false c6;have he:E=false:=NO.out (.inr (.inr (.inr (.inl (JRN T H F R (.inr (.inr (.inr (c6)))))))));subst he;go_enter Tryz.func71,Tryz.ntmps71
  go_wp2_with (first | (go_at_call 74;refine (QQj _ _).mono ?_;rw [<-HQ.out];rintro e wz ⟨rfl,aA⟩;rw [aA];clear aA wz) | (go_at_call 30;refine (X3C _ _).mono ?_;rw [d1];rintro e wz ⟨rfl,aA⟩;rw [aA];clear aA wz) | (go_at_call 87;refine (Jr0 _ _ _ _ (by assumption) _).mono ?_;rintro e wz ⟨rfl,aA⟩;rw [aA];clear aA wz))
  go_ret;exact ⟨rfl,aB _ _⟩
 have d6:decide (1<=F/\F<=999999000)=true:=decide_eq_true c6
 by_cases c7:0<=R/\R<=60000
 case neg =>
  have d7:decide (0<=R/\R<=60000)=false:=decide_eq_false c7;have he:E=false:=NO.out (.inr (.inr (.inr (.inl (JRN T H F R (.inr (.inl (c7))))))));subst he;go_enter Tryz.func71,Tryz.ntmps71
  go_wp2_with (first | (go_at_call 74;refine (QQj _ _).mono ?_;rw [<-HQ.out];rintro e wz ⟨rfl,aA⟩;rw [aA];clear aA wz) | (go_at_call 30;refine (X3C _ _).mono ?_;rw [d1];rintro e wz ⟨rfl,aA⟩;rw [aA];clear aA wz) | (go_at_call 87;refine (Jr0 _ _ _ _ (by assumption) _).mono ?_;rintro e wz ⟨rfl,aA⟩;rw [aA];clear aA wz))
  go_ret;exact ⟨rfl,aB _ _⟩
 have d7:decide (0<=R/\R<=60000)=true:=decide_eq_true c7
 by_cases c8:0<=U/\U<=Q
 case neg =>
  have d8:decide (0<=U/\U<=Q)=false:=decide_eq_false c8;have he:E=false:=NO.out (.inr (.inr (.inr (.inr (.inl (c8))))));subst he;go_enter Tryz.func71,Tryz.ntmps71
  go_wp2_with (first | (go_at_call 74;refine (QQj _ _).mono ?_;rw [<-HQ.out];rintro e wz ⟨rfl,aA⟩;rw [aA];clear aA wz) | (go_at_call 30;refine (X3C _ _).mono ?_;rw [d1];rintro e wz ⟨rfl,aA⟩;rw [aA];clear aA wz) | (go_at_call 87;refine (Jr0 _ _ _ _ (by assumption) _).mono ?_;rintro e wz ⟨rfl,aA⟩;rw [aA];clear aA wz))
  go_ret;exact ⟨rfl,aB _ _⟩
 have d8:decide (0<=U/\U<=Q)=true:=decide_eq_true c8
 by_cases c9:0<=O/\O<=U
 case neg =>
  have d9:decide (0<=O/\O<=U)=false:=decide_eq_false c9;have he:E=false:=NO.out (.inr (.inr (.inr (.inr (.inr (.inl (c9)))))));subst he;go_enter Tryz.func71,Tryz.ntmps71
  go_wp2_with (first | (go_at_call 74;refine (QQj _ _).mono ?_;rw [<-HQ.out];rintro e wz ⟨rfl,aA⟩;rw [aA];clear aA wz) | (go_at_call 30;refine (X3C _ _).mono ?_;rw [d1];rintro e wz ⟨rfl,aA⟩;rw [aA];clear aA wz) | (go_at_call 87;refine (Jr0 _ _ _ _ (by assumption) _).mono ?_;rintro e wz ⟨rfl,aA⟩;rw [aA];clear aA wz))
  go_ret;exact ⟨rfl,aB _ _⟩
 have d9:decide (0<=O/\O<=U)=true:=decide_eq_true c9
 cases dS:z0q rs with
 | false =>
  have he:E=false:=NO.out (.inr (.inr (.inr (.inr (.inr (.inr (.inl (dS))))))));subst he;go_enter Tryz.func71,Tryz.ntmps71
  go_wp2_with (first | (go_at_call 74;refine (QQj _ _).mono ?_;rw [<-HQ.out];rintro e wz ⟨rfl,aA⟩;rw [aA];clear aA wz) | (go_at_call 30;refine (X3C _ _).mono ?_;rw [d1];rintro e wz ⟨rfl,aA⟩;rw [aA];clear aA wz) | (go_at_call 87;refine (Jr0 _ _ _ _ (by assumption) _).mono ?_;rintro e wz ⟨rfl,aA⟩;rw [aA];clear aA wz) | (go_at_call 88;refine (aH.out _ _).mono ?_;rw [dS];rintro e w2 ⟨rfl,aC⟩))
  go_ret;exact ⟨rfl,(aB _ _).trans (aC.mono (by simp<;>omega))⟩
 | true =>
  have hR:=z3n (ZZG rs) W;have aN:=xwW rs;obtain ⟨G,HG⟩:∃ G,Hid (G=xee (ZZG rs) W):=⟨_,hid rfl⟩;rw [<-HG.out] at hR aG NO
  have he:E=decide (G<=Q-1):=by
   rw [HE.out,HG.out,HQ.out];rw [HQ.out] at c8;unfold jWr yWg;simp [c1,c2,c3,c4,c5,c6,c7,c8,c9,dS]
  have aL:IntKind.i64.wrap (Q-1)=Q-1:=by simp [IntKind.wrap,IntKind.bits,IntKind.signed];omega
  clear NO HE
  by_cases cG:G<=Q-1
  ·have dG:decide (G<=Q-1)=true:=decide_eq_true cG
   rw [dG] at he;subst he;go_enter Tryz.func71,Tryz.ntmps71
   go_wp2_with (first | (go_at_call 74;refine (QQj _ _).mono ?_;rw [<-HQ.out];rintro e wz ⟨rfl,aA⟩;rw [aA];clear aA wz) | (go_at_call 30;refine (X3C _ _).mono ?_;rw [d1];rintro e wz ⟨rfl,aA⟩;rw [aA];clear aA wz) | (go_at_call 87;refine (Jr0 _ _ _ _ (by assumption) _).mono ?_;rintro e wz ⟨rfl,aA⟩;rw [aA];clear aA wz) | (go_at_call 88;refine (aH.out _ _).mono ?_;rw [dS];rintro e w2 ⟨rfl,aC⟩;have aJ:w2.cell? ⟨w.heap.size,0,none⟩=some (.int .i64 W):=(aC.cell (p:=⟨w.heap.size,0,none⟩) (by simp<;>omega)).trans (by go_simp);have aK:w2.cell? ⟨w.heap.size,9,none⟩=some (.slice a rs.length c):=(aC.cell (p:=⟨w.heap.size,9,none⟩) (by simp<;>omega)).trans (by go_simp);have aD:=hid ((aB _ _).trans (aC.mono (by simp<;>omega)))) | (go_at_call 75;refine (aG.out _ aD.out).mono ?_;rintro e w3 ⟨rfl,aE⟩))
   go_ret;exact ⟨rfl,aD.out.trans (aE.mono aD.out.size)⟩
  ·have dG:decide (G<=Q-1)=false:=decide_eq_false cG
   rw [dG] at he;subst he;go_enter Tryz.func71,Tryz.ntmps71
   go_wp2_with (first | (go_at_call 74;refine (QQj _ _).mono ?_;rw [<-HQ.out];rintro e wz ⟨rfl,aA⟩;rw [aA];clear aA wz) | (go_at_call 30;refine (X3C _ _).mono ?_;rw [d1];rintro e wz ⟨rfl,aA⟩;rw [aA];clear aA wz) | (go_at_call 87;refine (Jr0 _ _ _ _ (by assumption) _).mono ?_;rintro e wz ⟨rfl,aA⟩;rw [aA];clear aA wz) | (go_at_call 88;refine (aH.out _ _).mono ?_;rw [dS];rintro e w2 ⟨rfl,aC⟩;have aJ:w2.cell? ⟨w.heap.size,0,none⟩=some (.int .i64 W):=(aC.cell (p:=⟨w.heap.size,0,none⟩) (by simp<;>omega)).trans (by go_simp);have aK:w2.cell? ⟨w.heap.size,9,none⟩=some (.slice a rs.length c):=(aC.cell (p:=⟨w.heap.size,9,none⟩) (by simp<;>omega)).trans (by go_simp);have aD:=hid ((aB _ _).trans (aC.mono (by simp<;>omega)))) | (go_at_call 75;refine (aG.out _ aD.out).mono ?_;rintro e w3 ⟨rfl,aE⟩))
   go_ret;exact ⟨rfl,aD.out.trans (aE.mono aD.out.size)⟩
def qWl (base:Int) (l:List ByteArray):List OpT:=l.mapIdx fun i p=>(false,base+(i:Int),p)
theorem yzD (base:Int) (l:List ByteArray) (p:ByteArray):qWl base (l++[p])=qWl base l++[(false,base+(l.length:Int),p)]:=by simp [qWl,List.mapIdx_append]
theorem xp9 (base:Int) (l:List ByteArray):(qWl base l).length=l.length:=by simp [qWl]
def zM2 (L F:Int) (n m:Nat) (aA:List ByteArray) (b:List Ch):List ByteArray:=aA++zhI (jvj b) L (F+(aA.length:Int)) n m
def qMR (L F:Int) (n m:Nat) (aA:List (List Ch)):List ByteArray:=aA.foldl (zM2 L F n m) [ZQp 3 L F ByteArray.empty (n:Int)]
theorem jp3 (L F:Int) (n m:Nat):qMR L F n m []=[ZQp 3 L F ByteArray.empty (n:Int)]:=rfl
theorem zpx (L F:Int) (n m:Nat) (aA:List (List Ch)) (b:List Ch):qMR L F n m (aA++[b])=qMR L F n m aA++zhI (jvj b) L (F+((qMR L F n m aA).length:Int)) n m:=by
 unfold qMR;rw [List.foldl_append];rfl
theorem zDE (s:ByteArray) (l f:Int) (n m:Nat) (hm:n+m=56) (h1:1<=n) (h2:n<=8):((zhI s l f n m).length:Int)<=JFN s.size (n:Int):=by
 have e:(56-(n:Int)).toNat=m:=by omega
 unfold JFN;rw [if_pos (by omega),e];unfold zhI
 split
 ·rw [xpG];omega
 ·simp
theorem XPX (L F:Int) (n m:Nat) (hm:n+m=56) (h1:1<=n) (h2:n<=8) (aA:List (List Ch)):((qMR L F n m aA).length:Int)<=1+xee aA (n:Int):=by
 obtain ⟨k,hk⟩:∃ k,k=aA.length:=⟨_,rfl⟩
 induction k generalizing aA with
 | zero=>rw [List.eq_nil_of_length_eq_zero hk.symm,jp3,ZL5];simp
 | succ k ih =>
  obtain ⟨b,bs,rfl⟩:∃ b bs,aA=bs++[b]:=by
   rcases List.eq_nil_or_concat aA with h | ⟨l,a,h⟩
   ·subst h;simp at hk
   ·exact ⟨a,l,by simpa using h⟩
  have:=ih bs (by simp at hk;omega);rw [zpx,Zbv,List.length_append];have:=zDE (jvj b) L (F+((qMR L F n m bs).length:Int)) n m hm h1 h2;omega
theorem jhn (aA:List (List Ch)) (k:Nat) (n:Int):xee (aA.take k) n<=xee aA n:=by
 have e:xee aA n=xee (aA.take k) n+xee (aA.drop k) n:=by
  unfold xee;rw [<-List.sum_append,<-List.map_append,List.take_append_drop]
 have:=(z3n (aA.drop k) n).1;omega
def z5m (W S L T H F:Int) (rs:List Pr):Prop:=(1<=W/\W<=8)/\(8<=S/\S<=200)/\(1<=L/\L<=60000)/\(0<=T/\T<=1000000000)/\(0<=H/\H<=1)/\(1<=F/\F<=999999000)/\xee (ZZG rs) W<=hv S-1
def j5U (S T F:Int):Bool:=decide (T+1<=1000000000/\F+hv S<=999999000)
def mvD (W S L T H F:Int) (rs:List Pr):Dd:=⟨0,W,S,L,T+1,1-H,F+hv S,L,((qMR L (F+hv S) W.toNat (56-W.toNat) (ZZG rs)).length:Int),0,rs,qWl (2+(1-H)*hv S) (qMR L (F+hv S) W.toNat (56-W.toNat) (ZZG rs))++[(true,0,ByteArray.empty),(false,(T+1) % 2,QCt (T+1) (1-H) (F+hv S) L W),(true,0,ByteArray.empty)]⟩
def kGX (W S L T H F:Int) (rs:List Pr):Dd:=if j5U S T F=true then mvD W S L T H F rs else noD 4
def JfS (W S L T H F R U O:Int) (rs:List Pr):Dd:=if jWr W S L T H F R U O rs=true then kGX W S L T H F rs else noD 1
theorem vIj {W S L T H F R U O:Int} {rs:List Pr} (h:jWr W S L T H F R U O rs=true):z5m W S L T H F rs:=by
 unfold jWr yWg at h;simp only [Bool.and_eq_true,decide_eq_true_eq] at h;obtain ⟨⟨⟨⟨⟨⟨⟨h1,h2⟩,h3⟩,⟨⟨h4,_⟩,h5⟩,h6⟩,_⟩,_⟩,_⟩,h7⟩:=h;exact ⟨h1,h2,h3,h4,h5,h6,h7⟩
theorem yV3 (W S L T H F R U O:Int) (rs:List Pr) (hl:rs.length<=1048576):(JfS W S L T H F R U O rs).rs.length<=1048576/\(JfS W S L T H F R U O rs).ops.length<=1000:=by
 unfold JfS kGX
 cases h:jWr W S L T H F R U O rs with
 | false=>simp [noD]
 | true =>
  cases h2:j5U S T F with
  | false=>simp [noD]
  | true =>
   obtain ⟨⟨h1,aA⟩,h3,h4,h5,h6,h7,h8⟩:=vIj h;have hq:=QU8 h3;have hm:=XPX L (F+hv S) W.toNat (56-W.toNat) (by omega) (by omega) (by omega) (ZZG rs);rw [show ((W.toNat:Nat):Int)=W by omega] at hm;simp only [if_true,mvD,List.length_append,xp9];refine ⟨hl,?_⟩;simp;omega
def Qzi (w w':World) (e:Ending) (rs:List Pr) (aA:Int):Prop:=∃ a c,e=.returned (.tuple #[stV a rs.length c,.int .i64 aA])/\rs.length<=c/\OwnS w' a (qJS rs)/\(∀ g,blk a rs.length=some g->w.heap.size<=g)/\Below w.heap.size w w'
theorem xnJ {w w':World} {e:Ending} {a:Option Addr} {c:Nat} {aA:Int} (he:e=.returned (.tuple #[stV a 0 c,.int .i64 aA])) (hb:Below w.heap.size w w'):Qzi w w' e [] aA:=⟨a,c,he,Nat.zero_le _,.inl rfl,fun g h=>(by cases h),hb⟩
theorem OwnS.setA {w:World} {a:Option Addr} {cs:List Value} (h:OwnS w a cs) (p:Addr) (hp:∀ g,a=some ⟨g,0,none⟩->cs≠[]->p.block≠g) (v:Value):OwnS (w.setCell p v) a cs:=by
 by_cases h0:cs=[]
 ·exact .inl h0
 ·obtain ⟨g,rfl,hr⟩:=h.resolve_left h0
  exact .inr ⟨g,rfl,hr.other p (hp g rfl h0) v⟩
theorem OwnS.prsA {w:World} {a:Option Addr} {rs:List Pr} (h:OwnS w a (qJS rs)):Prs w a rs:=by
 rcases h with h | ⟨g,rfl,h⟩
 ·exact .inl (by have:=congrArg List.length h;rw [vzd,List.length_nil] at this;exact List.eq_nil_of_length_eq_zero (by omega))
 ·exact h.prs
theorem ZDV {rs:List Pr} (h:qJS rs≠[]):rs.length≠0:=fun e=>h (by rw [List.eq_nil_of_length_eq_zero e];rfl)
theorem zg0 (a:Option Addr) (rs:List Pr) (c:Nat) (a2:Option Addr) (b:List Ch) (c2:Nat) (w:World) (h:Prs w a rs) (hl:rs.length<=1048576) (hs:∀ x∈rs,x.1.size<=1048576/\x.2.size<=1048576) (h2:Chs w a2 b) (dI:b.length<=1048576) (cM:∀ x∈b,x.1.size<=1048576/\x.2.1.size<=1048576) :
  Calls Tryz.prog 73 #[stV a rs.length c,.slice a2 b.length c2] w fun e w'=>Qzi w w' e (apR rs b) (apC rs b):=by
 have aE:∀ o1 o2,Below w.heap.size w ((w.alloc o1).alloc o2):=fun o1 o2=>((Below.refl _ _).alloc (Nat.le_refl _) _).alloc (by simp) _
 have aP:=hid (fun w' h'=>yPv a rs c w' h' hl hs);have aR:=hid (fun w' h'=>xly a2 b c2 w' h' dI cM);unfold stV;unfold apR apC
 cases hok:z0q rs with
 | false =>
  rw [hok] at aP;simp only [Bool.false_and,Bool.false_eq_true,if_false];rw [if_neg (by omega)];go_enter Tryz.func73,Tryz.ntmps73;go_wp2_with (go_at_call 88;refine (aP.out _ (h.below (aE _ _))).mono ?_;rintro e w3 ⟨rfl,aA⟩;have q1:w3.cell? ⟨w.heap.size+1,0,none⟩=some (.slice none 0 0):=(aA.cell (p:=⟨w.heap.size+1,0,none⟩) (by simp)).trans (by go_simp);have f1:w3.frozen? ⟨w.heap.size+1,0,none⟩=false:=(aA.frozen (p:=⟨w.heap.size+1,0,none⟩) (by simp)).trans (by go_simp);have l1:w.heap.size+1<w3.heap.size:=Nat.lt_of_lt_of_le (by simp) aA.size);refine bodyPost_ret (v:=.tuple #[stV none 0 0,.int .i64 1]) (by simp [results,Tryz.results73,go_sem,stV,q1]) rfl (xnJ rfl ?_);exact ((aE _ _).trans (aA.mono (by simp;omega))).setCell (p:=⟨w.heap.size+1,0,none⟩) (by show w.heap.size<=w.heap.size+1;omega) _
 | true =>
  rw [hok] at aP;simp only [Bool.true_and]
  cases hokb:kpJ b with
  | false =>
   rw [hokb] at aR;simp only [Bool.false_eq_true,if_false];rw [if_neg (by omega)];go_enter Tryz.func73,Tryz.ntmps73
   go_wp2_with (first | (go_at_call 88;refine (aP.out _ (h.below (aE _ _))).mono ?_;rintro e w3 ⟨rfl,aA⟩;have aH:=hid aA;clear aA) | (go_at_call 72;refine (aR.out _ (h2.below ((aE _ _).trans (aH.out.mono (by simp;omega))))).mono ?_;rintro e w4 ⟨rfl,aU⟩;have aA:=aH.out;have aC:=aA.trans (aU.mono aA.size);have q1:w4.cell? ⟨w.heap.size+1,0,none⟩=some (.slice none 0 0):=(aC.cell (p:=⟨w.heap.size+1,0,none⟩) (by simp)).trans (by go_simp);have f1:w4.frozen? ⟨w.heap.size+1,0,none⟩=false:=(aC.frozen (p:=⟨w.heap.size+1,0,none⟩) (by simp)).trans (by go_simp);have l1:w.heap.size+1<w4.heap.size:=Nat.lt_of_lt_of_le (by simp) aC.size))
   refine bodyPost_ret (v:=.tuple #[stV none 0 0,.int .i64 1]) (by simp [results,Tryz.results73,go_sem,stV,q1]) rfl (xnJ rfl ?_);exact ((aE _ _).trans (aC.mono (by simp;omega))).setCell (p:=⟨w.heap.size+1,0,none⟩) (by show w.heap.size<=w.heap.size+1;omega) _
  | true =>
   rw [hokb] at aR;simp only [if_true];have dR:rs.length<=100:=(Jne hok).1;have cV:b.length<=20:=(q4Z hokb).1.2;have bQ:=hid (fun w' h'=>Znr a rs c w' h' hl);unfold XIH stV at bQ;have cY:=hid (Q4i rs b);go_enter Tryz.func73,Tryz.ntmps73
   go_wp2_with (first | (go_at_call 88;refine (aP.out _ (h.below (aE _ _))).mono ?_;rintro e w3 ⟨rfl,aA⟩;have aH:=hid aA;clear aA) | (go_at_call 72;refine (aR.out _ (h2.below ((aE _ _).trans (aH.out.mono (by simp;omega))))).mono ?_;rintro e w4 ⟨rfl,aU⟩;have aO:=hid (aH.out.trans (aU.mono aH.out.size));clear aU;have q0:w4.cell? ⟨w.heap.size,0,none⟩=some (.slice a rs.length c):=(aO.out.cell (p:=⟨w.heap.size,0,none⟩) (by simp;omega)).trans (by go_simp)) | (go_at_call 58;refine (bQ.out _ (h.below ((aE _ _).trans (aO.out.mono (by simp;omega))))).mono ?_;rintro e w5 ⟨a5,c5,rfl,cP,bW,cF,bJ⟩;have cH:=hid (aO.out.trans (bJ.mono aO.out.size));have b7:=hid bW;have aX:=cP;have cK:=hid cF;have bH:=hid bJ.size;clear bW cF bJ))
   have dO:w.heap.size+1<w4.heap.size:=by have:=aO.out.size;simp at this;omega
   have dK:w4.heap.size<=w5.heap.size:=bH.out;have aG:Hid (Below w.heap.size w w5):=(aE _ _).trans (cH.out.mono (by simp;omega))
   have cW:Hid (∀ w',Below w5.heap.size w5 w'->Row w' (w.heap.size+1) [.slice none 0 0]):=fun w' hb=>((zBX (w:=w.alloc (.cells #[.slice a rs.length c] 57)) (A:=#[.slice none 0 0]) (t:=57) (g:=w.heap.size+1) (by simp)).below cH.out).below hb
   go_loopw [7] (fun i wr=>∃ k:Nat,k<=b.length/\i=.int .i64 (k:Int)/\∃ va vc,Row wr w5.heap.size [.slice va (apU rs (b.take k)).length vc]/\(apU rs (b.take k)).length<=vc/\OwnS wr va (qJS (apU rs (b.take k)))/\(∀ g,blk va (apU rs (b.take k)).length=some g->w.heap.size+1<g/\g≠w5.heap.size)/\Below w5.heap.size w5 wr) (fun i _=>b.length-(intOf i).toNat)
   case atStart=>exact ⟨0,Nat.zero_le _,rfl,a5,c5,xER w5 _ _,aX,b7.out.below ((Below.refl _ _).alloc (Nat.le_refl _) _),fun g hg=>by have h1:=cK.out g hg;have h2:=b7.out.lt rs.length (fun h e=>h (by have:=congrArg List.length e;rw [vzd,List.length_nil] at this;omega)) g hg;omega,(Below.refl _ _).alloc (Nat.le_refl _) _⟩
   case round =>
    obtain ⟨k,hk,rfl,va,vc,aL,bI,cC,bV,bC⟩:=hrel;have hN:=cY.out k;have bZ:=aL.cell 0 _ rfl;have dM:=aL.froz 0 (by simp);have dQ:=aL.lt;have dH:=bC.size;have bG:=hid aL;have aV:=hid cC;have aT:=hid bV;have aK:=hid bC;clear aL cC bV bC
    by_cases aY:k<b.length
    ·obtain ⟨bb,oo,s0,s1,g0,rfl,cO,cJ,dE,HS⟩:=(h2.below (aG.out.trans (aK.out.mono aG.out.size))).at aY
     have aF:bb<w.heap.size:=by
      rcases h2 with h | ⟨b',o',h1,h2,_⟩
      ·subst h;simp at aY
      ·cases h1;exact h2
     have cS:(k:Int)<(b.length:Int):=by omega
     have dL:(0:Int)<=(k:Int):=by omega
     have b8:apU rs (b.take (k+1))=chF (s0,s1,g0) (apU rs (b.take k)):=by rw [k53 b k (ByteArray.empty,ByteArray.empty,false) aY,JDX,<-HS.out]
     have aM:=hid b8;have aW:=hid (fun W (hW:Prs W va (apU rs (b.take k)))=>qMu va (apU rs (b.take k)) vc s0 s1 g0 W hW (by omega));obtain ⟨bU,aI⟩:∃ bU,bU=apU rs (b.take k):=⟨_,rfl⟩;rw [<-aI] at aM aW bG aV aT bZ hN bI;clear b8 aI HS;unfold stV XIH at aW
     have HT:Hid (∀ w',Below w.heap.size wr w'->w'.cell? ⟨bb,oo+k*3,none⟩=some (.string s0)/\w'.cell? ⟨bb,oo+k*3+1,none⟩=some (.string s1)/\w'.cell? ⟨bb,oo+k*3+2,none⟩=some (.bool g0)):=fun w' hb=>⟨(hb.cell (p:=⟨bb,oo+k*3,none⟩) aF).trans cO,(hb.cell (p:=⟨bb,oo+k*3+1,none⟩) aF).trans cJ,(hb.cell (p:=⟨bb,oo+k*3+2,none⟩) aF).trans dE⟩
     have bY:w.heap.size<=wr.heap.size:=by omega
     go_wp2_with fail;refine wp_region_held_drew (S:=fun w'=>w'.cell? ⟨bb,oo+k*3,none⟩=some (.string s0)/\w'.cell? ⟨bb,oo+k*3+1,none⟩=some (.string s1)/\w'.cell? ⟨bb,oo+k*3+2,none⟩=some (.bool g0)) (by kernel_rfl) (HT.out _ (Below.refl _ _).drew) (fun aJ=>?_);refine TY 1 (.slice (some ⟨bb,oo,none⟩) b.length c2) rfl aJ (TY 2 (.int .i64 (k:Int)) rfl aJ (TY 3 (.pointer (some ⟨bb,oo+k*3,none⟩)) rfl aJ (TY 4 (.agg #[.string s0,.string s1,.bool g0]) rfl aJ ?_)));simp only [PS];refine RD 0 rfl (fun K hK=>?_);go_simp;refine hK.out _ _ aJ (fun _=>?_);clear hK K
     try simp only [PS]
     refine RD 5 rfl (fun K hK=>?_);refine XRf (by rfl) _ _ (by go_simp) (aW.out _ ((aV.out.below (Below.refl _ _).drew).prsA)) ?_;rintro e w7 ⟨a7,c7,rfl,cZ,cI,cE,dJ⟩;refine ⟨_,rfl,?_⟩;have aB:Below wr.heap.size wr w7:=(Below.refl _ _).drew.trans dJ;have aS:=bG.out.below aB;have q7:=aS.cell 0 _ rfl;have f7:=aS.froz 0 (by simp);have l7:=aS.lt;refine hK.out _ _ (HT.out _ (aB.mono bY)) (fun cL=>?_);clear hK K
     try simp only [PS]
     refine RD 6 rfl (fun K hK=>?_);go_simp;refine hK.out _ _ (HT.out _ ((aB.mono bY).setCell (p:=⟨w5.heap.size,0,none⟩) (by show w.heap.size<=w5.heap.size;omega) _)) (fun cT=>?_);clear hK K
     try simp only [PS]
     refine DN ?_;go_wp2;refine ⟨⟨k+1,by omega,by go_num,a7,c7,?_,?_,?_,?_,?_⟩,by simp [intOf];omega⟩
     ·rw [aM.out];exact aS.set 0 (by simp) _
     ·rw [aM.out];exact cZ
     ·rw [aM.out];exact cI.setA _ (fun g hg aZ=>by have:wr.heap.size<=g:=cE g (by subst hg;exact qdd _ _ _ (ZDV aZ));show w5.heap.size≠g;omega) _
     ·rw [aM.out];exact fun g hg=>by have:wr.heap.size<=g:=cE g hg;omega
     ·exact (aK.out.trans (aB.mono dH)).setCell (p:=⟨w5.heap.size,0,none⟩) (Nat.le_refl _) _
    ·have cN:k=b.length:=by omega
     subst cN;have aQ:=cW.out _ aK.out;have q1:=aQ.cell 0 _ rfl;have f1:=aQ.froz 0 (by simp);have l1:=aQ.lt;have dN:w.heap.size+1≠w5.heap.size:=by omega
     have cU:¬ w5.heap.size=w.heap.size+1:=by omega
     rw [List.take_length] at bZ bI bG aV aT;clear aQ hN
     by_cases aD:(apU rs b).length<=100
     ·have cQ:=hid aD
      have aN:((apU rs b).length:Int)<=100:=by omega
      clear aD;go_wp2_with fail;refine bodyPost_ret (v:=.tuple #[stV va (apU rs b).length vc,.int .i64 0]) (by simp [results,Tryz.results73,go_sem,stV,q1]) rfl ⟨va,vc,rfl,bI,?_,fun g hg=>by have:=(aT.out g hg).1;omega,?_⟩
      ·exact aV.out.setA _ (fun g hg aZ=>by have:=(aT.out g (by subst hg;exact qdd _ _ _ (ZDV aZ))).1;show w.heap.size+1≠g;omega) _
      ·exact (aG.out.trans (aK.out.mono aG.out.size)).setCell (p:=⟨w.heap.size+1,0,none⟩) (by show w.heap.size<=w.heap.size+1;omega) _
     ·have cQ:=hid aD
      have aN:¬ ((apU rs b).length:Int)<=100:=by omega
      clear aD;go_wp2_with fail;refine bodyPost_ret (v:=.tuple #[stV none 0 0,.int .i64 2]) (by simp [results,Tryz.results73,go_sem,stV,q1]) rfl (xnJ rfl ?_);exact (aG.out.trans (aK.out.mono aG.out.size)).setCell (p:=⟨w.heap.size+1,0,none⟩) (by show w.heap.size<=w.heap.size+1;omega) _
def QUx (W S L T H F R U O:Int) (rs:List Pr) (b:List Ch):Dd :=
 if (jWr W S L T H F R U O rs && kpJ b)=true then
  if apC rs b=0 then
   if xee (ZZG (apR rs b)) W<=hv S-1 then
    if JFN (jvj b).size W<=hv S-U then
     ⟨0,W,S,L,T,H,F,R,U+JFN (jvj b).size W,O+JFN (jvj b).size W,apR rs b,qWl (2+H*hv S+U) (zhI (jvj b) L (F+U) W.toNat (56-W.toNat))⟩
    else noD 4
   else noD 3
  else noD 2
 else noD 1
theorem yGh (s:ByteArray) (l f:Int) (n m:Nat) (hm:n+m=56) (h1:1<=n) (h2:n<=8) (hl:1<=l/\l<=60000) (hf:1<=f) (hN:f+JFN s.size (n:Int)<=1000000001):((zhI s l f n m).length:Int)=JFN s.size (n:Int):=by
 have e:(56-(n:Int)).toNat=m:=by omega
 unfold JFN at hN ⊢;rw [if_pos (by omega),e] at hN ⊢;rw [yE2 rfl (by omega),xpG]
theorem zpD (l:Nat) (n:Int) (h1:1<=n) (h2:n<=8):0<=JFN l n/\JFN l n<=(l:Int) / 48+1:=by
 unfold JFN;rw [if_pos ⟨h1,h2⟩];unfold QgM
 split
 ·rename_i h;subst h;simp
 ·have hm:48<=(56-n).toNat:=by omega
  have:(l-1) / (56-n).toNat<=l / 48:=Nat.le_trans (Nat.div_le_div_right (by omega)) (Nat.div_le_div_left hm (by omega));obtain ⟨z,hz⟩:∃ z,z=(l-1) / (56-n).toNat:=⟨_,rfl⟩;rw [<-hz] at this ⊢;omega
theorem qTq {W S L T H F R U O:Int} {rs:List Pr} (h:jWr W S L T H F R U O rs=true):(1<=W/\W<=8)/\(8<=S/\S<=200)/\(1<=L/\L<=60000)/\(0<=T/\T<=1000000000)/\(0<=H/\H<=1)/\(1<=F/\F<=999999000)/\(0<=U/\U<=hv S)/\(0<=O/\O<=U)/\z0q rs=true:=by
 unfold jWr yWg at h;simp only [Bool.and_eq_true,decide_eq_true_eq] at h;obtain ⟨⟨⟨⟨⟨⟨⟨h1,h2⟩,h3⟩,⟨⟨h4,_⟩,h5⟩,h6⟩,h7⟩,h8⟩,h9⟩,_⟩:=h;exact ⟨h1,h2,h3,h4,h5,h6,h7,h8,h9⟩
theorem JrM (rs:List Pr) (b:List Ch):(apR rs b).length<=100:=by
 unfold apR
 by_cases hc:apC rs b=0
 ·rw [if_pos hc]
  unfold apC at hc
  by_cases h1:(z0q rs && kpJ b)=true
  ·rw [if_pos h1] at hc
   by_cases h2:(apU rs b).length<=100
   ·exact h2
   ·rw [if_neg h2] at hc;omega
  ·rw [if_neg h1] at hc;omega
 ·rw [if_neg hc];simp
theorem zcv (c:Ch):∀ (rs:List Pr) (k:Nat),k=rs.length->∀ x∈(chW c rs).2,x∈rs\/x=(c.1,c.2.1)
 | rs,0,hk=>by rw [List.eq_nil_of_length_eq_zero hk.symm];simp [chW]
 | rs,k+1,hk=>by
  obtain ⟨p,bs,rfl⟩:∃ b bs,rs=bs++[b]:=by
   rcases List.eq_nil_or_concat rs with h | ⟨l,a,h⟩
   ·subst h;simp at hk
   ·exact ⟨a,l,by simpa using h⟩
  have ih:=zcv c bs k (by simp at hk;omega);rw [Jii];generalize chW c bs=st at ih ⊢;intro x hx;unfold xIY at hx
  have aA:x∈st.2\/x=(c.1,c.2.1)\/x=p:=by
   split at hx
   ·split at hx
    ·rcases List.mem_append.1 hx with h | h
     ·exact .inl h
     ·exact .inr (.inl (List.mem_singleton.1 h))
    ·exact .inl hx
   ·split at hx
    ·rcases List.mem_append.1 hx with h | h
     ·rcases List.mem_append.1 h with h | h
      ·exact .inl h
      ·exact .inr (.inl (List.mem_singleton.1 h))
     ·exact .inr (.inr (List.mem_singleton.1 h))
    ·rcases List.mem_append.1 hx with h | h
     ·exact .inl h
     ·exact .inr (.inr (List.mem_singleton.1 h))
  rcases aA with h | h | h
  ·rcases ih x h with h | h
   ·exact .inl (by simp [h])
   ·exact .inr h
  ·exact .inr h
  ·exact .inl (by simp [h])
theorem jMq (rs:List Pr) (P:Pr->Prop) (h:∀ x∈rs,P x):∀ (b:List Ch),(∀ c∈b,P (c.1,c.2.1))->∀ x∈apU rs b,P x:=by
 intro b;obtain ⟨k,hk⟩:∃ k,k=b.length:=⟨_,rfl⟩
 induction k generalizing b with
 | zero=>intro _;rw [List.eq_nil_of_length_eq_zero hk.symm];exact h
 | succ k ih =>
  intro hb
  obtain ⟨c,bs,rfl⟩:∃ c bs,b=bs++[c]:=by
   rcases List.eq_nil_or_concat b with h | ⟨l,a,h⟩
   ·subst h;simp at hk
   ·exact ⟨a,l,by simpa using h⟩
  have i:=ih bs (by simp at hk;omega) (fun c hc=>hb c (by simp [hc]));rw [JDX];intro x hx;unfold chF at hx
  split at hx
  ·rcases zcv c _ _ rfl x hx with h1 | h1
   ·exact i x h1
   ·rw [h1];exact hb c (by simp)
  ·rw [List.mem_append] at hx
   rcases hx with hx | hx
   ·rcases zcv c _ _ rfl x hx with h1 | h1
    ·exact i x h1
    ·rw [h1];exact hb c (by simp)
   ·simp at hx;rw [hx];exact hb c (by simp)
theorem X7J (rs:List Pr) (b:List Ch) (P:Pr->Prop) (h:∀ x∈rs,P x) (hb:∀ c∈b,P (c.1,c.2.1)):∀ x∈apR rs b,P x:=by
 unfold apR
 split
 ·exact jMq rs P h b hb
 ·simp
theorem ZNi (W S L T H F R U O:Int) (rs:List Pr) (b:List Ch):(QUx W S L T H F R U O rs b).rs.length<=1048576/\(QUx W S L T H F R U O rs b).ops.length<=1000:=by
 unfold QUx
 split
 ·rename_i h0
  rw [Bool.and_eq_true] at h0;obtain ⟨h1,h2,h3,h4,h5,h6,h7,h8,h9⟩:=qTq h0.1;have hq:=QU8 h2
  split
  ·split
   ·split
    ·rename_i hp
     refine ⟨by have:=JrM rs b;simp;omega,?_⟩;simp only [xp9];have:=zDE (jvj b) L (F+U) W.toNat (56-W.toNat) (by omega) (by omega) (by omega);rw [show ((W.toNat:Nat):Int)=W by omega] at this;omega
    ·simp [noD]
   ·simp [noD]
  ·simp [noD]
 ·simp [noD]
def jej (W S L T H F R U O:Int) (rs:List Pr):Dd:=if jWr W S L T H F R U O rs=true then ⟨0,W,S,L,T,H,F,R,U,0,rs,[(true,0,ByteArray.empty)]⟩ else noD 1
theorem vC8 (W S L T H F R U O:Int) (a:Option Addr) (rs:List Pr) (c:Nat) (w:World) (h:Prs w a rs) (hl:rs.length<=1048576) (hs:∀ x∈rs,x.1.size<=1048576/\x.2.size<=1048576) :
  Calls Tryz.prog 82 #[QPD W S L T H F R U O a rs.length c] w fun x w'=>vx0 w w' x (jej W S L T H F R U O rs):=by
 have bU:=hid (fun w' h'=>ZHK W S L T H F R U O a rs c w' h' hl hs)
 have cH:∀ o1 o2,Below w.heap.size w ((w.alloc o1).alloc o2):=fun o1 o2=>((Below.refl _ _).alloc (Nat.le_refl _) _).alloc (by simp) _
 unfold QPD at bU ⊢;unfold jej
 cases hok:jWr W S L T H F R U O rs with
 | false =>
  rw [hok] at bU;simp only [Bool.false_eq_true,if_false];go_enter Tryz.func82,Tryz.ntmps82;go_wp2_with (go_at_call 71;refine (bU.out _ (h.below (cH _ _))).mono ?_;rintro x w2 ⟨rfl,aA⟩;have cF:=hid ((cH _ _).trans (aA.mono (by simp<;>omega)));have cI:w.heap.size+1<w2.heap.size:=Nat.lt_of_lt_of_le (by simp) aA.size;have cW:w.heap.size<w2.heap.size:=Nat.lt_of_succ_lt cI;have aK:w2.cell? ⟨w.heap.size+1,0,none⟩=some (.int .i64 0):=(aA.cell (p:=⟨w.heap.size+1,0,none⟩) (by simp<;>omega)).trans (by go_simp);have aQ:w2.frozen? ⟨w.heap.size+1,0,none⟩=false:=(aA.frozen (p:=⟨w.heap.size+1,0,none⟩) (by simp<;>omega)).trans (by go_simp);have aM:w2.cell? ⟨w.heap.size+1,1,none⟩=some (.int .i64 0):=(aA.cell (p:=⟨w.heap.size+1,1,none⟩) (by simp<;>omega)).trans (by go_simp);have bI:w2.frozen? ⟨w.heap.size+1,1,none⟩=false:=(aA.frozen (p:=⟨w.heap.size+1,1,none⟩) (by simp<;>omega)).trans (by go_simp);have b8:w2.cell? ⟨w.heap.size+1,2,none⟩=some (.int .i64 0):=(aA.cell (p:=⟨w.heap.size+1,2,none⟩) (by simp<;>omega)).trans (by go_simp);have aL:w2.frozen? ⟨w.heap.size+1,2,none⟩=false:=(aA.frozen (p:=⟨w.heap.size+1,2,none⟩) (by simp<;>omega)).trans (by go_simp);have bC:w2.cell? ⟨w.heap.size+1,3,none⟩=some (.int .i64 0):=(aA.cell (p:=⟨w.heap.size+1,3,none⟩) (by simp<;>omega)).trans (by go_simp);have aT:w2.frozen? ⟨w.heap.size+1,3,none⟩=false:=(aA.frozen (p:=⟨w.heap.size+1,3,none⟩) (by simp<;>omega)).trans (by go_simp);have aH:w2.cell? ⟨w.heap.size+1,4,none⟩=some (.int .i64 0):=(aA.cell (p:=⟨w.heap.size+1,4,none⟩) (by simp<;>omega)).trans (by go_simp);have aI:w2.frozen? ⟨w.heap.size+1,4,none⟩=false:=(aA.frozen (p:=⟨w.heap.size+1,4,none⟩) (by simp<;>omega)).trans (by go_simp);have cE:w2.cell? ⟨w.heap.size+1,5,none⟩=some (.int .i64 0):=(aA.cell (p:=⟨w.heap.size+1,5,none⟩) (by simp<;>omega)).trans (by go_simp);have aP:w2.frozen? ⟨w.heap.size+1,5,none⟩=false:=(aA.frozen (p:=⟨w.heap.size+1,5,none⟩) (by simp<;>omega)).trans (by go_simp);have aR:w2.cell? ⟨w.heap.size+1,6,none⟩=some (.int .i64 0):=(aA.cell (p:=⟨w.heap.size+1,6,none⟩) (by simp<;>omega)).trans (by go_simp);have bH:w2.frozen? ⟨w.heap.size+1,6,none⟩=false:=(aA.frozen (p:=⟨w.heap.size+1,6,none⟩) (by simp<;>omega)).trans (by go_simp);have aU:w2.cell? ⟨w.heap.size+1,7,none⟩=some (.int .i64 0):=(aA.cell (p:=⟨w.heap.size+1,7,none⟩) (by simp<;>omega)).trans (by go_simp);have aV:w2.frozen? ⟨w.heap.size+1,7,none⟩=false:=(aA.frozen (p:=⟨w.heap.size+1,7,none⟩) (by simp<;>omega)).trans (by go_simp);have b7:w2.cell? ⟨w.heap.size+1,8,none⟩=some (.int .i64 0):=(aA.cell (p:=⟨w.heap.size+1,8,none⟩) (by simp<;>omega)).trans (by go_simp);have aX:w2.frozen? ⟨w.heap.size+1,8,none⟩=false:=(aA.frozen (p:=⟨w.heap.size+1,8,none⟩) (by simp<;>omega)).trans (by go_simp);have cC:w2.cell? ⟨w.heap.size+1,9,none⟩=some (.int .i64 0):=(aA.cell (p:=⟨w.heap.size+1,9,none⟩) (by simp<;>omega)).trans (by go_simp);have bZ:w2.frozen? ⟨w.heap.size+1,9,none⟩=false:=(aA.frozen (p:=⟨w.heap.size+1,9,none⟩) (by simp<;>omega)).trans (by go_simp);have aD:w2.cell? ⟨w.heap.size+1,10,none⟩=some (.slice none 0 0):=(aA.cell (p:=⟨w.heap.size+1,10,none⟩) (by simp<;>omega)).trans (by go_simp);have aF:w2.frozen? ⟨w.heap.size+1,10,none⟩=false:=(aA.frozen (p:=⟨w.heap.size+1,10,none⟩) (by simp<;>omega)).trans (by go_simp);have aC:w2.cell? ⟨w.heap.size+1,11,none⟩=some (.slice none 0 0):=(aA.cell (p:=⟨w.heap.size+1,11,none⟩) (by simp<;>omega)).trans (by go_simp);have aG:w2.frozen? ⟨w.heap.size+1,11,none⟩=false:=(aA.frozen (p:=⟨w.heap.size+1,11,none⟩) (by simp<;>omega)).trans (by go_simp);have cQ:w2.cell? ⟨w.heap.size,0,none⟩=some (.int .i64 W):=(aA.cell (p:=⟨w.heap.size,0,none⟩) (by simp<;>omega)).trans (by go_simp);have bW:w2.frozen? ⟨w.heap.size,0,none⟩=false:=(aA.frozen (p:=⟨w.heap.size,0,none⟩) (by simp<;>omega)).trans (by go_simp);have cU:w2.cell? ⟨w.heap.size,1,none⟩=some (.int .i64 S):=(aA.cell (p:=⟨w.heap.size,1,none⟩) (by simp<;>omega)).trans (by go_simp);have bG:w2.frozen? ⟨w.heap.size,1,none⟩=false:=(aA.frozen (p:=⟨w.heap.size,1,none⟩) (by simp<;>omega)).trans (by go_simp);have dN:w2.cell? ⟨w.heap.size,2,none⟩=some (.int .i64 L):=(aA.cell (p:=⟨w.heap.size,2,none⟩) (by simp<;>omega)).trans (by go_simp);have aY:w2.frozen? ⟨w.heap.size,2,none⟩=false:=(aA.frozen (p:=⟨w.heap.size,2,none⟩) (by simp<;>omega)).trans (by go_simp);have dL:w2.cell? ⟨w.heap.size,3,none⟩=some (.int .i64 T):=(aA.cell (p:=⟨w.heap.size,3,none⟩) (by simp<;>omega)).trans (by go_simp);have bY:w2.frozen? ⟨w.heap.size,3,none⟩=false:=(aA.frozen (p:=⟨w.heap.size,3,none⟩) (by simp<;>omega)).trans (by go_simp);have cS:w2.cell? ⟨w.heap.size,4,none⟩=some (.int .i64 H):=(aA.cell (p:=⟨w.heap.size,4,none⟩) (by simp<;>omega)).trans (by go_simp);have aZ:w2.frozen? ⟨w.heap.size,4,none⟩=false:=(aA.frozen (p:=⟨w.heap.size,4,none⟩) (by simp<;>omega)).trans (by go_simp);have cK:w2.cell? ⟨w.heap.size,5,none⟩=some (.int .i64 F):=(aA.cell (p:=⟨w.heap.size,5,none⟩) (by simp<;>omega)).trans (by go_simp);have bV:w2.frozen? ⟨w.heap.size,5,none⟩=false:=(aA.frozen (p:=⟨w.heap.size,5,none⟩) (by simp<;>omega)).trans (by go_simp);have cY:w2.cell? ⟨w.heap.size,6,none⟩=some (.int .i64 R):=(aA.cell (p:=⟨w.heap.size,6,none⟩) (by simp<;>omega)).trans (by go_simp);have aN:w2.frozen? ⟨w.heap.size,6,none⟩=false:=(aA.frozen (p:=⟨w.heap.size,6,none⟩) (by simp<;>omega)).trans (by go_simp);have cL:w2.cell? ⟨w.heap.size,7,none⟩=some (.int .i64 U):=(aA.cell (p:=⟨w.heap.size,7,none⟩) (by simp<;>omega)).trans (by go_simp);have aS:w2.frozen? ⟨w.heap.size,7,none⟩=false:=(aA.frozen (p:=⟨w.heap.size,7,none⟩) (by simp<;>omega)).trans (by go_simp);have dJ:w2.cell? ⟨w.heap.size,8,none⟩=some (.int .i64 O):=(aA.cell (p:=⟨w.heap.size,8,none⟩) (by simp<;>omega)).trans (by go_simp);have aO:w2.frozen? ⟨w.heap.size,8,none⟩=false:=(aA.frozen (p:=⟨w.heap.size,8,none⟩) (by simp<;>omega)).trans (by go_simp);have dI:w2.cell? ⟨w.heap.size,9,none⟩=some (.slice a rs.length c):=(aA.cell (p:=⟨w.heap.size,9,none⟩) (by simp<;>omega)).trans (by go_simp);have aW:w2.frozen? ⟨w.heap.size,9,none⟩=false:=(aA.frozen (p:=⟨w.heap.size,9,none⟩) (by simp<;>omega)).trans (by go_simp);clear aA)
  refine bodyPost_ret (v:=dnV (noD 1) none 0 none 0) (by simp [results,Tryz.results82,go_sem,dnV,noD,aK,aM,b8,bC,aH,cE,aR,aU,b7,cC,aD,aC]) rfl (qJx rfl ?_)
  iterate 12 (refine Below.setCell ?_ (by show w.heap.size<=w.heap.size+1;omega) _)
  exact cF.out
 | true =>
  rw [hok] at bU;simp only [if_true];go_enter Tryz.func82,Tryz.ntmps82
  go_wp2_with (first | (go_at_call 71;refine (bU.out _ (h.below (cH _ _))).mono ?_;rintro x w2 ⟨rfl,aA⟩;have cF:=hid ((cH _ _).trans (aA.mono (by simp<;>omega)));have cI:w.heap.size+1<w2.heap.size:=Nat.lt_of_lt_of_le (by simp) aA.size;have cW:w.heap.size<w2.heap.size:=Nat.lt_of_succ_lt cI;have aK:w2.cell? ⟨w.heap.size+1,0,none⟩=some (.int .i64 0):=(aA.cell (p:=⟨w.heap.size+1,0,none⟩) (by simp<;>omega)).trans (by go_simp);have aQ:w2.frozen? ⟨w.heap.size+1,0,none⟩=false:=(aA.frozen (p:=⟨w.heap.size+1,0,none⟩) (by simp<;>omega)).trans (by go_simp);have aM:w2.cell? ⟨w.heap.size+1,1,none⟩=some (.int .i64 0):=(aA.cell (p:=⟨w.heap.size+1,1,none⟩) (by simp<;>omega)).trans (by go_simp);have bI:w2.frozen? ⟨w.heap.size+1,1,none⟩=false:=(aA.frozen (p:=⟨w.heap.size+1,1,none⟩) (by simp<;>omega)).trans (by go_simp);have b8:w2.cell? ⟨w.heap.size+1,2,none⟩=some (.int .i64 0):=(aA.cell (p:=⟨w.heap.size+1,2,none⟩) (by simp<;>omega)).trans (by go_simp);have aL:w2.frozen? ⟨w.heap.size+1,2,none⟩=false:=(aA.frozen (p:=⟨w.heap.size+1,2,none⟩) (by simp<;>omega)).trans (by go_simp);have bC:w2.cell? ⟨w.heap.size+1,3,none⟩=some (.int .i64 0):=(aA.cell (p:=⟨w.heap.size+1,3,none⟩) (by simp<;>omega)).trans (by go_simp);have aT:w2.frozen? ⟨w.heap.size+1,3,none⟩=false:=(aA.frozen (p:=⟨w.heap.size+1,3,none⟩) (by simp<;>omega)).trans (by go_simp);have aH:w2.cell? ⟨w.heap.size+1,4,none⟩=some (.int .i64 0):=(aA.cell (p:=⟨w.heap.size+1,4,none⟩) (by simp<;>omega)).trans (by go_simp);have aI:w2.frozen? ⟨w.heap.size+1,4,none⟩=false:=(aA.frozen (p:=⟨w.heap.size+1,4,none⟩) (by simp<;>omega)).trans (by go_simp);have cE:w2.cell? ⟨w.heap.size+1,5,none⟩=some (.int .i64 0):=(aA.cell (p:=⟨w.heap.size+1,5,none⟩) (by simp<;>omega)).trans (by go_simp);have aP:w2.frozen? ⟨w.heap.size+1,5,none⟩=false:=(aA.frozen (p:=⟨w.heap.size+1,5,none⟩) (by simp<;>omega)).trans (by go_simp);have aR:w2.cell? ⟨w.heap.size+1,6,none⟩=some (.int .i64 0):=(aA.cell (p:=⟨w.heap.size+1,6,none⟩) (by simp<;>omega)).trans (by go_simp);have bH:w2.frozen? ⟨w.heap.size+1,6,none⟩=false:=(aA.frozen (p:=⟨w.heap.size+1,6,none⟩) (by simp<;>omega)).trans (by go_simp);have aU:w2.cell? ⟨w.heap.size+1,7,none⟩=some (.int .i64 0):=(aA.cell (p:=⟨w.heap.size+1,7,none⟩) (by simp<;>omega)).trans (by go_simp);have aV:w2.frozen? ⟨w.heap.size+1,7,none⟩=false:=(aA.frozen (p:=⟨w.heap.size+1,7,none⟩) (by simp<;>omega)).trans (by go_simp);have b7:w2.cell? ⟨w.heap.size+1,8,none⟩=some (.int .i64 0):=(aA.cell (p:=⟨w.heap.size+1,8,none⟩) (by simp<;>omega)).trans (by go_simp);have aX:w2.frozen? ⟨w.heap.size+1,8,none⟩=false:=(aA.frozen (p:=⟨w.heap.size+1,8,none⟩) (by simp<;>omega)).trans (by go_simp);have cC:w2.cell? ⟨w.heap.size+1,9,none⟩=some (.int .i64 0):=(aA.cell (p:=⟨w.heap.size+1,9,none⟩) (by simp<;>omega)).trans (by go_simp);have bZ:w2.frozen? ⟨w.heap.size+1,9,none⟩=false:=(aA.frozen (p:=⟨w.heap.size+1,9,none⟩) (by simp<;>omega)).trans (by go_simp);have aD:w2.cell? ⟨w.heap.size+1,10,none⟩=some (.slice none 0 0):=(aA.cell (p:=⟨w.heap.size+1,10,none⟩) (by simp<;>omega)).trans (by go_simp);have aF:w2.frozen? ⟨w.heap.size+1,10,none⟩=false:=(aA.frozen (p:=⟨w.heap.size+1,10,none⟩) (by simp<;>omega)).trans (by go_simp);have aC:w2.cell? ⟨w.heap.size+1,11,none⟩=some (.slice none 0 0):=(aA.cell (p:=⟨w.heap.size+1,11,none⟩) (by simp<;>omega)).trans (by go_simp);have aG:w2.frozen? ⟨w.heap.size+1,11,none⟩=false:=(aA.frozen (p:=⟨w.heap.size+1,11,none⟩) (by simp<;>omega)).trans (by go_simp);have cQ:w2.cell? ⟨w.heap.size,0,none⟩=some (.int .i64 W):=(aA.cell (p:=⟨w.heap.size,0,none⟩) (by simp<;>omega)).trans (by go_simp);have bW:w2.frozen? ⟨w.heap.size,0,none⟩=false:=(aA.frozen (p:=⟨w.heap.size,0,none⟩) (by simp<;>omega)).trans (by go_simp);have cU:w2.cell? ⟨w.heap.size,1,none⟩=some (.int .i64 S):=(aA.cell (p:=⟨w.heap.size,1,none⟩) (by simp<;>omega)).trans (by go_simp);have bG:w2.frozen? ⟨w.heap.size,1,none⟩=false:=(aA.frozen (p:=⟨w.heap.size,1,none⟩) (by simp<;>omega)).trans (by go_simp);have dN:w2.cell? ⟨w.heap.size,2,none⟩=some (.int .i64 L):=(aA.cell (p:=⟨w.heap.size,2,none⟩) (by simp<;>omega)).trans (by go_simp);have aY:w2.frozen? ⟨w.heap.size,2,none⟩=false:=(aA.frozen (p:=⟨w.heap.size,2,none⟩) (by simp<;>omega)).trans (by go_simp);have dL:w2.cell? ⟨w.heap.size,3,none⟩=some (.int .i64 T):=(aA.cell (p:=⟨w.heap.size,3,none⟩) (by simp<;>omega)).trans (by go_simp);have bY:w2.frozen? ⟨w.heap.size,3,none⟩=false:=(aA.frozen (p:=⟨w.heap.size,3,none⟩) (by simp<;>omega)).trans (by go_simp);have cS:w2.cell? ⟨w.heap.size,4,none⟩=some (.int .i64 H):=(aA.cell (p:=⟨w.heap.size,4,none⟩) (by simp<;>omega)).trans (by go_simp);have aZ:w2.frozen? ⟨w.heap.size,4,none⟩=false:=(aA.frozen (p:=⟨w.heap.size,4,none⟩) (by simp<;>omega)).trans (by go_simp);have cK:w2.cell? ⟨w.heap.size,5,none⟩=some (.int .i64 F):=(aA.cell (p:=⟨w.heap.size,5,none⟩) (by simp<;>omega)).trans (by go_simp);have bV:w2.frozen? ⟨w.heap.size,5,none⟩=false:=(aA.frozen (p:=⟨w.heap.size,5,none⟩) (by simp<;>omega)).trans (by go_simp);have cY:w2.cell? ⟨w.heap.size,6,none⟩=some (.int .i64 R):=(aA.cell (p:=⟨w.heap.size,6,none⟩) (by simp<;>omega)).trans (by go_simp);have aN:w2.frozen? ⟨w.heap.size,6,none⟩=false:=(aA.frozen (p:=⟨w.heap.size,6,none⟩) (by simp<;>omega)).trans (by go_simp);have cL:w2.cell? ⟨w.heap.size,7,none⟩=some (.int .i64 U):=(aA.cell (p:=⟨w.heap.size,7,none⟩) (by simp<;>omega)).trans (by go_simp);have aS:w2.frozen? ⟨w.heap.size,7,none⟩=false:=(aA.frozen (p:=⟨w.heap.size,7,none⟩) (by simp<;>omega)).trans (by go_simp);have dJ:w2.cell? ⟨w.heap.size,8,none⟩=some (.int .i64 O):=(aA.cell (p:=⟨w.heap.size,8,none⟩) (by simp<;>omega)).trans (by go_simp);have aO:w2.frozen? ⟨w.heap.size,8,none⟩=false:=(aA.frozen (p:=⟨w.heap.size,8,none⟩) (by simp<;>omega)).trans (by go_simp);have dI:w2.cell? ⟨w.heap.size,9,none⟩=some (.slice a rs.length c):=(aA.cell (p:=⟨w.heap.size,9,none⟩) (by simp<;>omega)).trans (by go_simp);have aW:w2.frozen? ⟨w.heap.size,9,none⟩=false:=(aA.frozen (p:=⟨w.heap.size,9,none⟩) (by simp<;>omega)).trans (by go_simp);clear aA) | (go_at_call 58;have aE:Below w.heap.size w (w2.alloc (.cells #[.int .i64 W,.int .i64 S,.int .i64 L,.int .i64 T,.int .i64 H,.int .i64 F,.int .i64 R,.int .i64 U,.int .i64 O,.slice a rs.length c] 59)):=cF.out.alloc cF.out.size _;refine (Znr a rs c _ (h.below aE) hl).mono ?_;rintro x w3 ⟨a3,c3,rfl,fH,eG,eJ,aB⟩;have eV:=hid (aE.trans (aB.mono aE.size));have eM:=hid eG;have aJ:∀ g,blk a3 rs.length=some g->w2.heap.size<g:=fun g hg=>Nat.lt_of_lt_of_le (by simp) (eJ g hg);have eC:=hid aJ;have eY:w2.heap.size<w3.heap.size:=Nat.lt_of_lt_of_le (by simp) aB.size;have dK:w.heap.size+1<w3.heap.size:=Nat.lt_trans cI eY;have cN:w3.cell? ⟨w.heap.size+1,0,none⟩=some (.int .i64 0):=(aB.cell (p:=⟨w.heap.size+1,0,none⟩) (by simp<;>omega)).trans (by go_simp);have eD:w3.frozen? ⟨w.heap.size+1,0,none⟩=false:=(aB.frozen (p:=⟨w.heap.size+1,0,none⟩) (by simp<;>omega)).trans (by go_simp);have cM:w3.cell? ⟨w.heap.size+1,1,none⟩=some (.int .i64 0):=(aB.cell (p:=⟨w.heap.size+1,1,none⟩) (by simp<;>omega)).trans (by go_simp);have eL:w3.frozen? ⟨w.heap.size+1,1,none⟩=false:=(aB.frozen (p:=⟨w.heap.size+1,1,none⟩) (by simp<;>omega)).trans (by go_simp);have cZ:w3.cell? ⟨w.heap.size+1,2,none⟩=some (.int .i64 0):=(aB.cell (p:=⟨w.heap.size+1,2,none⟩) (by simp<;>omega)).trans (by go_simp);have dU:w3.frozen? ⟨w.heap.size+1,2,none⟩=false:=(aB.frozen (p:=⟨w.heap.size+1,2,none⟩) (by simp<;>omega)).trans (by go_simp);have cO:w3.cell? ⟨w.heap.size+1,3,none⟩=some (.int .i64 0):=(aB.cell (p:=⟨w.heap.size+1,3,none⟩) (by simp<;>omega)).trans (by go_simp);have eI:w3.frozen? ⟨w.heap.size+1,3,none⟩=false:=(aB.frozen (p:=⟨w.heap.size+1,3,none⟩) (by simp<;>omega)).trans (by go_simp);have dM:w3.cell? ⟨w.heap.size+1,4,none⟩=some (.int .i64 0):=(aB.cell (p:=⟨w.heap.size+1,4,none⟩) (by simp<;>omega)).trans (by go_simp);have dZ:w3.frozen? ⟨w.heap.size+1,4,none⟩=false:=(aB.frozen (p:=⟨w.heap.size+1,4,none⟩) (by simp<;>omega)).trans (by go_simp);have cP:w3.cell? ⟨w.heap.size+1,5,none⟩=some (.int .i64 0):=(aB.cell (p:=⟨w.heap.size+1,5,none⟩) (by simp<;>omega)).trans (by go_simp);have eN:w3.frozen? ⟨w.heap.size+1,5,none⟩=false:=(aB.frozen (p:=⟨w.heap.size+1,5,none⟩) (by simp<;>omega)).trans (by go_simp);have dE:w3.cell? ⟨w.heap.size+1,6,none⟩=some (.int .i64 0):=(aB.cell (p:=⟨w.heap.size+1,6,none⟩) (by simp<;>omega)).trans (by go_simp);have eU:w3.frozen? ⟨w.heap.size+1,6,none⟩=false:=(aB.frozen (p:=⟨w.heap.size+1,6,none⟩) (by simp<;>omega)).trans (by go_simp);have cT:w3.cell? ⟨w.heap.size+1,7,none⟩=some (.int .i64 0):=(aB.cell (p:=⟨w.heap.size+1,7,none⟩) (by simp<;>omega)).trans (by go_simp);have eF:w3.frozen? ⟨w.heap.size+1,7,none⟩=false:=(aB.frozen (p:=⟨w.heap.size+1,7,none⟩) (by simp<;>omega)).trans (by go_simp);have dO:w3.cell? ⟨w.heap.size+1,8,none⟩=some (.int .i64 0):=(aB.cell (p:=⟨w.heap.size+1,8,none⟩) (by simp<;>omega)).trans (by go_simp);have eT:w3.frozen? ⟨w.heap.size+1,8,none⟩=false:=(aB.frozen (p:=⟨w.heap.size+1,8,none⟩) (by simp<;>omega)).trans (by go_simp);have dR:w3.cell? ⟨w.heap.size+1,9,none⟩=some (.int .i64 0):=(aB.cell (p:=⟨w.heap.size+1,9,none⟩) (by simp<;>omega)).trans (by go_simp);have eQ:w3.frozen? ⟨w.heap.size+1,9,none⟩=false:=(aB.frozen (p:=⟨w.heap.size+1,9,none⟩) (by simp<;>omega)).trans (by go_simp);have bQ:w3.cell? ⟨w.heap.size+1,10,none⟩=some (.slice none 0 0):=(aB.cell (p:=⟨w.heap.size+1,10,none⟩) (by simp<;>omega)).trans (by go_simp);have dQ:w3.frozen? ⟨w.heap.size+1,10,none⟩=false:=(aB.frozen (p:=⟨w.heap.size+1,10,none⟩) (by simp<;>omega)).trans (by go_simp);have bJ:w3.cell? ⟨w.heap.size+1,11,none⟩=some (.slice none 0 0):=(aB.cell (p:=⟨w.heap.size+1,11,none⟩) (by simp<;>omega)).trans (by go_simp);have cJ:w3.frozen? ⟨w.heap.size+1,11,none⟩=false:=(aB.frozen (p:=⟨w.heap.size+1,11,none⟩) (by simp<;>omega)).trans (by go_simp);have fO:w3.cell? ⟨w2.heap.size,0,none⟩=some (.int .i64 W):=(aB.cell (p:=⟨w2.heap.size,0,none⟩) (by simp<;>omega)).trans (by go_simp);have eR:w3.frozen? ⟨w2.heap.size,0,none⟩=false:=(aB.frozen (p:=⟨w2.heap.size,0,none⟩) (by simp<;>omega)).trans (by go_simp);have fC:w3.cell? ⟨w2.heap.size,1,none⟩=some (.int .i64 S):=(aB.cell (p:=⟨w2.heap.size,1,none⟩) (by simp<;>omega)).trans (by go_simp);have eO:w3.frozen? ⟨w2.heap.size,1,none⟩=false:=(aB.frozen (p:=⟨w2.heap.size,1,none⟩) (by simp<;>omega)).trans (by go_simp);have eZ:w3.cell? ⟨w2.heap.size,2,none⟩=some (.int .i64 L):=(aB.cell (p:=⟨w2.heap.size,2,none⟩) (by simp<;>omega)).trans (by go_simp);have eH:w3.frozen? ⟨w2.heap.size,2,none⟩=false:=(aB.frozen (p:=⟨w2.heap.size,2,none⟩) (by simp<;>omega)).trans (by go_simp);have fE:w3.cell? ⟨w2.heap.size,3,none⟩=some (.int .i64 T):=(aB.cell (p:=⟨w2.heap.size,3,none⟩) (by simp<;>omega)).trans (by go_simp);have eB:w3.frozen? ⟨w2.heap.size,3,none⟩=false:=(aB.frozen (p:=⟨w2.heap.size,3,none⟩) (by simp<;>omega)).trans (by go_simp);have fQ:w3.cell? ⟨w2.heap.size,4,none⟩=some (.int .i64 H):=(aB.cell (p:=⟨w2.heap.size,4,none⟩) (by simp<;>omega)).trans (by go_simp);have dY:w3.frozen? ⟨w2.heap.size,4,none⟩=false:=(aB.frozen (p:=⟨w2.heap.size,4,none⟩) (by simp<;>omega)).trans (by go_simp);have eX:w3.cell? ⟨w2.heap.size,5,none⟩=some (.int .i64 F):=(aB.cell (p:=⟨w2.heap.size,5,none⟩) (by simp<;>omega)).trans (by go_simp);have eK:w3.frozen? ⟨w2.heap.size,5,none⟩=false:=(aB.frozen (p:=⟨w2.heap.size,5,none⟩) (by simp<;>omega)).trans (by go_simp);have fF:w3.cell? ⟨w2.heap.size,6,none⟩=some (.int .i64 R):=(aB.cell (p:=⟨w2.heap.size,6,none⟩) (by simp<;>omega)).trans (by go_simp);have eS:w3.frozen? ⟨w2.heap.size,6,none⟩=false:=(aB.frozen (p:=⟨w2.heap.size,6,none⟩) (by simp<;>omega)).trans (by go_simp);have fA:w3.cell? ⟨w2.heap.size,7,none⟩=some (.int .i64 U):=(aB.cell (p:=⟨w2.heap.size,7,none⟩) (by simp<;>omega)).trans (by go_simp);have eP:w3.frozen? ⟨w2.heap.size,7,none⟩=false:=(aB.frozen (p:=⟨w2.heap.size,7,none⟩) (by simp<;>omega)).trans (by go_simp);have fB:w3.cell? ⟨w2.heap.size,8,none⟩=some (.int .i64 O):=(aB.cell (p:=⟨w2.heap.size,8,none⟩) (by simp<;>omega)).trans (by go_simp);have dV:w3.frozen? ⟨w2.heap.size,8,none⟩=false:=(aB.frozen (p:=⟨w2.heap.size,8,none⟩) (by simp<;>omega)).trans (by go_simp);have fI:w3.cell? ⟨w2.heap.size,9,none⟩=some (.slice a rs.length c):=(aB.cell (p:=⟨w2.heap.size,9,none⟩) (by simp<;>omega)).trans (by go_simp);have eW:w3.frozen? ⟨w2.heap.size,9,none⟩=false:=(aB.frozen (p:=⟨w2.heap.size,9,none⟩) (by simp<;>omega)).trans (by go_simp);clear aB eG eJ aJ))
  have fG:∀ g,a3=some ⟨g,0,none⟩->qJS rs≠[]->w2.heap.size<g:=fun g hg cV=>eC.out g (by subst hg;exact qdd _ _ _ (Xnn cV))
  have dH:=eM.out.lt rs.length x1g;have fJ:=eV.out.size
  have fS:XKU a3 rs.length (some ⟨w3.heap.size,0,none⟩) 1:=by
   cases hb:blk a3 rs.length with
   | none=>exact .inl hb
   | some g =>
    have:=dH g hb;refine .inr (.inr fun e=>?_);rw [hb,qdd _ _ _ (by omega)] at e
    cases e
    omega
  refine bodyPost_ret (v:=dnV ⟨0,W,S,L,T,H,F,R,U,0,rs,[(true,0,ByteArray.empty)]⟩ a3 c3 (some ⟨w3.heap.size,0,none⟩) 1) (by simp [results,Tryz.results82,go_sem,dnV,dK,cN,cM,cZ,cO,dM,cP,dE,cT,dO,dR,bQ,bJ]) rfl ⟨a3,c3,_,1,rfl,fH,⟨?_,?_,fS⟩,?_,?_,?_⟩
  ·refine OwnS.alloc' ?_ _
   iterate 14 (refine OwnS.set' ?_ _ (fun g hg cV=>by have:=fG g hg cV;first | (show w.heap.size+1≠g;omega) | (show w2.heap.size≠g;omega)) _)
   exact eM.out
  ·exact .inr ⟨w3.heap.size,rfl,j6Q (by simp)⟩
  ·exact fun g hg=>by have:=eC.out g hg;omega
  ·exact fun g hg=>by rw [qdd _ _ _ (by simp)] at hg;cases hg;exact fJ
  ·refine Below.alloc ?_ (by simp;omega) _
   iterate 14 (refine Below.setCell ?_ (by first | (show w.heap.size<=w.heap.size+1;omega) | (show w.heap.size<=w2.heap.size;omega)) _)
   exact eV.out
end Go.Proofs.YtcdojnnkjeakmaaGreatDoor
