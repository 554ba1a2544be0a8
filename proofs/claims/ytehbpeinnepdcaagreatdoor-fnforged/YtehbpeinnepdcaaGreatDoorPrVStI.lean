import Derived.Test.YtehbpeinnepdcaaGreatDoorPrG50
set_option maxHeartbeats 16000000
namespace Go.Proofs.YtehbpeinnepdcaaGreatDoor
open Go.RowKit
set_option linter.unusedVariables false
set_option linter.unusedSimpArgs false
set_option maxRecDepth 4000
theorem JFO (n:Int) (w:World):Calls Tryz.prog 103 #[.int .i64 n] w fun e w'=>e=.returned (.bool (decide (0<=n/\n<=1)))/\w'=w:=by
 go_enter Tryz.func103,Tryz.ntmps103
 by_cases h1:n=0
 ·subst h1;go_wp2;go_ret;simp
 ·by_cases h2:n=1
  ·subst h2;go_wp2;go_ret;simp
  ·have h3:decide (0<=n/\n<=1)=false:=by simp;omega
   rw [h3];go_wp2;go_ret;simp [h1,h2]
theorem QNz (n:Int) (w:World):Calls Tryz.prog 104 #[.int .i64 n] w fun e w'=>e=.returned (.bool (decide (1<=n/\n<=999999000)))/\w'=w:=by
 go_enter Tryz.func104,Tryz.ntmps104
 by_cases h1:1<=n<;>by_cases h2:n<=999999000<;>(go_wp2;go_ret;simp [h1,h2])
theorem QyV (T H F R:Int) (w:World):Calls Tryz.prog 81 #[.agg #[.int .i64 T,.int .i64 H,.int .i64 F,.int .i64 R]] w fun e w'=>e=.returned (.bool (yWg T H F R))/\Below w.heap.size w w':=by
 have aB:∀ o,Below w.heap.size w (w.alloc o):=fun o=>(Below.refl _ _).alloc (Nat.le_refl _) _
 obtain ⟨E,HE⟩:∃ E,Hid (E=yWg T H F R):=⟨_,hid rfl⟩;rw [<-HE.out];unfold yWg at HE
 by_cases c1:0<=T
 case neg =>
  have he:E=false:=by rw [HE.out];simp;omega
  subst he;go_enter Tryz.func81,Tryz.ntmps81;go_wp2;go_ret;exact ⟨rfl,aB _⟩
 by_cases c2:T<=1000000000
 case neg =>
  have he:E=false:=by rw [HE.out];simp;omega
  subst he;go_enter Tryz.func81,Tryz.ntmps81;go_wp2;go_ret;exact ⟨rfl,aB _⟩
 by_cases c3:0<=R
 case neg =>
  have he:E=false:=by rw [HE.out];simp;omega
  subst he;go_enter Tryz.func81,Tryz.ntmps81;go_wp2;go_ret;exact ⟨rfl,aB _⟩
 by_cases c4:R<=60000
 case neg =>
  have he:E=false:=by rw [HE.out];simp;omega
  subst he;go_enter Tryz.func81,Tryz.ntmps81;go_wp2;go_ret;exact ⟨rfl,aB _⟩
 by_cases c5:0<=H/\H<=1
 case neg =>
  have d5:decide (0<=H/\H<=1)=false:=decide_eq_false c5;have he:E=false:=by rw [HE.out,d5];simp
  subst he;go_enter Tryz.func81,Tryz.ntmps81
  go_wp2_with (first | (go_at_call 103;refine (JFO _ _).mono ?_;rw [d5];rintro e wz ⟨rfl,aA⟩;rw [aA];clear aA wz))
  go_ret;exact ⟨rfl,aB _⟩
 have d5:decide (0<=H/\H<=1)=true:=decide_eq_true c5
 by_cases c6:1<=F/\F<=999999000
 case neg =>
  have d6:decide (1<=F/\F<=999999000)=false:=decide_eq_false c6;have he:E=false:=by rw [HE.out,d6];simp
  subst he;go_enter Tryz.func81,Tryz.ntmps81
  go_wp2_with (first | (go_at_call 103;refine (JFO _ _).mono ?_;rw [d5];rintro e wz ⟨rfl,aA⟩;rw [aA];clear aA wz) | (go_at_call 104;refine (QNz _ _).mono ?_;rw [d6];rintro e wz ⟨rfl,aA⟩;rw [aA];clear aA wz))
  go_ret;exact ⟨rfl,aB _⟩
 have d6:decide (1<=F/\F<=999999000)=true:=decide_eq_true c6;have he:E=true:=by rw [HE.out,d5,d6];simp;omega
 subst he;go_enter Tryz.func81,Tryz.ntmps81
 go_wp2_with (first | (go_at_call 103;refine (JFO _ _).mono ?_;rw [d5];rintro e wz ⟨rfl,aA⟩;rw [aA];clear aA wz) | (go_at_call 104;refine (QNz _ _).mono ?_;rw [d6];rintro e wz ⟨rfl,aA⟩;rw [aA];clear aA wz))
 go_ret;exact ⟨rfl,aB _⟩
theorem yxp (n Q:Int) (h:Q=hv n) (w:World):Calls Tryz.prog 82 #[.int .i64 n] w fun e w'=>e=.returned (.int .i64 Q)/\w'=w:=by rw [h];exact kpj n w
theorem ZkU (W S L T H F R U O:Int) (a:Option Addr) (rs:List Pr) (c:Nat) (w:World) (h:Prs w a rs) (hc:rs.length<=c) (hl:rs.length<=1048576) (hs:∀ x∈rs,x.1.size<=1048576/\x.2.size<=1048576) :
  Calls Tryz.prog 83 #[QPD W S L T H F R U O a rs.length c] w fun e w'=>e=.returned (.bool (decide (xee (ZZG rs) W<=hv S-1)))/\Below w.heap.size w w':=by
 unfold QPD;obtain ⟨wb,aA⟩:∃ wb,wb=w.alloc (.cells #[.int .i64 W,.int .i64 S,.int .i64 L,.int .i64 T,.int .i64 H,.int .i64 F,.int .i64 R,.int .i64 U,.int .i64 O,.slice a rs.length c] 33):=⟨_,rfl⟩;have q0:wb.cell? ⟨w.heap.size,0,none⟩=some (.int .i64 W):=by rw [aA];go_simp
 have q1:wb.cell? ⟨w.heap.size,1,none⟩=some (.int .i64 S):=by rw [aA];go_simp
 have q9:wb.cell? ⟨w.heap.size,9,none⟩=some (.slice a rs.length c):=by rw [aA];go_simp
 have aB:Below w.heap.size w wb:=by rw [aA];exact (Below.refl _ _).alloc (Nat.le_refl _) _
 have aC:w.heap.size<wb.heap.size:=by rw [aA];simp
 have HT:Hid (∀ w',Below wb.heap.size wb w'->w'.cell? ⟨w.heap.size,0,none⟩=some (.int .i64 W)/\w'.cell? ⟨w.heap.size,1,none⟩=some (.int .i64 S)/\w'.cell? ⟨w.heap.size,9,none⟩=some (.slice a rs.length c)/\Below wb.heap.size wb w'):=fun w' hb=>⟨(hb.cell (p:=⟨w.heap.size,0,none⟩) aC).trans q0,(hb.cell (p:=⟨w.heap.size,1,none⟩) aC).trans q1,(hb.cell (p:=⟨w.heap.size,9,none⟩) aC).trans q9,hb⟩
 have aE:=hid (XrI a rs c W wb.drew (h.below aB.drew) hc hl hs);have hR:=z3n (ZZG rs) W;have aG:=xwW rs;have hQ:0<=hv S/\hv S<=99:=by by_cases h:8<=S/\S<=200;have:=QU8 h;omega;rw [JbE h];omega
 obtain ⟨G,HG⟩:∃ G,Hid (G=xee (ZZG rs) W):=⟨_,hid rfl⟩;obtain ⟨Q,HQ⟩:∃ Q,Hid (Q=hv S):=⟨_,hid rfl⟩;rw [<-HG.out] at hR aE ⊢;rw [<-HQ.out] at hQ ⊢;have aH:IntKind.i64.wrap (Q-1)=Q-1:=by simp [IntKind.wrap,IntKind.bits,IntKind.signed];omega
 have aD:=hid aB;clear aB;go_enter Tryz.func83,Tryz.ntmps83;go_wp2_with fail;rw [<-aA];clear aA
 go_region_held3 (fun w'=>w'.cell? ⟨w.heap.size,0,none⟩=some (.int .i64 W)/\w'.cell? ⟨w.heap.size,1,none⟩=some (.int .i64 S)/\w'.cell? ⟨w.heap.size,9,none⟩=some (.slice a rs.length c)/\Below wb.heap.size wb w')
  (first | assumption | exact HT.out _ ((Below.refl _ _).drew) | exact HT.out _ ((Below.refl _ _).drew.trans aF))
  (first | (go_at_call 105;refine aE.out.mono ?_;rintro e w3 ⟨rfl,aF⟩) | (go_at_call 82;refine (kpj _ _).mono ?_;rw [<-HQ.out];rintro e wz ⟨rfl,rfl⟩))
 all_goals
  go_wp2;go_ret;exact ⟨rfl,aD.out.trans (((Below.refl _ _).drew.trans aF).mono aD.out.size)⟩
theorem ZTg (W S L T H F R U O:Int) (a:Option Addr) (rs:List Pr) (c:Nat) (w:World) (h:Prs w a rs) (hc:rs.length<=c) (hl:rs.length<=1048576) (hs:∀ x∈rs,x.1.size<=1048576/\x.2.size<=1048576) :
  Calls Tryz.prog 53 #[QPD W S L T H F R U O a rs.length c] w fun e w'=>e=.returned (.bool (jWr W S L T H F R U O rs))/\Below w.heap.size w w':=by
 unfold QPD
 have bU:∀ o,Below w.heap.size w (w.alloc o):=fun o=>(Below.refl _ _).alloc (Nat.le_refl _) _
 have bI:=hid (fun w2 (h2:Below w.heap.size w w2)=>vrd a rs c w2 (h.below h2) hl hs);have aR:=hid (fun w2 (h2:Below w.heap.size w w2)=>ZkU W S L T H F R U O a rs c w2 (h.below h2) hc hl hs);unfold QPD at aR;have aP:=hid bU;clear h hs;obtain ⟨E,HE⟩:∃ E,Hid (E=jWr W S L T H F R U O rs):=⟨_,hid rfl⟩;rw [<-HE.out];obtain ⟨Q,hQ⟩:∃ Q,Q=hv S:=⟨_,rfl⟩;have HQ:=hid hQ;have no:=kJm W S L T H F R U O rs;rw [<-HE.out,<-hQ] at no;rw [<-hQ] at aR;have NO:=hid no;clear no hQ
 by_cases c1:1<=W/\W<=8
 case neg =>
  have d1:decide (1<=W/\W<=8)=false:=decide_eq_false c1;have he:E=false:=NO.out (.inl (c1));subst he;go_enter Tryz.func53,Tryz.ntmps53
  go_wp2_with (first | (go_at_call 27;refine (jnI _ _).mono ?_;rw [d1];rintro e wz ⟨rfl,aA⟩;rw [aA];clear aA wz) | (go_at_call 50;refine (kAF _ _).mono ?_;rw [d2];rintro e wz ⟨rfl,aA⟩;rw [aA];clear aA wz) | (go_at_call 82;refine (kpj _ _).mono ?_;rw [<-HQ.out];rintro e wz ⟨rfl,aA⟩;rw [aA];clear aA wz))
  go_ret;exact ⟨rfl,aP.out _⟩
 have d1:decide (1<=W/\W<=8)=true:=decide_eq_true c1
 by_cases c2:8<=S/\S<=200
 case neg =>
  have d2:decide (8<=S/\S<=200)=false:=decide_eq_false c2;have he:E=false:=NO.out (.inr (.inl (c2)));subst he;go_enter Tryz.func53,Tryz.ntmps53
  go_wp2_with (first | (go_at_call 27;refine (jnI _ _).mono ?_;rw [d1];rintro e wz ⟨rfl,aA⟩;rw [aA];clear aA wz) | (go_at_call 50;refine (kAF _ _).mono ?_;rw [d2];rintro e wz ⟨rfl,aA⟩;rw [aA];clear aA wz) | (go_at_call 82;refine (kpj _ _).mono ?_;rw [<-HQ.out];rintro e wz ⟨rfl,aA⟩;rw [aA];clear aA wz))
  go_ret;exact ⟨rfl,aP.out _⟩
 have d2:decide (8<=S/\S<=200)=true:=decide_eq_true c2;have bW:3<=Q/\Q<=99:=by rw [HQ.out];exact QU8 c2
 by_cases c3:1<=L
 case neg =>
  have he:E=false:=NO.out (.inr (.inr (.inl (fun hh=>c3 hh.1))));subst he;go_enter Tryz.func53,Tryz.ntmps53
  go_wp2_with (first | (go_at_call 27;refine (jnI _ _).mono ?_;rw [d1];rintro e wz ⟨rfl,aA⟩;rw [aA];clear aA wz) | (go_at_call 50;refine (kAF _ _).mono ?_;rw [d2];rintro e wz ⟨rfl,aA⟩;rw [aA];clear aA wz) | (go_at_call 82;refine (kpj _ _).mono ?_;rw [<-HQ.out];rintro e wz ⟨rfl,aA⟩;rw [aA];clear aA wz))
  go_ret;exact ⟨rfl,aP.out _⟩
 by_cases bJ:L<=60000
 case neg =>
  have he:E=false:=NO.out (.inr (.inr (.inl (fun hh=>bJ hh.2))));subst he;go_enter Tryz.func53,Tryz.ntmps53
  go_wp2_with (first | (go_at_call 27;refine (jnI _ _).mono ?_;rw [d1];rintro e wz ⟨rfl,aA⟩;rw [aA];clear aA wz) | (go_at_call 50;refine (kAF _ _).mono ?_;rw [d2];rintro e wz ⟨rfl,aA⟩;rw [aA];clear aA wz) | (go_at_call 82;refine (kpj _ _).mono ?_;rw [<-HQ.out];rintro e wz ⟨rfl,aA⟩;rw [aA];clear aA wz))
  go_ret;exact ⟨rfl,aP.out _⟩
 cases d4:yWg T H F R with
 | false =>
  have he:E=false:=NO.out (.inr (.inr (.inr (.inl (d4)))));subst he;go_enter Tryz.func53,Tryz.ntmps53
  go_wp2_with (first | (go_at_call 27;refine (jnI _ _).mono ?_;rw [d1];rintro e wz ⟨rfl,aA⟩;rw [aA];clear aA wz) | (go_at_call 50;refine (kAF _ _).mono ?_;rw [d2];rintro e wz ⟨rfl,aA⟩;rw [aA];clear aA wz) | (go_at_call 82;refine (kpj _ _).mono ?_;rw [<-HQ.out];rintro e wz ⟨rfl,aA⟩;rw [aA];clear aA wz) | (go_at_call 81;refine (QyV _ _ _ _ _).mono ?_;rw [d4];rintro e w2 ⟨rfl,aB⟩;have aE:=hid ((aP.out _).trans (aB.mono (by simp)));have aF:w2.cell? ⟨w.heap.size,0,none⟩=some (.int .i64 W):=(aB.cell (p:=⟨w.heap.size,0,none⟩) (by simp)).trans (by go_simp);have aG:w2.cell? ⟨w.heap.size,1,none⟩=some (.int .i64 S):=(aB.cell (p:=⟨w.heap.size,1,none⟩) (by simp)).trans (by go_simp);have aH:w2.cell? ⟨w.heap.size,2,none⟩=some (.int .i64 L):=(aB.cell (p:=⟨w.heap.size,2,none⟩) (by simp)).trans (by go_simp);have aI:w2.cell? ⟨w.heap.size,3,none⟩=some (.int .i64 T):=(aB.cell (p:=⟨w.heap.size,3,none⟩) (by simp)).trans (by go_simp);have aJ:w2.cell? ⟨w.heap.size,4,none⟩=some (.int .i64 H):=(aB.cell (p:=⟨w.heap.size,4,none⟩) (by simp)).trans (by go_simp);have aK:w2.cell? ⟨w.heap.size,5,none⟩=some (.int .i64 F):=(aB.cell (p:=⟨w.heap.size,5,none⟩) (by simp)).trans (by go_simp);have aL:w2.cell? ⟨w.heap.size,6,none⟩=some (.int .i64 R):=(aB.cell (p:=⟨w.heap.size,6,none⟩) (by simp)).trans (by go_simp);have aM:w2.cell? ⟨w.heap.size,7,none⟩=some (.int .i64 U):=(aB.cell (p:=⟨w.heap.size,7,none⟩) (by simp)).trans (by go_simp);have aN:w2.cell? ⟨w.heap.size,8,none⟩=some (.int .i64 O):=(aB.cell (p:=⟨w.heap.size,8,none⟩) (by simp)).trans (by go_simp);have aO:w2.cell? ⟨w.heap.size,9,none⟩=some (.slice a rs.length c):=(aB.cell (p:=⟨w.heap.size,9,none⟩) (by simp)).trans (by go_simp);have aC:w.heap.size<w2.heap.size:=Nat.lt_of_lt_of_le (by simp) aB.size;clear aB))
  go_ret;exact ⟨rfl,aE.out⟩
 | true =>
  by_cases c5:0<=U
  case neg =>
   have he:E=false:=NO.out (.inr (.inr (.inr (.inr (.inl (fun hh=>c5 hh.1))))));subst he;go_enter Tryz.func53,Tryz.ntmps53
   go_wp2_with (first | (go_at_call 27;refine (jnI _ _).mono ?_;rw [d1];rintro e wz ⟨rfl,aA⟩;rw [aA];clear aA wz) | (go_at_call 50;refine (kAF _ _).mono ?_;rw [d2];rintro e wz ⟨rfl,aA⟩;rw [aA];clear aA wz) | (go_at_call 82;refine (kpj _ _).mono ?_;rw [<-HQ.out];rintro e wz ⟨rfl,aA⟩;rw [aA];clear aA wz) | (go_at_call 81;refine (QyV _ _ _ _ _).mono ?_;rw [d4];rintro e w2 ⟨rfl,aB⟩;have aE:=hid ((aP.out _).trans (aB.mono (by simp)));have aF:w2.cell? ⟨w.heap.size,0,none⟩=some (.int .i64 W):=(aB.cell (p:=⟨w.heap.size,0,none⟩) (by simp)).trans (by go_simp);have aG:w2.cell? ⟨w.heap.size,1,none⟩=some (.int .i64 S):=(aB.cell (p:=⟨w.heap.size,1,none⟩) (by simp)).trans (by go_simp);have aH:w2.cell? ⟨w.heap.size,2,none⟩=some (.int .i64 L):=(aB.cell (p:=⟨w.heap.size,2,none⟩) (by simp)).trans (by go_simp);have aI:w2.cell? ⟨w.heap.size,3,none⟩=some (.int .i64 T):=(aB.cell (p:=⟨w.heap.size,3,none⟩) (by simp)).trans (by go_simp);have aJ:w2.cell? ⟨w.heap.size,4,none⟩=some (.int .i64 H):=(aB.cell (p:=⟨w.heap.size,4,none⟩) (by simp)).trans (by go_simp);have aK:w2.cell? ⟨w.heap.size,5,none⟩=some (.int .i64 F):=(aB.cell (p:=⟨w.heap.size,5,none⟩) (by simp)).trans (by go_simp);have aL:w2.cell? ⟨w.heap.size,6,none⟩=some (.int .i64 R):=(aB.cell (p:=⟨w.heap.size,6,none⟩) (by simp)).trans (by go_simp);have aM:w2.cell? ⟨w.heap.size,7,none⟩=some (.int .i64 U):=(aB.cell (p:=⟨w.heap.size,7,none⟩) (by simp)).trans (by go_simp);have aN:w2.cell? ⟨w.heap.size,8,none⟩=some (.int .i64 O):=(aB.cell (p:=⟨w.heap.size,8,none⟩) (by simp)).trans (by go_simp);have aO:w2.cell? ⟨w.heap.size,9,none⟩=some (.slice a rs.length c):=(aB.cell (p:=⟨w.heap.size,9,none⟩) (by simp)).trans (by go_simp);have aC:w.heap.size<w2.heap.size:=Nat.lt_of_lt_of_le (by simp) aB.size;clear aB))
   go_quiet ((go_at_call 82;exact Calls.quiet_of_same (yxp _ _ HQ.out _)));go_wp2_with fail;go_ret;exact ⟨rfl,below_drewN aE.out nq⟩
  by_cases aS:U<=Q
  case neg =>
   have he:E=false:=NO.out (.inr (.inr (.inr (.inr (.inl (fun hh=>aS hh.2))))));subst he;go_enter Tryz.func53,Tryz.ntmps53
   go_wp2_with (first | (go_at_call 27;refine (jnI _ _).mono ?_;rw [d1];rintro e wz ⟨rfl,aA⟩;rw [aA];clear aA wz) | (go_at_call 50;refine (kAF _ _).mono ?_;rw [d2];rintro e wz ⟨rfl,aA⟩;rw [aA];clear aA wz) | (go_at_call 82;refine (kpj _ _).mono ?_;rw [<-HQ.out];rintro e wz ⟨rfl,aA⟩;rw [aA];clear aA wz) | (go_at_call 81;refine (QyV _ _ _ _ _).mono ?_;rw [d4];rintro e w2 ⟨rfl,aB⟩;have aE:=hid ((aP.out _).trans (aB.mono (by simp)));have aF:w2.cell? ⟨w.heap.size,0,none⟩=some (.int .i64 W):=(aB.cell (p:=⟨w.heap.size,0,none⟩) (by simp)).trans (by go_simp);have aG:w2.cell? ⟨w.heap.size,1,none⟩=some (.int .i64 S):=(aB.cell (p:=⟨w.heap.size,1,none⟩) (by simp)).trans (by go_simp);have aH:w2.cell? ⟨w.heap.size,2,none⟩=some (.int .i64 L):=(aB.cell (p:=⟨w.heap.size,2,none⟩) (by simp)).trans (by go_simp);have aI:w2.cell? ⟨w.heap.size,3,none⟩=some (.int .i64 T):=(aB.cell (p:=⟨w.heap.size,3,none⟩) (by simp)).trans (by go_simp);have aJ:w2.cell? ⟨w.heap.size,4,none⟩=some (.int .i64 H):=(aB.cell (p:=⟨w.heap.size,4,none⟩) (by simp)).trans (by go_simp);have aK:w2.cell? ⟨w.heap.size,5,none⟩=some (.int .i64 F):=(aB.cell (p:=⟨w.heap.size,5,none⟩) (by simp)).trans (by go_simp);have aL:w2.cell? ⟨w.heap.size,6,none⟩=some (.int .i64 R):=(aB.cell (p:=⟨w.heap.size,6,none⟩) (by simp)).trans (by go_simp);have aM:w2.cell? ⟨w.heap.size,7,none⟩=some (.int .i64 U):=(aB.cell (p:=⟨w.heap.size,7,none⟩) (by simp)).trans (by go_simp);have aN:w2.cell? ⟨w.heap.size,8,none⟩=some (.int .i64 O):=(aB.cell (p:=⟨w.heap.size,8,none⟩) (by simp)).trans (by go_simp);have aO:w2.cell? ⟨w.heap.size,9,none⟩=some (.slice a rs.length c):=(aB.cell (p:=⟨w.heap.size,9,none⟩) (by simp)).trans (by go_simp);have aC:w.heap.size<w2.heap.size:=Nat.lt_of_lt_of_le (by simp) aB.size;clear aB))
   go_quiet ((go_at_call 82;exact Calls.quiet_of_same (yxp _ _ HQ.out _)));go_wp2_with fail;go_ret;exact ⟨rfl,below_drewN aE.out nq⟩
  by_cases c6:0<=O
  case neg =>
   have he:E=false:=NO.out (.inr (.inr (.inr (.inr (.inr (.inl (fun hh=>c6 hh.1)))))));subst he;go_enter Tryz.func53,Tryz.ntmps53
   go_wp2_with (first | (go_at_call 27;refine (jnI _ _).mono ?_;rw [d1];rintro e wz ⟨rfl,aA⟩;rw [aA];clear aA wz) | (go_at_call 50;refine (kAF _ _).mono ?_;rw [d2];rintro e wz ⟨rfl,aA⟩;rw [aA];clear aA wz) | (go_at_call 82;refine (kpj _ _).mono ?_;rw [<-HQ.out];rintro e wz ⟨rfl,aA⟩;rw [aA];clear aA wz) | (go_at_call 81;refine (QyV _ _ _ _ _).mono ?_;rw [d4];rintro e w2 ⟨rfl,aB⟩;have aE:=hid ((aP.out _).trans (aB.mono (by simp)));have aF:w2.cell? ⟨w.heap.size,0,none⟩=some (.int .i64 W):=(aB.cell (p:=⟨w.heap.size,0,none⟩) (by simp)).trans (by go_simp);have aG:w2.cell? ⟨w.heap.size,1,none⟩=some (.int .i64 S):=(aB.cell (p:=⟨w.heap.size,1,none⟩) (by simp)).trans (by go_simp);have aH:w2.cell? ⟨w.heap.size,2,none⟩=some (.int .i64 L):=(aB.cell (p:=⟨w.heap.size,2,none⟩) (by simp)).trans (by go_simp);have aI:w2.cell? ⟨w.heap.size,3,none⟩=some (.int .i64 T):=(aB.cell (p:=⟨w.heap.size,3,none⟩) (by simp)).trans (by go_simp);have aJ:w2.cell? ⟨w.heap.size,4,none⟩=some (.int .i64 H):=(aB.cell (p:=⟨w.heap.size,4,none⟩) (by simp)).trans (by go_simp);have aK:w2.cell? ⟨w.heap.size,5,none⟩=some (.int .i64 F):=(aB.cell (p:=⟨w.heap.size,5,none⟩) (by simp)).trans (by go_simp);have aL:w2.cell? ⟨w.heap.size,6,none⟩=some (.int .i64 R):=(aB.cell (p:=⟨w.heap.size,6,none⟩) (by simp)).trans (by go_simp);have aM:w2.cell? ⟨w.heap.size,7,none⟩=some (.int .i64 U):=(aB.cell (p:=⟨w.heap.size,7,none⟩) (by simp)).trans (by go_simp);have aN:w2.cell? ⟨w.heap.size,8,none⟩=some (.int .i64 O):=(aB.cell (p:=⟨w.heap.size,8,none⟩) (by simp)).trans (by go_simp);have aO:w2.cell? ⟨w.heap.size,9,none⟩=some (.slice a rs.length c):=(aB.cell (p:=⟨w.heap.size,9,none⟩) (by simp)).trans (by go_simp);have aC:w.heap.size<w2.heap.size:=Nat.lt_of_lt_of_le (by simp) aB.size;clear aB))
   go_quiet ((go_at_call 82;exact Calls.quiet_of_same (yxp _ _ HQ.out _)));go_wp2_with fail;go_ret;exact ⟨rfl,below_drewN aE.out nq⟩
  by_cases bQ:O<=U
  case neg =>
   have he:E=false:=NO.out (.inr (.inr (.inr (.inr (.inr (.inl (fun hh=>bQ hh.2)))))));subst he;go_enter Tryz.func53,Tryz.ntmps53
   go_wp2_with (first | (go_at_call 27;refine (jnI _ _).mono ?_;rw [d1];rintro e wz ⟨rfl,aA⟩;rw [aA];clear aA wz) | (go_at_call 50;refine (kAF _ _).mono ?_;rw [d2];rintro e wz ⟨rfl,aA⟩;rw [aA];clear aA wz) | (go_at_call 82;refine (kpj _ _).mono ?_;rw [<-HQ.out];rintro e wz ⟨rfl,aA⟩;rw [aA];clear aA wz) | (go_at_call 81;refine (QyV _ _ _ _ _).mono ?_;rw [d4];rintro e w2 ⟨rfl,aB⟩;have aE:=hid ((aP.out _).trans (aB.mono (by simp)));have aF:w2.cell? ⟨w.heap.size,0,none⟩=some (.int .i64 W):=(aB.cell (p:=⟨w.heap.size,0,none⟩) (by simp)).trans (by go_simp);have aG:w2.cell? ⟨w.heap.size,1,none⟩=some (.int .i64 S):=(aB.cell (p:=⟨w.heap.size,1,none⟩) (by simp)).trans (by go_simp);have aH:w2.cell? ⟨w.heap.size,2,none⟩=some (.int .i64 L):=(aB.cell (p:=⟨w.heap.size,2,none⟩) (by simp)).trans (by go_simp);have aI:w2.cell? ⟨w.heap.size,3,none⟩=some (.int .i64 T):=(aB.cell (p:=⟨w.heap.size,3,none⟩) (by simp)).trans (by go_simp);have aJ:w2.cell? ⟨w.heap.size,4,none⟩=some (.int .i64 H):=(aB.cell (p:=⟨w.heap.size,4,none⟩) (by simp)).trans (by go_simp);have aK:w2.cell? ⟨w.heap.size,5,none⟩=some (.int .i64 F):=(aB.cell (p:=⟨w.heap.size,5,none⟩) (by simp)).trans (by go_simp);have aL:w2.cell? ⟨w.heap.size,6,none⟩=some (.int .i64 R):=(aB.cell (p:=⟨w.heap.size,6,none⟩) (by simp)).trans (by go_simp);have aM:w2.cell? ⟨w.heap.size,7,none⟩=some (.int .i64 U):=(aB.cell (p:=⟨w.heap.size,7,none⟩) (by simp)).trans (by go_simp);have aN:w2.cell? ⟨w.heap.size,8,none⟩=some (.int .i64 O):=(aB.cell (p:=⟨w.heap.size,8,none⟩) (by simp)).trans (by go_simp);have aO:w2.cell? ⟨w.heap.size,9,none⟩=some (.slice a rs.length c):=(aB.cell (p:=⟨w.heap.size,9,none⟩) (by simp)).trans (by go_simp);have aC:w.heap.size<w2.heap.size:=Nat.lt_of_lt_of_le (by simp) aB.size;clear aB))
   go_quiet ((go_at_call 82;exact Calls.quiet_of_same (yxp _ _ HQ.out _)));go_wp2_with fail;go_ret;exact ⟨rfl,below_drewN aE.out nq⟩
  cases dS:z0q rs with
  | false =>
   have he:E=false:=NO.out (.inr (.inr (.inr (.inr (.inr (.inr (.inl (dS))))))));subst he;go_enter Tryz.func53,Tryz.ntmps53
   go_wp2_with (first | (go_at_call 27;refine (jnI _ _).mono ?_;rw [d1];rintro e wz ⟨rfl,aA⟩;rw [aA];clear aA wz) | (go_at_call 50;refine (kAF _ _).mono ?_;rw [d2];rintro e wz ⟨rfl,aA⟩;rw [aA];clear aA wz) | (go_at_call 82;refine (kpj _ _).mono ?_;rw [<-HQ.out];rintro e wz ⟨rfl,aA⟩;rw [aA];clear aA wz) | (go_at_call 81;refine (QyV _ _ _ _ _).mono ?_;rw [d4];rintro e w2 ⟨rfl,aB⟩;have aE:=hid ((aP.out _).trans (aB.mono (by simp)));have aF:w2.cell? ⟨w.heap.size,0,none⟩=some (.int .i64 W):=(aB.cell (p:=⟨w.heap.size,0,none⟩) (by simp)).trans (by go_simp);have aG:w2.cell? ⟨w.heap.size,1,none⟩=some (.int .i64 S):=(aB.cell (p:=⟨w.heap.size,1,none⟩) (by simp)).trans (by go_simp);have aH:w2.cell? ⟨w.heap.size,2,none⟩=some (.int .i64 L):=(aB.cell (p:=⟨w.heap.size,2,none⟩) (by simp)).trans (by go_simp);have aI:w2.cell? ⟨w.heap.size,3,none⟩=some (.int .i64 T):=(aB.cell (p:=⟨w.heap.size,3,none⟩) (by simp)).trans (by go_simp);have aJ:w2.cell? ⟨w.heap.size,4,none⟩=some (.int .i64 H):=(aB.cell (p:=⟨w.heap.size,4,none⟩) (by simp)).trans (by go_simp);have aK:w2.cell? ⟨w.heap.size,5,none⟩=some (.int .i64 F):=(aB.cell (p:=⟨w.heap.size,5,none⟩) (by simp)).trans (by go_simp);have aL:w2.cell? ⟨w.heap.size,6,none⟩=some (.int .i64 R):=(aB.cell (p:=⟨w.heap.size,6,none⟩) (by simp)).trans (by go_simp);have aM:w2.cell? ⟨w.heap.size,7,none⟩=some (.int .i64 U):=(aB.cell (p:=⟨w.heap.size,7,none⟩) (by simp)).trans (by go_simp);have aN:w2.cell? ⟨w.heap.size,8,none⟩=some (.int .i64 O):=(aB.cell (p:=⟨w.heap.size,8,none⟩) (by simp)).trans (by go_simp);have aO:w2.cell? ⟨w.heap.size,9,none⟩=some (.slice a rs.length c):=(aB.cell (p:=⟨w.heap.size,9,none⟩) (by simp)).trans (by go_simp);have aC:w.heap.size<w2.heap.size:=Nat.lt_of_lt_of_le (by simp) aB.size;clear aB))
   go_quiet ((go_at_call 82;exact Calls.quiet_of_same (yxp _ _ HQ.out _)))
   go_wp2_with (first  | (go_at_call 54;refine (bI.out _ (below_drewN aE.out nq)).mono ?_;rw [dS];rintro e w3 ⟨rfl,aD⟩;have aQ:=hid ((below_drewN aE.out nq).trans (aD.mono aE.out.size));have aT:w3.cell? ⟨w.heap.size,0,none⟩=some (.int .i64 W):=(aD.cell (p:=⟨w.heap.size,0,none⟩) aC).trans aF;have aU:w3.cell? ⟨w.heap.size,1,none⟩=some (.int .i64 S):=(aD.cell (p:=⟨w.heap.size,1,none⟩) aC).trans aG;have aV:w3.cell? ⟨w.heap.size,2,none⟩=some (.int .i64 L):=(aD.cell (p:=⟨w.heap.size,2,none⟩) aC).trans aH;have aW:w3.cell? ⟨w.heap.size,3,none⟩=some (.int .i64 T):=(aD.cell (p:=⟨w.heap.size,3,none⟩) aC).trans aI;have aX:w3.cell? ⟨w.heap.size,4,none⟩=some (.int .i64 H):=(aD.cell (p:=⟨w.heap.size,4,none⟩) aC).trans aJ;have aY:w3.cell? ⟨w.heap.size,5,none⟩=some (.int .i64 F):=(aD.cell (p:=⟨w.heap.size,5,none⟩) aC).trans aK;have aZ:w3.cell? ⟨w.heap.size,6,none⟩=some (.int .i64 R):=(aD.cell (p:=⟨w.heap.size,6,none⟩) aC).trans aL;have bC:w3.cell? ⟨w.heap.size,7,none⟩=some (.int .i64 U):=(aD.cell (p:=⟨w.heap.size,7,none⟩) aC).trans aM;have bG:w3.cell? ⟨w.heap.size,8,none⟩=some (.int .i64 O):=(aD.cell (p:=⟨w.heap.size,8,none⟩) aC).trans aN;have bH:w3.cell? ⟨w.heap.size,9,none⟩=some (.slice a rs.length c):=(aD.cell (p:=⟨w.heap.size,9,none⟩) aC).trans aO;clear aD))
   go_ret;exact ⟨rfl,aQ.out⟩
  | true =>
   obtain ⟨D,HD⟩:∃ D,Hid (D=decide (xee (ZZG rs) W<=Q-1)):=⟨_,hid rfl⟩
   have he:E=D:=by
    rw [HE.out,HD.out,HQ.out];rw [HQ.out] at aS;unfold jWr;simp [c1,c2,c3,bJ,d4,c5,aS,c6,bQ,dS]
   rw [<-HD.out] at aR;clear NO HE;subst he;go_enter Tryz.func53,Tryz.ntmps53
   go_wp2_with (first | (go_at_call 27;refine (jnI _ _).mono ?_;rw [d1];rintro e wz ⟨rfl,aA⟩;rw [aA];clear aA wz) | (go_at_call 50;refine (kAF _ _).mono ?_;rw [d2];rintro e wz ⟨rfl,aA⟩;rw [aA];clear aA wz) | (go_at_call 82;refine (kpj _ _).mono ?_;rw [<-HQ.out];rintro e wz ⟨rfl,aA⟩;rw [aA];clear aA wz) | (go_at_call 81;refine (QyV _ _ _ _ _).mono ?_;rw [d4];rintro e w2 ⟨rfl,aB⟩;have aE:=hid ((aP.out _).trans (aB.mono (by simp)));have aF:w2.cell? ⟨w.heap.size,0,none⟩=some (.int .i64 W):=(aB.cell (p:=⟨w.heap.size,0,none⟩) (by simp)).trans (by go_simp);have aG:w2.cell? ⟨w.heap.size,1,none⟩=some (.int .i64 S):=(aB.cell (p:=⟨w.heap.size,1,none⟩) (by simp)).trans (by go_simp);have aH:w2.cell? ⟨w.heap.size,2,none⟩=some (.int .i64 L):=(aB.cell (p:=⟨w.heap.size,2,none⟩) (by simp)).trans (by go_simp);have aI:w2.cell? ⟨w.heap.size,3,none⟩=some (.int .i64 T):=(aB.cell (p:=⟨w.heap.size,3,none⟩) (by simp)).trans (by go_simp);have aJ:w2.cell? ⟨w.heap.size,4,none⟩=some (.int .i64 H):=(aB.cell (p:=⟨w.heap.size,4,none⟩) (by simp)).trans (by go_simp);have aK:w2.cell? ⟨w.heap.size,5,none⟩=some (.int .i64 F):=(aB.cell (p:=⟨w.heap.size,5,none⟩) (by simp)).trans (by go_simp);have aL:w2.cell? ⟨w.heap.size,6,none⟩=some (.int .i64 R):=(aB.cell (p:=⟨w.heap.size,6,none⟩) (by simp)).trans (by go_simp);have aM:w2.cell? ⟨w.heap.size,7,none⟩=some (.int .i64 U):=(aB.cell (p:=⟨w.heap.size,7,none⟩) (by simp)).trans (by go_simp);have aN:w2.cell? ⟨w.heap.size,8,none⟩=some (.int .i64 O):=(aB.cell (p:=⟨w.heap.size,8,none⟩) (by simp)).trans (by go_simp);have aO:w2.cell? ⟨w.heap.size,9,none⟩=some (.slice a rs.length c):=(aB.cell (p:=⟨w.heap.size,9,none⟩) (by simp)).trans (by go_simp);have aC:w.heap.size<w2.heap.size:=Nat.lt_of_lt_of_le (by simp) aB.size;clear aB))
   go_quiet ((go_at_call 82;exact Calls.quiet_of_same (yxp _ _ HQ.out _)))
   go_wp2_with (first  | (go_at_call 54;refine (bI.out _ (below_drewN aE.out nq)).mono ?_;rw [dS];rintro e w3 ⟨rfl,aD⟩;have aQ:=hid ((below_drewN aE.out nq).trans (aD.mono aE.out.size));have aT:w3.cell? ⟨w.heap.size,0,none⟩=some (.int .i64 W):=(aD.cell (p:=⟨w.heap.size,0,none⟩) aC).trans aF;have aU:w3.cell? ⟨w.heap.size,1,none⟩=some (.int .i64 S):=(aD.cell (p:=⟨w.heap.size,1,none⟩) aC).trans aG;have aV:w3.cell? ⟨w.heap.size,2,none⟩=some (.int .i64 L):=(aD.cell (p:=⟨w.heap.size,2,none⟩) aC).trans aH;have aW:w3.cell? ⟨w.heap.size,3,none⟩=some (.int .i64 T):=(aD.cell (p:=⟨w.heap.size,3,none⟩) aC).trans aI;have aX:w3.cell? ⟨w.heap.size,4,none⟩=some (.int .i64 H):=(aD.cell (p:=⟨w.heap.size,4,none⟩) aC).trans aJ;have aY:w3.cell? ⟨w.heap.size,5,none⟩=some (.int .i64 F):=(aD.cell (p:=⟨w.heap.size,5,none⟩) aC).trans aK;have aZ:w3.cell? ⟨w.heap.size,6,none⟩=some (.int .i64 R):=(aD.cell (p:=⟨w.heap.size,6,none⟩) aC).trans aL;have bC:w3.cell? ⟨w.heap.size,7,none⟩=some (.int .i64 U):=(aD.cell (p:=⟨w.heap.size,7,none⟩) aC).trans aM;have bG:w3.cell? ⟨w.heap.size,8,none⟩=some (.int .i64 O):=(aD.cell (p:=⟨w.heap.size,8,none⟩) aC).trans aN;have bH:w3.cell? ⟨w.heap.size,9,none⟩=some (.slice a rs.length c):=(aD.cell (p:=⟨w.heap.size,9,none⟩) aC).trans aO;clear aD) | (go_at_call 83;refine (aR.out _ aQ.out).mono ?_;rintro e w4 ⟨rfl,bV⟩))
   go_ret;exact ⟨rfl,aQ.out.trans (bV.mono aQ.out.size)⟩
end Go.Proofs.YtehbpeinnepdcaaGreatDoor
