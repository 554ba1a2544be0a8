import Derived.Test.YtehbpeinnepdcaaGreatDoorPrFbI
import Derived.Test.YtehbpeinnepdcaaGreatDoorPrFbS
import Derived.Test.YtehbpeinnepdcaaGreatDoorPrG45
import Derived.Test.YtehbpeinnepdcaaGreatDoorPrG42
set_option maxHeartbeats 16000000
set_option maxRecDepth 8000
set_option linter.unusedVariables false
set_option linter.unusedSimpArgs false
namespace Go.Proofs.YtehbpeinnepdcaaGreatDoor
open Go.RowKit
theorem jX2 {T e:TypeId} {B b:Nat} {bs:List Value} {w w':World} (h:Lib.IsBuilder T e B b bs w) (hb:Below w.heap.size w w'):Lib.IsBuilder T e B b bs w':=by
 have aA:∀ p,Lib.BuilderAt T e B b p bs w->Lib.BuilderAt T e B b p bs w':=fun p hp=>by
  obtain ⟨h1,v,h2,h3,h4⟩:=hp
  have aB:b<w.heap.size:=by
   rcases Nat.lt_or_ge b w.heap.size with h | h
   ·exact h
   ·rw [Array.getElem?_eq_none h] at h2;cases h2
  exact ⟨h1,v,by rw [hb.block b aB];exact h2,jcb h3 hb,h4⟩
 rcases h with h | h
 ·exact .inl (aA _ h)
 ·exact .inr (aA _ h)
theorem zZg (f s:ByteArray):Lib.byteCells f.data.toList++Lib.strCells s=Lib.byteCells (f++s).data.toList:=by
 rw [Lib.strCells_eq,<-Lib.byteCells_append]
 congr 1
theorem xaZ (k:ByteArray) (w:World) (hk:k.size<=255):Calls Tryz.prog 164 #[.agg #[.string k]] w fun e w'=>e=.returned (.string (strOfNums [1]++(strOfNums [(k.size:Int)]++k)))/\Below w.heap.size w w':=by
 have aC:∀ o,Below w.heap.size w (w.alloc o):=fun o=>(Below.refl _ _).alloc (Nat.le_refl _) _
 have aE:∀ o o',Below w.heap.size w ((w.alloc o).alloc o'):=fun o o'=>(aC o).alloc (by simp) _
 have aF:∀ (x:World) (b:Nat),x.cell? ⟨b,0,none⟩=some (.int .u8 1)->(convert 22 9 (.slice (some ⟨b,0,none⟩) 1 1)).run Tryz.prog x=.ok (.string (strOfNums [1])) x:=fun x b h=>vPf x b 1 h
 have n1:¬ 9223372036854775807<1+(1+k.size):=by omega
 have z0:(strOfNums [1]).size=1:=by rw [strOfNums_size];rfl
 have z1:(strOfNums [(k.size:Int)]++k).size=1+k.size:=by rw [ByteArray.size_append,strOfNums_size];rfl
 go_enter Tryz.func164,Tryz.ntmps164;go_wp2_with fail;go_region_law (refine XRf (by rfl) 165 #[.string k] (by go_simp) (qYA k _ hk) ?_;rintro e w7 ⟨rfl,aA⟩;refine ⟨_,rfl,?_⟩;have aD:=aA.size;simp only [World.size_alloc,World.size_drew] at aD;have aG:w.heap.size<w7.heap.size:=(by omega);have aH:=Nat.lt_of_succ_le aD;obtain ⟨q7,_⟩:=yip aA;have aB:=hid aA;clear aA)
 all_goals
  go_wp2;go_ret;refine ⟨rfl,?_⟩
  first
   | exact bs (aE _ _).drew aB.out
   | exact (bs (aC _).drew aB.out).alloc (bs (aC _).drew aB.out).size _
theorem vom (j:Nat) (v v':Value) (w:World):Sem.run Tryz.prog (method (j+1) 198 (.agg #[v,v']) "loop.example/kilnstone/impl.form") w=.ok (167,.agg #[v,v']) w:=by kernel_rfl
theorem j3X (j:Nat) (v:Value) (w:World):Sem.run Tryz.prog (method (j+1) 196 (.agg #[v]) "loop.example/kilnstone/impl.form") w=.ok (164,.agg #[v]) w:=by kernel_rfl
theorem qm5 (a:Option Addr) (rs:List (ByteArray×ByteArray×Bool)) (c:Nat) (w:World) (h:Chs w a rs) (hl:rs.length<=1048576) (hs:∀ x∈rs,x.1.size<=1048576/\x.2.1.size<=1048576) :
  Calls Tryz.prog 112 #[.slice a rs.length c] w fun e w'=>e=.returned (.string (jvj rs))/\Below w.heap.size w w':=by
 unfold jvj
 cases hok:kpJ rs with
 | false =>
  simp only [Bool.false_eq_true,if_false];go_enter Tryz.func112,Tryz.ntmps112;go_wp2_with (go_at_call 118;refine (XQq a rs c _ h hl hs).mono ?_;rw [hok];rintro e w2 ⟨rfl,aC⟩);go_ret;exact ⟨rfl,aC⟩
 | true =>
  simp only [if_true];obtain ⟨hn,aF⟩:=q4Z hok;have aD:=hid aF;clear aF;obtain ⟨F,HF⟩:∃ F,Hid (F=vGL rs):=⟨_,hid rfl⟩;rw [<-HF.out];go_enter Tryz.func112,Tryz.ntmps112;go_wp2_with (go_at_call 118;refine (XQq a rs c _ h hl hs).mono ?_;rw [hok];rintro e w2 ⟨rfl,aC⟩);go_loopw [5,11] (fun _ i wr=>∃ k:Nat,k<=rs.length/\i=.int .i64 k/\Lib.IsBuilder 184 5 w2.heap.size w2.heap.size (Lib.byteCells (vGL (rs.take k)).data.toList) wr/\Below w2.heap.size w2 wr) (fun _ i _=>rs.length-(intOf i).toNat)
  case atStart=>exact ⟨0,Nat.zero_le _,rfl,by rw [List.take_zero];exact Lib.fresh_isBuilder _ _ _,(Below.refl _ _).alloc (Nat.le_refl _) _⟩
  case round =>
   obtain ⟨k,hk,rfl,aK,aA⟩:=hrel
   by_cases aQ:k<rs.length
   ·obtain ⟨b,o,s0,s1,g2,rfl,bC,bG,bH,HS⟩:=(h.below (aC.trans (aA.mono aC.size))).at aQ
    have hm:Hid ((s0,s1,g2)∈rs):=by show _∈_;rw [HS.out];simp [List.getD,aQ]
    have aL:=aD.out _ hm.out;have aS:s0.size<=255:=by simp [yO3,kOk,vOk] at aL;omega
    have aZ:s1.size<=255:=by simp [yO3,kOk,vOk] at aL;omega
    have aU:=hid (JeZ _ aL);have aT:=hid (XEt (rs.take k) (fun x hx=>aD.out x (List.mem_of_mem_take hx)));have aR:=hid (jVe rs k _ _ aQ HS.out)
    have aJ:(Lib.byteCells (vGL (rs.take k)).data.toList).length+(strOfNums (chN (s0,s1,g2))).size<=140737488355328:=by
     rw [Lib.byteCells_length];have h1:(vGL (rs.take k)).data.toList.length=(vGL (rs.take k)).size:=rfl;have h2:=aT.out;have h3:=aU.out;rw [List.length_take] at h2;omega
    have aW:(k:Int)<(rs.length:Int):=by omega
    have aM:=aA.size;have HB:=hid aA;have aE:=hid aK;clear aK aA aL
    cases g2 with
    | false =>
     have aX:=fun j w=>vom j (.string s0) (.string s1) w
     go_wp2_with (first | (go_at_call 120;refine (Qgi s0 s1 _).mono ?_;rintro e w4 ⟨rfl,aG⟩) | (go_at_call 167;refine (qh2 s0 s1 _ aS aZ).mono ?_;rw [Z6h];rintro e w5 ⟨rfl,aH⟩;have aB:=bs (bs ((Below.refl wr.heap.size wr).alloc (Nat.le_refl _) _) aG) aH;have aN:=hid aB;have aO:=hid (jX2 aE.out aB);have aY:=aB.size;clear aG aH aB) | (go_at_call 119;refine (Ja6 _ _ _ _ _ aO.out aJ (by omega)).mono ?_;rintro e w6 ⟨rfl,aI,aP⟩))
     refine ⟨⟨k+1,by omega,by go_num,?_,HB.out.trans ((aN.out.mono aM).trans aP)⟩,by simp [intOf];omega⟩;rw [aR.out,<-zZg];exact .inr aI
    | true =>
     have aX:=fun j w=>j3X j (.string s0) w
     go_wp2_with (first | (go_at_call 120;refine (jH0 s0 s1 _).mono ?_;rintro e w4 ⟨rfl,aG⟩) | (go_at_call 164;refine (xaZ s0 _ aS).mono ?_;rw [jps s0 s1];rintro e w5 ⟨rfl,aH⟩;have aB:=bs (bs ((Below.refl wr.heap.size wr).alloc (Nat.le_refl _) _) aG) aH;have aN:=hid aB;have aO:=hid (jX2 aE.out aB);have aY:=aB.size;clear aG aH aB) | (go_at_call 119;refine (Ja6 _ _ _ _ _ aO.out aJ (by omega)).mono ?_;rintro e w6 ⟨rfl,aI,aP⟩))
     refine ⟨⟨k+1,by omega,by go_num,?_,HB.out.trans ((aN.out.mono aM).trans aP)⟩,by simp [intOf];omega⟩;rw [aR.out,<-zZg];exact .inr aI
   ·have aV:k=rs.length:=by omega
    subst aV;have aM:=aA.size;have aE:=hid aK;clear aK;rw [List.take_length,<-HF.out] at aE;go_wp2_with (go_at_call 121;refine (ZKd _ _ _ _ aE.out aM).mono ?_;rintro e w6 ⟨rfl,aI⟩);go_ret;refine ⟨?_,aC.trans ((aA.trans aI).mono aC.size)⟩;have e:(⟨F.data.toList.toArray⟩:ByteArray)=F:=by simp
    first | rw [<-e];rfl | (simp;rfl)
def xee (aA:List (List Ch)) (n:Int):Int:=(aA.map fun b=>JFN (jvj b).size n).sum
theorem jxV (l:Nat) (n:Int):0<=JFN l n/\JFN l n<=(l:Int)+1:=by
 unfold JFN QgM
 split
 ·split
  ·omega
  ·have h:=Nat.div_le_self (l-1) (56-n).toNat
   obtain ⟨q,hq⟩:∃ q,q=(l-1) / (56-n).toNat:=⟨_,rfl⟩;rw [<-hq] at h ⊢;omega
 ·omega
theorem ks4 (b:List Ch):(jvj b).size<=2460:=by
 unfold jvj
 split
 ·rename_i h
  obtain ⟨h1,h2⟩:=q4Z h;have:=XEt b h2;omega
 ·simp
theorem ZL5 (n:Int):xee [] n=0:=rfl
theorem Zbv (aA:List (List Ch)) (b:List Ch) (n:Int):xee (aA++[b]) n=xee aA n+JFN (jvj b).size n:=by simp [xee]
theorem z3n (aA:List (List Ch)) (n:Int):0<=xee aA n/\xee aA n<=2461*(aA.length:Int):=by
 induction aA with
 | nil=>exact ⟨Int.le_refl _,by simp [xee]⟩
 | cons b r ih =>
  have e:xee (b::r) n=JFN (jvj b).size n+xee r n:=by simp [xee]
  have h1:=jxV (jvj b).size n;have h2:=ks4 b;rw [e,List.length_cons];omega
theorem QsK {α:Type} (l:List α) (k:Nat) (d:α) (h:k<l.length):l.take (k+1)=l.take k++[l.getD k d]:=by
 rw [List.take_succ_eq_append_getElem h];simp [List.getD,h]
theorem JBO (a:Option Addr) (rs:List Pr) (c:Nat) (n:Int) (w:World) (h:Prs w a rs) (hl:rs.length<=1048576) (hs:∀ x∈rs,x.1.size<=1048576/\x.2.size<=1048576) :
  Calls Tryz.prog 37 #[.agg #[.slice a rs.length c],.int .i64 n] w fun e w'=>e=.returned (.int .i64 (xee (ZZG rs) n))/\Below w.heap.size w w':=by
 have aH:Below w.heap.size w (w.alloc (.cells #[.slice a rs.length c] 31)):=(Below.refl _ _).alloc (Nat.le_refl _) _;have hv:=kL5 a rs c (w.alloc (.cells #[.slice a rs.length c] 31)) (h.below aH) hl hs;have HV:=hid hv;have aG:=hid aH;clear hv aH;obtain ⟨aA,aD⟩:∃ aA,aA=ZZG rs:=⟨_,rfl⟩;have aU:=xwW rs
 have aS:Hid (∀ b∈aA,b.length<=1048576/\∀ x∈b,x.1.size<=1048576/\x.2.1.size<=1048576):=by
  intro b hb;rw [aD] at hb;obtain ⟨h1,h2⟩:=j2b hb;exact ⟨by omega,fun x hx=>hs _ (h2 x hx)⟩
 rw [<-aD] at HV aU ⊢;clear aD;go_enter Tryz.func37,Tryz.ntmps37;go_wp2_with (go_at_call 65;refine HV.out.mono ?_;rintro e w2 ⟨v,rfl,aF,aM⟩);obtain ⟨va,vc,rfl,aP⟩:=aF.bts;have aQ:=hid aP;have aL:=hid (aG.out.trans (aM.mono aG.out.size));clear aF aM aP HV aG;go_loopw [5,7] (fun y i wr=>∃ k:Nat,k<=aA.length/\i=.int .i64 (k:Int)/\y=.int .i64 (xee (aA.take k) n)/\Below w2.heap.size w2 wr) (fun _ i _=>aA.length-(intOf i).toNat)
 case atStart=>exact ⟨0,Nat.zero_le _,rfl,rfl,Below.refl _ _⟩
 case round =>
  obtain ⟨k,hk,rfl,rfl,aB⟩:=hrel
  by_cases aJ:k<aA.length
  ·obtain ⟨g,p,cc,rfl,hg,hc,aI⟩:=(aQ.out.below aB).at aJ
   have aW:(k:Int)<(aA.length:Int):=by omega
   have aY:(0:Int)<=(k:Int):=by omega
   have aC:=aS.out (aA.getD k []) (by simp [List.getD,aJ]);have aE:=hid (Zbv (aA.take k) (aA.getD k []) n);rw [<-QsK aA k [] aJ] at aE;have hR:=z3n (aA.take k) n;have aX:(aA.take k).length<=5:=by rw [List.length_take];omega
   have hP:=jxV (jvj (aA.getD k [])).size n;have hO:=ks4 (aA.getD k []);obtain ⟨b,hb⟩:∃ b,b=aA.getD k []:=⟨_,rfl⟩;rw [<-hb] at hc aI aC aE hP hO;obtain ⟨r,hr⟩:∃ r,r=xee (aA.take k) n:=⟨_,rfl⟩;rw [<-hr] at aE hR ⊢;have HF:=hid (fun W (hW:Chs W p b)=>Qqx p b cc W hW aC.1 aC.2);have HG:=hid (fun W=>J0I (jvj b) n W (by omega));have aR:=hid aI;have aK:=hid aB;obtain ⟨q,hq⟩:∃ q,q=JFN (jvj b).size n:=⟨_,rfl⟩;rw [<-hq] at HG hP aE;obtain ⟨bo,aO⟩:∃ bo,bo=jvj b:=⟨_,rfl⟩;rw [<-aO] at HF HG hP hO;have aZ:IntKind.i64.wrap (r+q)=r+q:=by simp [IntKind.wrap,IntKind.bits,IntKind.signed];omega
   clear hb hr hq aO aC aI aB
   go_wp2_with (first | (go_at_call 67;refine (HF.out _ aR.out).mono ?_;rintro e w3 ⟨rfl,aN⟩) | (go_at_call 66;refine (HG.out _).mono ?_;rintro e w4 ⟨rfl,aT⟩))
   refine ⟨⟨k+1,by omega,by go_num,?_,?_⟩,by simp [intOf];omega⟩
   ·rw [aE.out]
   ·exact aK.out.trans ((aN.trans (aT.mono aN.size)).mono aK.out.size)
  ·have aV:k=aA.length:=by omega
   subst aV;go_wp2;go_ret;exact ⟨by simp,aL.out.trans (aB.mono aL.out.size)⟩
theorem XrI (a:Option Addr) (rs:List Pr) (c:Nat) (n:Int) (w:World) (h:Prs w a rs) (aV:rs.length<=c) (hl:rs.length<=1048576) (hs:∀ x∈rs,x.1.size<=1048576/\x.2.size<=1048576) :
  Calls Tryz.prog 105 #[.agg #[.slice a rs.length c],.int .i64 n] w fun e w'=>e=.returned (.int .i64 (xee (ZZG rs) n))/\Below w.heap.size w w':=by
 have aH:Below w.heap.size w (w.alloc (.cells #[.slice a rs.length c] 31)):=(Below.refl _ _).alloc (Nat.le_refl _) _;have hv:=k1x a rs c (w.alloc (.cells #[.slice a rs.length c] 31)) (h.below aH) aV hl hs;have HV:=hid hv;have aG:=hid aH;clear hv aH;obtain ⟨aA,aD⟩:∃ aA,aA=ZZG rs:=⟨_,rfl⟩;have aU:=xwW rs
 have aS:Hid (∀ b∈aA,b.length<=1048576/\∀ x∈b,x.1.size<=1048576/\x.2.1.size<=1048576):=by
  intro b hb;rw [aD] at hb;obtain ⟨h1,h2⟩:=j2b hb;exact ⟨by omega,fun x hx=>hs _ (h2 x hx)⟩
 rw [<-aD] at HV aU ⊢;clear aD;go_enter Tryz.func105,Tryz.ntmps105;go_wp2_with (go_at_call 110;refine HV.out.mono ?_;rintro e w2 ⟨v,rfl,aF,aM⟩;obtain ⟨va,vc,rfl,aP⟩:=aF.bts);have aQ:=hid aP;have aL:=hid (aG.out.trans (aM.mono aG.out.size));clear aF aM aP HV aG;go_loopw [5,11] (fun y i wr=>∃ k:Nat,k<=aA.length/\i=.int .i64 (k:Int)/\y=.int .i64 (xee (aA.take k) n)/\Below w2.heap.size w2 wr) (fun _ i _=>aA.length-(intOf i).toNat)
 case atStart=>exact ⟨0,Nat.zero_le _,rfl,rfl,Below.refl _ _⟩
 case round =>
  obtain ⟨k,hk,rfl,rfl,aB⟩:=hrel
  by_cases aJ:k<aA.length
  ·obtain ⟨g,p,cc,rfl,hg,hc,aI⟩:=(aQ.out.below aB).at aJ
   have aX:(k:Int)<(aA.length:Int):=by omega
   have aZ:(0:Int)<=(k:Int):=by omega
   have aC:=aS.out (aA.getD k []) (by simp [List.getD,aJ]);have aE:=hid (Zbv (aA.take k) (aA.getD k []) n);rw [<-QsK aA k [] aJ] at aE;have hR:=z3n (aA.take k) n;have aY:(aA.take k).length<=5:=by rw [List.length_take];omega
   have hP:=jxV (jvj (aA.getD k [])).size n;have hO:=ks4 (aA.getD k []);obtain ⟨b,hb⟩:∃ b,b=aA.getD k []:=⟨_,rfl⟩;rw [<-hb] at hc aI aC aE hP hO;obtain ⟨r,hr⟩:∃ r,r=xee (aA.take k) n:=⟨_,rfl⟩;rw [<-hr] at aE hR ⊢;have HF:=hid (fun W (hW:Chs W p b)=>qm5 p b cc W hW aC.1 aC.2);have HG:=hid (fun W=>qLo (jvj b) n W (by omega));have aR:=hid aI;have aK:=hid aB;obtain ⟨q,hq⟩:∃ q,q=JFN (jvj b).size n:=⟨_,rfl⟩;rw [<-hq] at HG hP aE;obtain ⟨bo,aO⟩:∃ bo,bo=jvj b:=⟨_,rfl⟩;rw [<-aO] at HF HG hP hO;have bC:IntKind.i64.wrap (r+q)=r+q:=by simp [IntKind.wrap,IntKind.bits,IntKind.signed];omega
   clear hb hr hq aO aC aI aB
   go_wp2_with (first | (go_at_call 112;refine (HF.out _ aR.out).mono ?_;rintro e w3 ⟨rfl,aN⟩) | (go_at_call 111;refine (HG.out _).mono ?_;rintro e w4 ⟨rfl,aT⟩))
   refine ⟨⟨k+1,by omega,by go_num,?_,?_⟩,by simp [intOf];omega⟩
   ·rw [aE.out]
   ·exact aK.out.trans ((aN.trans (aT.mono aN.size)).mono aK.out.size)
  ·have aW:k=aA.length:=by omega
   subst aW;go_wp2;go_ret;exact ⟨by simp,aL.out.trans (aB.mono aL.out.size)⟩
def yWg (T H F R:Int):Bool:=decide (0<=T/\T<=1000000000) && decide (0<=R/\R<=60000) && decide (0<=H/\H<=1) && decide (1<=F/\F<=999999000)
def jWr (W S L T H F R U O:Int) (rs:List Pr):Bool:=decide (1<=W/\W<=8) && decide (8<=S/\S<=200) && decide (1<=L/\L<=60000) && yWg T H F R && decide (0<=U/\U<=hv S) && decide (0<=O/\O<=U) && z0q rs && decide (xee (ZZG rs) W<=hv S-1)
theorem Jr0 (n lo hi:Int) (b:Bool) (h:decide (lo<=n/\n<=hi)=b) (w:World):Calls Tryz.prog 17 #[.int .i64 n,.int .i64 lo,.int .i64 hi] w fun e w'=>e=.returned (.bool b)/\w'=w:=by
 subst h
 by_cases h1:lo<=n<;>by_cases h2:n<=hi<;>(go_enter Tryz.func17,Tryz.ntmps17;go_wp2;go_ret;simp [h1,h2])
theorem QU8 {S:Int} (h:8<=S/\S<=200):3<=hv S/\hv S<=99:=by unfold hv;rw [if_pos h];omega
theorem JbE {S:Int} (h:¬ (8<=S/\S<=200)):hv S=0:=by unfold hv;rw [if_neg h]
theorem kJm (W S L T H F R U O:Int) (rs:List Pr) (h:¬ (1<=W/\W<=8)\/¬ (8<=S/\S<=200)\/¬ (1<=L/\L<=60000)\/yWg T H F R=false\/¬ (0<=U/\U<=hv S)\/¬ (0<=O/\O<=U)\/z0q rs=false\/¬ (xee (ZZG rs) W<=hv S-1)):jWr W S L T H F R U O rs=false:=by
 unfold jWr;rcases h with h | h | h | h | h | h | h | h<;>simp [h]
theorem JRN (T H F R:Int) (h:¬ (0<=T/\T<=1000000000)\/¬ (0<=R/\R<=60000)\/¬ (0<=H/\H<=1)\/¬ (1<=F/\F<=999999000)):yWg T H F R=false:=by
 unfold yWg;rcases h with h | h | h | h<;>simp [h]
theorem ZHK (W S L T H F R U O:Int) (a:Option Addr) (rs:List Pr) (c:Nat) (w:World) (h:Prs w a rs) (hl:rs.length<=1048576) (hs:∀ x∈rs,x.1.size<=1048576/\x.2.size<=1048576) :
  Calls Tryz.prog 18 #[QPD W S L T H F R U O a rs.length c] w fun e w'=>e=.returned (.bool (jWr W S L T H F R U O rs))/\Below w.heap.size w w':=by
 unfold QPD
 have aG:∀ o,Below w.heap.size w (w.alloc o):=fun o=>(Below.refl _ _).alloc (Nat.le_refl _) _
 have aB:∀ o p,Below w.heap.size w ((w.alloc o).alloc p):=fun o p=>((Below.refl _ _).alloc (Nat.le_refl _) _).alloc (by simp) _
 have aF:=hid (fun o p=>yPv a rs c ((w.alloc o).alloc p) (h.below (aB o p)) hl hs);have aE:=hid (fun w2 (h2:Below w.heap.size w w2)=>JBO a rs c W w2 (h.below h2) hl hs);obtain ⟨E,HE⟩:∃ E,Hid (E=jWr W S L T H F R U O rs):=⟨_,hid rfl⟩;rw [<-HE.out];obtain ⟨Q,hQ⟩:∃ Q,Q=hv S:=⟨_,rfl⟩;have HQ:=hid hQ;have no:=kJm W S L T H F R U O rs;rw [<-HE.out,<-hQ] at no;have NO:=hid no;clear no hQ
 by_cases c1:1<=W/\W<=8
 case neg =>
  have d1:decide (1<=W/\W<=8)=false:=decide_eq_false c1;have he:E=false:=NO.out (.inl (c1));subst he;go_enter Tryz.func18,Tryz.ntmps18
  go_wp2_with (first | (go_at_call 36;refine (QQj _ _).mono ?_;rw [<-HQ.out];rintro e wz ⟨rfl,aA⟩;rw [aA];clear aA wz) | (go_at_call 15;refine (X3C _ _).mono ?_;rw [d1];rintro e wz ⟨rfl,aA⟩;rw [aA];clear aA wz) | (go_at_call 17;refine (Jr0 _ _ _ _ (by assumption) _).mono ?_;rintro e wz ⟨rfl,aA⟩;rw [aA];clear aA wz))
  go_ret;exact ⟨rfl,aG _⟩
 have d1:decide (1<=W/\W<=8)=true:=decide_eq_true c1
 by_cases c2:8<=S/\S<=200
 case neg =>
  have d2:decide (8<=S/\S<=200)=false:=decide_eq_false c2;have aI:Q=0:=by rw [HQ.out];exact JbE c2
  subst aI;have he:E=false:=NO.out (.inr (.inl (c2)));subst he;go_enter Tryz.func18,Tryz.ntmps18
  go_wp2_with (first | (go_at_call 36;refine (QQj _ _).mono ?_;rw [<-HQ.out];rintro e wz ⟨rfl,aA⟩;rw [aA];clear aA wz) | (go_at_call 15;refine (X3C _ _).mono ?_;rw [d1];rintro e wz ⟨rfl,aA⟩;rw [aA];clear aA wz) | (go_at_call 17;refine (Jr0 _ _ _ _ (by assumption) _).mono ?_;rintro e wz ⟨rfl,aA⟩;rw [aA];clear aA wz))
  go_ret;exact ⟨rfl,aG _⟩
 have d2:decide (8<=S/\S<=200)=true:=decide_eq_true c2;have aM:3<=Q/\Q<=99:=by rw [HQ.out];exact QU8 c2
 have aI:¬ Q=0:=by omega
 by_cases c3:1<=L/\L<=60000
 case neg =>
  have d3:decide (1<=L/\L<=60000)=false:=decide_eq_false c3;have he:E=false:=NO.out (.inr (.inr (.inl (c3))));subst he;go_enter Tryz.func18,Tryz.ntmps18
  go_wp2_with (first | (go_at_call 36;refine (QQj _ _).mono ?_;rw [<-HQ.out];rintro e wz ⟨rfl,aA⟩;rw [aA];clear aA wz) | (go_at_call 15;refine (X3C _ _).mono ?_;rw [d1];rintro e wz ⟨rfl,aA⟩;rw [aA];clear aA wz) | (go_at_call 17;refine (Jr0 _ _ _ _ (by assumption) _).mono ?_;rintro e wz ⟨rfl,aA⟩;rw [aA];clear aA wz))
  go_ret;exact ⟨rfl,aG _⟩
 have d3:decide (1<=L/\L<=60000)=true:=decide_eq_true c3
 by_cases c4:0<=T/\T<=1000000000
 case neg =>
  have d4:decide (0<=T/\T<=1000000000)=false:=decide_eq_false c4;have he:E=false:=NO.out (.inr (.inr (.inr (.inl (JRN T H F R (.inl (c4)))))));subst he;go_enter Tryz.func18,Tryz.ntmps18
  go_wp2_with (first | (go_at_call 36;refine (QQj _ _).mono ?_;rw [<-HQ.out];rintro e wz ⟨rfl,aA⟩;rw [aA];clear aA wz) | (go_at_call 15;refine (X3C _ _).mono ?_;rw [d1];rintro e wz ⟨rfl,aA⟩;rw [aA];clear aA wz) | (go_at_call 17;refine (Jr0 _ _ _ _ (by assumption) _).mono ?_;rintro e wz ⟨rfl,aA⟩;rw [aA];clear aA wz))
  go_ret;exact ⟨rfl,aB _ _⟩
 have d4:decide (0<=T/\T<=1000000000)=true:=decide_eq_true c4
 by_cases c5:0<=H/\H<=1
 case neg =>
  have d5:decide (0<=H/\H<=1)=false:=decide_eq_false c5;have he:E=false:=NO.out (.inr (.inr (.inr (.inl (JRN T H F R (.inr (.inr (.inl (c5)))))))));subst he;go_enter Tryz.func18,Tryz.ntmps18
  go_wp2_with (first | (go_at_call 36;refine (QQj _ _).mono ?_;rw [<-HQ.out];rintro e wz ⟨rfl,aA⟩;rw [aA];clear aA wz) | (go_at_call 15;refine (X3C _ _).mono ?_;rw [d1];rintro e wz ⟨rfl,aA⟩;rw [aA];clear aA wz) | (go_at_call 17;refine (Jr0 _ _ _ _ (by assumption) _).mono ?_;rintro e wz ⟨rfl,aA⟩;rw [aA];clear aA wz))
  go_ret;exact ⟨rfl,aB _ _⟩
 have d5:decide (0<=H/\H<=1)=true:=decide_eq_true c5
 by_cases c6:1<=F/\F<=999999000
 case neg =>
  have d6:decide (1<=F/\F<=999999000)=false:=decide_eq_false c6;have he:E=false:=NO.out (.inr (.inr (.inr (.inl (JRN T H F R (.inr (.inr (.inr (c6)))))))));subst he;go_enter Tryz.func18,Tryz.ntmps18
  go_wp2_with (first | (go_at_call 36;refine (QQj _ _).mono ?_;rw [<-HQ.out];rintro e wz ⟨rfl,aA⟩;rw [aA];clear aA wz) | (go_at_call 15;refine (X3C _ _).mono ?_;rw [d1];rintro e wz ⟨rfl,aA⟩;rw [aA];clear aA wz) | (go_at_call 17;refine (Jr0 _ _ _ _ (by assumption) _).mono ?_;rintro e wz ⟨rfl,aA⟩;rw [aA];clear aA wz))
  go_ret;exact ⟨rfl,aB _ _⟩
 have d6:decide (1<=F/\F<=999999000)=true:=decide_eq_true c6
 by_cases c7:0<=R/\R<=60000
 case neg =>
  have d7:decide (0<=R/\R<=60000)=false:=decide_eq_false c7;have he:E=false:=NO.out (.inr (.inr (.inr (.inl (JRN T H F R (.inr (.inl (c7))))))));subst he;go_enter Tryz.func18,Tryz.ntmps18
  go_wp2_with (first | (go_at_call 36;refine (QQj _ _).mono ?_;rw [<-HQ.out];rintro e wz ⟨rfl,aA⟩;rw [aA];clear aA wz) | (go_at_call 15;refine (X3C _ _).mono ?_;rw [d1];rintro e wz ⟨rfl,aA⟩;rw [aA];clear aA wz) | (go_at_call 17;refine (Jr0 _ _ _ _ (by assumption) _).mono ?_;rintro e wz ⟨rfl,aA⟩;rw [aA];clear aA wz))
  go_ret;exact ⟨rfl,aB _ _⟩
 have d7:decide (0<=R/\R<=60000)=true:=decide_eq_true c7
 by_cases c8:0<=U/\U<=Q
 case neg =>
  have d8:decide (0<=U/\U<=Q)=false:=decide_eq_false c8;have he:E=false:=NO.out (.inr (.inr (.inr (.inr (.inl (c8))))));subst he;go_enter Tryz.func18,Tryz.ntmps18
  go_wp2_with (first | (go_at_call 36;refine (QQj _ _).mono ?_;rw [<-HQ.out];rintro e wz ⟨rfl,aA⟩;rw [aA];clear aA wz) | (go_at_call 15;refine (X3C _ _).mono ?_;rw [d1];rintro e wz ⟨rfl,aA⟩;rw [aA];clear aA wz) | (go_at_call 17;refine (Jr0 _ _ _ _ (by assumption) _).mono ?_;rintro e wz ⟨rfl,aA⟩;rw [aA];clear aA wz))
  go_ret;exact ⟨rfl,aB _ _⟩
 have d8:decide (0<=U/\U<=Q)=true:=decide_eq_true c8
 by_cases c9:0<=O/\O<=U
 case neg =>
  have d9:decide (0<=O/\O<=U)=false:=decide_eq_false c9;have he:E=false:=NO.out (.inr (.inr (.inr (.inr (.inr (.inl (c9)))))));subst he;go_enter Tryz.func18,Tryz.ntmps18
  go_wp2_with (first | (go_at_call 36;refine (QQj _ _).mono ?_;rw [<-HQ.out];rintro e wz ⟨rfl,aA⟩;rw [aA];clear aA wz) | (go_at_call 15;refine (X3C _ _).mono ?_;rw [d1];rintro e wz ⟨rfl,aA⟩;rw [aA];clear aA wz) | (go_at_call 17;refine (Jr0 _ _ _ _ (by assumption) _).mono ?_;rintro e wz ⟨rfl,aA⟩;rw [aA];clear aA wz))
  go_ret;exact ⟨rfl,aB _ _⟩
 have d9:decide (0<=O/\O<=U)=true:=decide_eq_true c9
 cases dS:z0q rs with
 | false =>
  have he:E=false:=NO.out (.inr (.inr (.inr (.inr (.inr (.inr (.inl (dS))))))));subst he;go_enter Tryz.func18,Tryz.ntmps18
  go_wp2_with (first | (go_at_call 36;refine (QQj _ _).mono ?_;rw [<-HQ.out];rintro e wz ⟨rfl,aA⟩;rw [aA];clear aA wz) | (go_at_call 15;refine (X3C _ _).mono ?_;rw [d1];rintro e wz ⟨rfl,aA⟩;rw [aA];clear aA wz) | (go_at_call 17;refine (Jr0 _ _ _ _ (by assumption) _).mono ?_;rintro e wz ⟨rfl,aA⟩;rw [aA];clear aA wz) | (go_at_call 20;refine (aF.out _ _).mono ?_;rw [dS];rintro e w2 ⟨rfl,aC⟩))
  go_ret;exact ⟨rfl,(aB _ _).trans (aC.mono (by simp<;>omega))⟩
 | true =>
  have hR:=z3n (ZZG rs) W;have aL:=xwW rs;obtain ⟨G,HG⟩:∃ G,Hid (G=xee (ZZG rs) W):=⟨_,hid rfl⟩;rw [<-HG.out] at hR aE NO
  have he:E=decide (G<=Q-1):=by
   rw [HE.out,HG.out,HQ.out];rw [HQ.out] at c8;unfold jWr yWg;simp [c1,c2,c3,c4,c5,c6,c7,c8,c9,dS]
  have aN:IntKind.i64.wrap (Q-1)=Q-1:=by simp [IntKind.wrap,IntKind.bits,IntKind.signed];omega
  clear NO HE
  by_cases cG:G<=Q-1
  ·have dG:decide (G<=Q-1)=true:=decide_eq_true cG
   rw [dG] at he;subst he;go_enter Tryz.func18,Tryz.ntmps18
   go_wp2_with (first | (go_at_call 36;refine (QQj _ _).mono ?_;rw [<-HQ.out];rintro e wz ⟨rfl,aA⟩;rw [aA];clear aA wz) | (go_at_call 15;refine (X3C _ _).mono ?_;rw [d1];rintro e wz ⟨rfl,aA⟩;rw [aA];clear aA wz) | (go_at_call 17;refine (Jr0 _ _ _ _ (by assumption) _).mono ?_;rintro e wz ⟨rfl,aA⟩;rw [aA];clear aA wz) | (go_at_call 20;refine (aF.out _ _).mono ?_;rw [dS];rintro e w2 ⟨rfl,aC⟩;have aJ:w2.cell? ⟨w.heap.size,0,none⟩=some (.int .i64 W):=(aC.cell (p:=⟨w.heap.size,0,none⟩) (by simp<;>omega)).trans (by go_simp);have aK:w2.cell? ⟨w.heap.size,9,none⟩=some (.slice a rs.length c):=(aC.cell (p:=⟨w.heap.size,9,none⟩) (by simp<;>omega)).trans (by go_simp);have aD:=hid ((aB _ _).trans (aC.mono (by simp<;>omega)))) | (go_at_call 37;refine (aE.out _ aD.out).mono ?_;rintro e w3 ⟨rfl,aH⟩))
   go_ret;exact ⟨rfl,aD.out.trans (aH.mono aD.out.size)⟩
  ·have dG:decide (G<=Q-1)=false:=decide_eq_false cG
   rw [dG] at he;subst he;go_enter Tryz.func18,Tryz.ntmps18
   go_wp2_with (first | (go_at_call 36;refine (QQj _ _).mono ?_;rw [<-HQ.out];rintro e wz ⟨rfl,aA⟩;rw [aA];clear aA wz) | (go_at_call 15;refine (X3C _ _).mono ?_;rw [d1];rintro e wz ⟨rfl,aA⟩;rw [aA];clear aA wz) | (go_at_call 17;refine (Jr0 _ _ _ _ (by assumption) _).mono ?_;rintro e wz ⟨rfl,aA⟩;rw [aA];clear aA wz) | (go_at_call 20;refine (aF.out _ _).mono ?_;rw [dS];rintro e w2 ⟨rfl,aC⟩;have aJ:w2.cell? ⟨w.heap.size,0,none⟩=some (.int .i64 W):=(aC.cell (p:=⟨w.heap.size,0,none⟩) (by simp<;>omega)).trans (by go_simp);have aK:w2.cell? ⟨w.heap.size,9,none⟩=some (.slice a rs.length c):=(aC.cell (p:=⟨w.heap.size,9,none⟩) (by simp<;>omega)).trans (by go_simp);have aD:=hid ((aB _ _).trans (aC.mono (by simp<;>omega)))) | (go_at_call 37;refine (aE.out _ aD.out).mono ?_;rintro e w3 ⟨rfl,aH⟩))
   go_ret;exact ⟨rfl,aD.out.trans (aH.mono aD.out.size)⟩
def qWl (base:Int) (l:List ByteArray):List OpT:=l.mapIdx fun i p=>(false,base+(i:Int),p)
theorem yzD (base:Int) (l:List ByteArray) (p:ByteArray):qWl base (l++[p])=qWl base l++[(false,base+(l.length:Int),p)]:=by simp [qWl,List.mapIdx_append]
theorem xp9 (base:Int) (l:List ByteArray):(qWl base l).length=l.length:=by simp [qWl]
def zM2 (L F:Int) (n m:Nat) (aA:List ByteArray) (b:List Ch):List ByteArray:=aA++zhI (jvj b) L (F+(aA.length:Int)) n m
def qMR (L F:Int) (n m:Nat) (aA:List (List Ch)):List ByteArray:=aA.foldl (zM2 L F n m) [ZQp 3 L F ByteArray.empty (n:Int)]
theorem jp3 (L F:Int) (n m:Nat):qMR L F n m []=[ZQp 3 L F ByteArray.empty (n:Int)]:=rfl
theorem zpx (L F:Int) (n m:Nat) (aA:List (List Ch)) (b:List Ch):qMR L F n m (aA++[b])=qMR L F n m aA++zhI (jvj b) L (F+((qMR L F n m aA).length:Int)) n m:=by
 unfold qMR;rw [List.foldl_append];rfl
theorem zDE (s:ByteArray) (l f:Int) (n m:Nat) (hm:n+m=56) (h1:1<=n) (h2:n<=8):((zhI s l f n m).length:Int)<=JFN s.size (n:Int):=by
 have e:(56-(n:Int)).toNat=m:=by omega
 unfold JFN;rw [if_pos (by omega),e];unfold zhI
 split
 ·rw [xpG];omega
 ·simp
theorem XPX (L F:Int) (n m:Nat) (hm:n+m=56) (h1:1<=n) (h2:n<=8) (aA:List (List Ch)):((qMR L F n m aA).length:Int)<=1+xee aA (n:Int):=by
 obtain ⟨k,hk⟩:∃ k,k=aA.length:=⟨_,rfl⟩
 induction k generalizing aA with
 | zero=>rw [List.eq_nil_of_length_eq_zero hk.symm,jp3,ZL5];simp
 | succ k ih =>
  obtain ⟨b,bs,rfl⟩:∃ b bs,aA=bs++[b]:=by
   rcases List.eq_nil_or_concat aA with h | ⟨l,a,h⟩
   ·subst h;simp at hk
   ·exact ⟨a,l,by simpa using h⟩
  have:=ih bs (by simp at hk;omega);rw [zpx,Zbv,List.length_append];have:=zDE (jvj b) L (F+((qMR L F n m bs).length:Int)) n m hm h1 h2;omega
theorem jhn (aA:List (List Ch)) (k:Nat) (n:Int):xee (aA.take k) n<=xee aA n:=by
 have e:xee aA n=xee (aA.take k) n+xee (aA.drop k) n:=by
  unfold xee;rw [<-List.sum_append,<-List.map_append,List.take_append_drop]
 have:=(z3n (aA.drop k) n).1;omega
def z5m (W S L T H F:Int) (rs:List Pr):Prop:=(1<=W/\W<=8)/\(8<=S/\S<=200)/\(1<=L/\L<=60000)/\(0<=T/\T<=1000000000)/\(0<=H/\H<=1)/\(1<=F/\F<=999999000)/\xee (ZZG rs) W<=hv S-1
def j5U (S T F:Int):Bool:=decide (T+1<=1000000000/\F+hv S<=999999000)
def mvD (W S L T H F:Int) (rs:List Pr):Dd:=⟨0,W,S,L,T+1,1-H,F+hv S,L,((qMR L (F+hv S) W.toNat (56-W.toNat) (ZZG rs)).length:Int),0,rs,qWl (2+(1-H)*hv S) (qMR L (F+hv S) W.toNat (56-W.toNat) (ZZG rs))++[(true,0,ByteArray.empty),(false,(T+1) % 2,QCt (T+1) (1-H) (F+hv S) L W),(true,0,ByteArray.empty)]⟩
def kGX (W S L T H F:Int) (rs:List Pr):Dd:=if j5U S T F=true then mvD W S L T H F rs else noD 4
def JfS (W S L T H F R U O:Int) (rs:List Pr):Dd:=if jWr W S L T H F R U O rs=true then kGX W S L T H F rs else noD 1
theorem vIj {W S L T H F R U O:Int} {rs:List Pr} (h:jWr W S L T H F R U O rs=true):z5m W S L T H F rs:=by
 unfold jWr yWg at h;simp only [Bool.and_eq_true,decide_eq_true_eq] at h;obtain ⟨⟨⟨⟨⟨⟨⟨h1,h2⟩,h3⟩,⟨⟨h4,_⟩,h5⟩,h6⟩,_⟩,_⟩,_⟩,h7⟩:=h;exact ⟨h1,h2,h3,h4,h5,h6,h7⟩
theorem yV3 (W S L T H F R U O:Int) (rs:List Pr) (hl:rs.length<=1048576):(JfS W S L T H F R U O rs).rs.length<=1048576/\(JfS W S L T H F R U O rs).ops.length<=1000:=by
 unfold JfS kGX
 cases h:jWr W S L T H F R U O rs with
 | false=>simp [noD]
 | true =>
  cases h2:j5U S T F with
  | false=>simp [noD]
  | true =>
   obtain ⟨⟨h1,aA⟩,h3,h4,h5,h6,h7,h8⟩:=vIj h;have hq:=QU8 h3;have hm:=XPX L (F+hv S) W.toNat (56-W.toNat) (by omega) (by omega) (by omega) (ZZG rs);rw [show ((W.toNat:Nat):Int)=W by omega] at hm;simp only [if_true,mvD,List.length_append,xp9];refine ⟨hl,?_⟩;simp;omega
end Go.Proofs.YtehbpeinnepdcaaGreatDoor
