import Derived.Deep.RegionLaw
import Derived.Test.YtcdojnnkjeakmaaGreatDoorPrG44
import Derived.Laws.MakeOwn
import Derived.WalkSmall
import Derived.Deep.Draws
import Derived.Deep.AppendLies
import Derived.OneCell
import Derived.Deep.Onto
set_option maxHeartbeats 16000000
set_option maxRecDepth 8000
set_option linter.unusedVariables false
set_option linter.unusedSimpArgs false
namespace Go.Proofs.YtcdojnnkjeakmaaGreatDoor
open Go.RowKit
theorem XRf {P:Program} {aC:Array Oper} {o:Oper} {a:Act} {w:World} {K:Act->World->Prop} {Q:Exit->Act->World->Prop} {E:Prop} (aD:o.guard=none) (f:FuncId) (aA:Array Value)
  (aB:(execOp a.eval o).run P w=.ok (.enter f aA) w) {C:Ending->World->Prop} (hc:Calls P f aA w C) (h:∀ e w',C e w'->∃ v,e=.returned v/\K (a.put o.dst v) w') :
  if Region.wanted o (yielded aC a.tmps)=true then Oper.wp P o a w K Q else E:=by
 have hw:Region.wanted o (yielded aC a.tmps)=true:=by simp [Region.wanted,aD]
 rw [if_pos hw];unfold Oper.wp;rw [aB,Oper.upon_enter]
 refine hc.mono fun e aE hh=>?_
 obtain ⟨v,rfl,hk⟩:=h e aE hh;exact hk
theorem XA7 (k l m:Int) (p:ByteArray) (n:Int) (w:World) (hp:p.size<=1048576) (aA:Xhw k l m p n=false) :
  Calls Tryz.prog 19 #[QAw k l m p,.int .i64 n] w fun e w'=>e=.returned (.string ByteArray.empty)/\Below w.heap.size w w':=by
 go_enter Tryz.func19,Tryz.ntmps19;go_wp2_with (go_at_call 37;refine (ZTz k l m p n _ hp).mono ?_;rw [aA];rintro e w1 ⟨rfl,aB⟩);go_ret;exact ⟨rfl,((Below.refl _ _).alloc (Nat.le_refl _) _).trans (aB.mono (by simp))⟩
set_option maxRecDepth 4000 in
theorem QyJ (k l m:Int) (p:ByteArray) (n:Nat) (w:World) (aA:Xhw k l m p n=true) :
  Calls Tryz.prog 19 #[QAw k l m p,.int .i64 (n:Int)] w fun e w'=>e=.returned (.string (XQs k l m p n))/\Below w.heap.size w w':=by
 have aC:=of_decide_eq_true (by unfold Xhw at aA;exact aA);obtain ⟨aK,aN,aM,aR,aL,aS,aO,aP,hp,_⟩:=aC;go_enter Tryz.func19,Tryz.ntmps19;go_wp2_with (go_at_call 37;refine (ZTz k l m p n _ (by omega)).mono ?_;rw [aA];rintro e w1 ⟨rfl,aG⟩;obtain ⟨q,q0,q1,q2,q3,aB⟩:=X84 (W:=w) (v0:=.int .i64 k) (v1:=.int .i64 l) (v2:=.int .i64 m) (v3:=.string p) aG ⟨by simp,by simp,by simp,by simp,by simp,(Below.refl _ _).alloc (Nat.le_refl _) _⟩;clear aG);refine (Xue k l m p n _ aA).mono ?_;rintro e w2 ⟨rfl,aE⟩;clear q q0 q1 q2 q3;have aH:=aB.trans (aE.mono aB.size);clear aB aE;obtain ⟨xs,HX⟩:∃ xs,Hid (xs=zFD (XQs k l m p n)):=⟨_,vvj rfl⟩;have aD:xs.length=64:=by rw [HX.out,vgz];exact X5y k l m p n (by omega)
 have aQ:(xs.map (Value.int .u8)).toArray.size=64:=by simp [aD]
 rw [<-HX.out];go_wp2_with (refine jY1 rfl 86 _ _ rfl xs rfl rfl _ _ (.int .u8 0) (by rw [aD];rfl) (by rw [aD];kernel_rfl) ?_;intro wx aF aI _;have aJ:=aF.text (P:=Tryz.prog) 22 5 9 Tryz.underlying22 Tryz.underlying5 Tryz.underlying9 0 64 64 (by omega);rw [List.drop_zero,List.take_of_length_le (by omega)] at aJ;clear aF);go_ret;refine ⟨Jdx ?_,aH.trans (aI.mono aH.size)⟩;rw [HX.out,ZXs]
theorem zCm (k l m:Int) (p:ByteArray) (n:Int) (w:World) (hp:p.size<=1048576) :
  Calls Tryz.prog 19 #[QAw k l m p,.int .i64 n] w fun e w'=>e=.returned (.string (ZQp k l m p n))/\Below w.heap.size w w':=by
 unfold ZQp
 cases h:Xhw k l m p n with
 | true =>
  have hd:=of_decide_eq_true (by unfold Xhw at h;exact h);have hn:1<=n:=hd.1;obtain ⟨j,rfl⟩:∃ j:Nat,n=(j:Int):=⟨n.toNat,by omega⟩;rw [if_pos rfl,Int.toNat_natCast];exact QyJ k l m p j w h
 | false=>rw [if_neg (by simp)];exact XA7 k l m p n w hp h
@[reducible] def yDp (t h f l:Int):Value:=.agg #[.int .i64 t,.int .i64 h,.int .i64 f,.int .i64 l]
abbrev jJV (h f:Int):Prop:=0<=h/\h<=1/\1<=f/\f<=999999000
def ySc (h f:Int):ByteArray:=strOfNums (be 1 h)++strOfNums (be 4 f)
def QCt (t h f l n:Int):ByteArray:=if jJV h f then ZQp 4 l t (ySc h f) n else ByteArray.empty
theorem qe3 (h:Int) (w:World):Calls Tryz.prog 16 #[.int .i64 h] w fun e w'=>e=.returned (.bool (decide (0<=h/\h<=1)))/\w'=w:=by
 have hh:decide (0<=h/\h<=1)=(decide (h=0) || decide (h=1)):=by rw [Bool.eq_iff_iff];simp;omega
 rw [hh];go_enter Tryz.func16,Tryz.ntmps16
 by_cases h1:h=0
 ·subst h1;go_wp2;go_ret;exact ⟨rfl,rfl⟩
 ·by_cases h2:h=1
  ·subst h2;go_wp2;go_ret;exact ⟨rfl,rfl⟩
  ·go_wp2;go_ret;simp [h1,h2]
theorem QRu (f:Int) (w:World):Calls Tryz.prog 17 #[.int .i64 f] w fun e w'=>e=.returned (.bool (decide (1<=f/\f<=999999000)))/\w'=w:=by
 go_enter Tryz.func17,Tryz.ntmps17
 by_cases h1:1<=f<;>by_cases h2:f<=999999000<;>(go_wp2;go_ret;simp [h1,h2])
theorem kIV (t h f l n:Int) (w:World) (aA:¬ jJV h f):Calls Tryz.prog 6 #[yDp t h f l,.int .i64 n] w fun e w'=>e=.returned (.string ByteArray.empty)/\Below w.heap.size w w':=by
 have aB:∀ o,Below w.heap.size w (w.alloc o):=fun o=>(Below.refl _ _).alloc (Nat.le_refl _) _
 unfold jJV at aA;go_enter Tryz.func6,Tryz.ntmps6
 by_cases h1:0<=h<;>by_cases h2:h<=1<;>by_cases h3:1<=f<;>by_cases h4:f<=999999000<;>first | (exfalso;omega) | (clear aA;go_wp2;go_ret;exact ⟨rfl,aB _⟩)
theorem z9P (t h f l n:Int) (w:World) (aC:jJV h f):Calls Tryz.prog 6 #[yDp t h f l,.int .i64 n] w fun e w'=>e=.returned (.string (ZQp 4 l t (ySc h f) n))/\Below w.heap.size w w':=by
 obtain ⟨h1,h2,h3,h4⟩:=aC;obtain ⟨A,hA⟩:∃ A,strOfNums (be 1 h)=A:=⟨_,rfl⟩;obtain ⟨B,hB⟩:∃ B,strOfNums (be 4 f)=B:=⟨_,rfl⟩;have zA:A.size=1:=by rw [<-hA,strOfNums_size,XHU]
 have zB:B.size=4:=by rw [<-hB,strOfNums_size,XHU]
 have HP:Hid (ySc h f=A++B):=by show _=_;unfold ySc;rw [hA,hB]
 have aA:=fun wx=>vFv h 1 1 rfl wx (by omega) (by omega) (by omega)
 have aB:=fun wx=>vFv f 4 4 rfl wx (by omega) (by omega) (by omega)
 simp only [hA] at aA;simp only [hB] at aB;rw [HP.out];have hz:(A++B).size<=1048576:=by simp only [ByteArray.size_append];omega
 go_enter Tryz.func6,Tryz.ntmps6;go_wp2_with fail;have hS:w.heap.size<(w.alloc (.cells #[.int .i64 t,.int .i64 h,.int .i64 f,.int .i64 l] 24)).heap.size/\(w.alloc (.cells #[.int .i64 t,.int .i64 h,.int .i64 f,.int .i64 l] 24)).cell? ⟨w.heap.size,0,none⟩=some (.int .i64 t)/\(w.alloc (.cells #[.int .i64 t,.int .i64 h,.int .i64 f,.int .i64 l] 24)).cell? ⟨w.heap.size,1,none⟩=some (.int .i64 h)/\(w.alloc (.cells #[.int .i64 t,.int .i64 h,.int .i64 f,.int .i64 l] 24)).cell? ⟨w.heap.size,2,none⟩=some (.int .i64 f)/\(w.alloc (.cells #[.int .i64 t,.int .i64 h,.int .i64 f,.int .i64 l] 24)).cell? ⟨w.heap.size,3,none⟩=some (.int .i64 l)/\Below w.heap.size w (w.alloc (.cells #[.int .i64 t,.int .i64 h,.int .i64 f,.int .i64 l] 24)):=⟨by simp,by simp,by simp,by simp,by simp,(Below.refl _ _).alloc (Nat.le_refl _) _⟩;have HS:=vvj hS;clear hS
 go_region_held3 (fun w'=>w.heap.size<w'.heap.size/\w'.cell? ⟨w.heap.size,0,none⟩=some (.int .i64 t)/\w'.cell? ⟨w.heap.size,1,none⟩=some (.int .i64 h)/\w'.cell? ⟨w.heap.size,2,none⟩=some (.int .i64 f)/\w'.cell? ⟨w.heap.size,3,none⟩=some (.int .i64 l)/\Below w.heap.size w w')
  (first | assumption | exact X84 (below_drewN (Below.refl _ _) 1) HS.out | exact X84 (by assumption) (by assumption))
  (first | (go_at_call_of 21 h;refine (aA _).mono ?_;rintro e w2 ⟨rfl,aE⟩) | (go_at_call_of 21 f;refine (aB _).mono ?_;rintro e w3 ⟨rfl,aF⟩) | (go_at_call 20;refine (x4N 4 l t (A++B) n _ hz).mono ?_;rintro e w4 ⟨rfl,aG⟩))
 rename_i hSl;have aD:=hSl.2.2.2.2.2;clear hSl;go_wp2;go_ret;exact ⟨rfl,aD⟩
theorem qAa (t h f l n:Int) (w:World):Calls Tryz.prog 6 #[yDp t h f l,.int .i64 n] w fun e w'=>e=.returned (.string (QCt t h f l n))/\Below w.heap.size w w':=by
 unfold QCt
 by_cases aA:jJV h f
 ·rw [if_pos aA];exact z9P t h f l n w aA
 ·rw [if_neg aA];exact kIV t h f l n w aA
section
structure B4 (w:World) (B:Nat) (v0 v1 v2 v3:Value):Prop where
 lt:B<w.heap.size
 c0:w.cell? ⟨B,0,none⟩=some v0
 c1:w.cell? ⟨B,1,none⟩=some v1
 c2:w.cell? ⟨B,2,none⟩=some v2
 c3:w.cell? ⟨B,3,none⟩=some v3
 f0:w.frozen? ⟨B,0,none⟩=false
 f1:w.frozen? ⟨B,1,none⟩=false
 f2:w.frozen? ⟨B,2,none⟩=false
 f3:w.frozen? ⟨B,3,none⟩=false
section
variable {w w':World} {B:Nat} {v0 v1 v2 v3:Value}
theorem B4.past (h:B4 w B v0 v1 v2 v3) {N:Nat} (hN:B<N) (hb:Below N w w'):B4 w' B v0 v1 v2 v3:=by
 have hc:∀ i,w'.cell? ⟨B,i,none⟩=w.cell? ⟨B,i,none⟩:=fun i=>hb.cell (p:=⟨B,i,none⟩) hN
 have hf:∀ i,w'.frozen? ⟨B,i,none⟩=w.frozen? ⟨B,i,none⟩:=fun i=>hb.frozen (p:=⟨B,i,none⟩) hN
 exact ⟨Nat.lt_of_lt_of_le h.lt hb.size,(hc _).trans h.c0,(hc _).trans h.c1,(hc _).trans h.c2,(hc _).trans h.c3,(hf _).trans h.f0,(hf _).trans h.f1,(hf _).trans h.f2,(hf _).trans h.f3⟩
theorem B4.below (h:B4 w B v0 v1 v2 v3) (hb:Below w.heap.size w w'):B4 w' B v0 v1 v2 v3:=h.past h.lt hb
theorem B4.drew (h:B4 w B v0 v1 v2 v3):B4 w.drew B v0 v1 v2 v3:=⟨h.lt,h.c0,h.c1,h.c2,h.c3,h.f0,h.f1,h.f2,h.f3⟩
theorem B4.alloc (h:B4 w B v0 v1 v2 v3) (o:Obj):B4 (w.alloc o) B v0 v1 v2 v3:=h.below ((Below.refl _ _).alloc (Nat.le_refl _) _)
theorem B4.new (w:World) (v0 v1 v2 v3:Value) (t:TypeId):B4 (w.alloc (.cells #[v0,v1,v2,v3] t)) w.heap.size v0 v1 v2 v3:=by
 refine ⟨by simp,?_,?_,?_,?_,?_,?_,?_,?_⟩<;>first | (simp;done) | (rw [frozen?_alloc_cells];exact jWQ _ _ _ (Nat.le_refl _))
end
def cvl (w:World) (p:Addr):Value:=(w.cell? p).getD (.int .i64 0)
theorem jcn {w:World} {p:Addr} (h:(w.cell? p).isSome=true):w.cell? p=some (cvl w p):=by
 unfold cvl
 cases e:w.cell? p with
 | none=>rw [e] at h;exact absurd h (by simp)
 | some v=>rfl
theorem Xpi {w:World} {p:Addr} {v:Value} (h:w.cell? p=some v):(w.cell? p).isSome=true:=by rw [h];rfl
def KR (W:World) (R B:Nat) (v0 v1 v2 v3:Value) (w:World):Prop :=
 w.cell? ⟨B,0,none⟩=some v0/\w.cell? ⟨B,1,none⟩=some v1/\w.cell? ⟨B,2,none⟩=some v2/\w.cell? ⟨B,3,none⟩=some v3/\w.cell? ⟨R,0,none⟩=some (cvl w ⟨R,0,none⟩)/\w.cell? ⟨R,1,none⟩=some (cvl w ⟨R,1,none⟩)/\w.cell? ⟨R,2,none⟩=some (cvl w ⟨R,2,none⟩)/\w.cell? ⟨R,3,none⟩=some (cvl w ⟨R,3,none⟩)/\w.frozen? ⟨R,0,none⟩=false/\w.frozen? ⟨R,1,none⟩=false/\w.frozen? ⟨R,2,none⟩=false/\w.frozen? ⟨R,3,none⟩=false/\Below W.heap.size W w/\R<w.heap.size/\B<w.heap.size/\R≠B/\W.heap.size<=R
section
variable {W w w':World} {R B:Nat} {v0 v1 v2 v3 u0 u1 u2 u3:Value}
theorem KR.of (hB:B4 w B v0 v1 v2 v3) (hR:B4 w R u0 u1 u2 u3) (hb:Below W.heap.size W w) (aA:R≠B) (hW:W.heap.size<=R):KR W R B v0 v1 v2 v3 w :=
 ⟨hB.c0,hB.c1,hB.c2,hB.c3,jcn (Xpi hR.c0),jcn (Xpi hR.c1),jcn (Xpi hR.c2),jcn (Xpi hR.c3),hR.f0,hR.f1,hR.f2,hR.f3,hb,hR.lt,hB.lt,aA,hW⟩
theorem KR.below (h:KR W R B v0 v1 v2 v3 w) (hb:Below w.heap.size w w'):KR W R B v0 v1 v2 v3 w':=by
 obtain ⟨a0,a1,a2,a3,c0,c1,c2,c3,f0,f1,f2,f3,hW,hR,hB,aB,aA⟩:=h
 have cR:∀ i,w'.cell? ⟨R,i,none⟩=w.cell? ⟨R,i,none⟩:=fun i=>hb.cell (p:=⟨R,i,none⟩) hR
 have cB:∀ i,w'.cell? ⟨B,i,none⟩=w.cell? ⟨B,i,none⟩:=fun i=>hb.cell (p:=⟨B,i,none⟩) hB
 have fR:∀ i,w'.frozen? ⟨R,i,none⟩=w.frozen? ⟨R,i,none⟩:=fun i=>hb.frozen (p:=⟨R,i,none⟩) hR
 exact ⟨(cB _).trans a0,(cB _).trans a1,(cB _).trans a2,(cB _).trans a3,jcn (by rw [cR];exact Xpi c0),jcn (by rw [cR];exact Xpi c1),jcn (by rw [cR];exact Xpi c2),jcn (by rw [cR];exact Xpi c3),(fR _).trans f0,(fR _).trans f1,(fR _).trans f2,(fR _).trans f3,hW.trans (hb.mono (Nat.le_trans aA (Nat.le_of_lt hR))),Nat.lt_of_lt_of_le hR hb.size,Nat.lt_of_lt_of_le hB hb.size,aB,aA⟩
theorem KR.drew (h:KR W R B v0 v1 v2 v3 w):KR W R B v0 v1 v2 v3 w.drew:=h.below ((Below.refl _ _).drew)
theorem KR.set (h:KR W R B v0 v1 v2 v3 w) (j:Nat) (v:Value):KR W R B v0 v1 v2 v3 (w.setCell ⟨R,j,none⟩ v):=by
 obtain ⟨a0,a1,a2,a3,c0,c1,c2,c3,f0,f1,f2,f3,hW,hR,hB,aB,aA⟩:=h
 have hs:∀ p,(w.cell? p).isSome=true->((w.setCell ⟨R,j,none⟩ v).cell? p).isSome=true:=fun p hp=>by
  by_cases e:(⟨R,j,none⟩:Addr)=p
  ·subst e
   obtain ⟨u,hu⟩:=Option.isSome_iff_exists.1 hp;rw [World.cell?_setCell_same (w:=w) (h:=hu)];rfl
  ·rw [World.cell?_setCell_other (w:=w) (h:=e)];exact hp
 have cB:∀ i,(w.setCell ⟨R,j,none⟩ v).cell? ⟨B,i,none⟩=w.cell? ⟨B,i,none⟩:=fun i=>World.cell?_setCell_far _ _ _ _ aB
 exact ⟨(cB _).trans a0,(cB _).trans a1,(cB _).trans a2,(cB _).trans a3,jcn (hs _ (Xpi c0)),jcn (hs _ (Xpi c1)),jcn (hs _ (Xpi c2)),jcn (hs _ (Xpi c3)),by rw [World.frozen?_setCell];exact f0,by rw [World.frozen?_setCell];exact f1,by rw [World.frozen?_setCell];exact f2,by rw [World.frozen?_setCell];exact f3,hW.setCell aA _,by rw [World.size_setCell];exact hR,by rw [World.size_setCell];exact hB,aB,aA⟩
end
end
end Go.Proofs.YtcdojnnkjeakmaaGreatDoor
namespace Go.Proofs.YtcdojnnkjeakmaaGreatDoor
structure Wr (p:Prop):Prop where
 out:p
end Go.Proofs.YtcdojnnkjeakmaaGreatDoor
namespace Go.Proofs.YtcdojnnkjeakmaaGreatDoor
open Go.RowKit
theorem hid {p:Prop} (h:p):Hid p:=h
def Strs (w:World) (a:Option Addr) (ss:List ByteArray):Prop :=
 ss=[]\/∃ b o,a=some ⟨b,o,none⟩/\b<w.heap.size/\∀ i,i<ss.length->w.cell? ⟨b,o+i,none⟩=some (.string (ss.getD i ByteArray.empty))
def Wrs (w:World) (a:Option Addr) (ws:List (Int×ByteArray)):Prop :=
 ws=[]\/∃ b o,a=some ⟨b,o,none⟩/\b<w.heap.size/\∀ i,i<ws.length->w.cell? ⟨b,o+i*2,none⟩=some (.int .i64 (ws.getD i (0,ByteArray.empty)).1)/\w.cell? ⟨b,o+i*2+1,none⟩=some (.string (ws.getD i (0,ByteArray.empty)).2)
theorem Strs.below {w w':World} {a:Option Addr} {ss:List ByteArray} (h:Strs w a ss) (hb:Below w.heap.size w w'):Strs w' a ss:=by
 rcases h with h | ⟨b,o,h1,h2,h3⟩
 ·exact .inl h
 ·exact .inr ⟨b,o,h1,Nat.lt_of_lt_of_le h2 hb.size,fun i hi=>(hb.cell (p:=⟨b,o+i,none⟩) h2).trans (h3 i hi)⟩
theorem Wrs.below {w w':World} {a:Option Addr} {ws:List (Int×ByteArray)} (h:Wrs w a ws) (hb:Below w.heap.size w w'):Wrs w' a ws:=by
 rcases h with h | ⟨b,o,h1,h2,h3⟩
 ·exact .inl h
 ·exact .inr ⟨b,o,h1,Nat.lt_of_lt_of_le h2 hb.size,fun i hi=>⟨(hb.cell (p:=⟨b,o+i*2,none⟩) h2).trans (h3 i hi).1,(hb.cell (p:=⟨b,o+i*2+1,none⟩) h2).trans (h3 i hi).2⟩⟩
theorem Strs.at {w:World} {a:Option Addr} {ss:List ByteArray} (h:Strs w a ss) {k:Nat} (hk:k<ss.length):∃ b o s,a=some ⟨b,o,none⟩/\w.cell? ⟨b,o+k,none⟩=some (.string s)/\Hid (s=ss.getD k ByteArray.empty):=by
 rcases h with h | ⟨b,o,h1,h2,h3⟩
 ·subst h;simp at hk
 ·exact ⟨b,o,_,h1,h3 k hk,hid rfl⟩
theorem Wrs.at {w:World} {a:Option Addr} {ws:List (Int×ByteArray)} (h:Wrs w a ws) {k:Nat} (hk:k<ws.length):∃ b o n s,a=some ⟨b,o,none⟩/\w.cell? ⟨b,o+k*2,none⟩=some (.int .i64 n)/\w.cell? ⟨b,o+k*2+1,none⟩=some (.string s)/\Hid ((n,s)=ws.getD k (0,ByteArray.empty)):=by
 rcases h with h | ⟨b,o,h1,h2,h3⟩
 ·subst h;simp at hk
 ·exact ⟨b,o,_,_,h1,(h3 k hk).1,(h3 k hk).2,hid rfl⟩
theorem JGy {α:Type} (l:List α) (k:Nat) (d:α) (h:k<l.length):l.drop k=l.getD k d::l.drop (k+1):=by
 rw [List.drop_eq_getElem_cons h];simp [List.getD,h]
structure Row (w:World) (g:Nat) (cs:List Value):Prop where
 lt:g<w.heap.size
 cell:∀ i v,cs[i]?=some v->w.cell? ⟨g,i,none⟩=some v
 froz:∀ i,i<cs.length->w.frozen? ⟨g,i,none⟩=false
theorem Row.below {w w':World} {g:Nat} {cs:List Value} (h:Row w g cs) (hb:Below w.heap.size w w'):Row w' g cs :=
 ⟨Nat.lt_of_lt_of_le h.lt hb.size,fun i v hv=>(hb.cell (p:=⟨g,i,none⟩) h.lt).trans (h.cell i v hv),fun i hi=>(hb.frozen (p:=⟨g,i,none⟩) h.lt).trans (h.froz i hi)⟩
theorem Row.set {w:World} {g:Nat} {cs:List Value} (h:Row w g cs) (k:Nat) (hk:k<cs.length) (v:Value):Row (w.setCell ⟨g,k,none⟩ v) g (cs.set k v):=by
 refine ⟨by simpa [World.setCell] using h.lt,fun i u hu=>?_,fun i hi=>?_⟩
 ·by_cases he:i=k
  ·subst he
   rw [List.getElem?_set_self hk] at hu
   cases hu
   exact World.cell?_setCell_same w _ _ (h.cell i _ (List.getElem?_eq_getElem hk))
  ·rw [List.getElem?_set_ne (fun e=>he e.symm)] at hu
   rw [World.cell?_setCell_other (w:=w) (h:=show (⟨g,k,none⟩:Addr)≠⟨g,i,none⟩ by simp<;>omega)];exact h.cell i u hu
 ·rw [World.frozen?_setCell];exact h.froz i (by simpa using hi)
theorem Row.other {w:World} {g:Nat} {cs:List Value} (h:Row w g cs) (p:Addr) (hp:p.block≠g) (v:Value):Row (w.setCell p v) g cs:=by
 refine ⟨by simpa [World.setCell] using h.lt,fun i u hu=>?_,fun i hi=>?_⟩
 ·rw [World.cell?_setCell_other (w:=w) (h:=fun e=>hp (by rw [e]))];exact h.cell i u hu
 ·rw [World.frozen?_setCell];exact h.froz i hi
theorem Row.drew {w:World} {g:Nat} {cs:List Value} (h:Row w g cs):Row w.drew g cs:=⟨h.lt,h.cell,h.froz⟩
theorem Row.drewN {w:World} {g:Nat} {cs:List Value} (h:Row w g cs) (q:Nat):Row (w.drewN q) g cs:=h.below (below_drewN (Below.refl _ _) q)
theorem Row.alloc {w:World} {g:Nat} {cs:List Value} (h:Row w g cs) (o:Obj):Row (w.alloc o) g cs:=h.below ((Below.refl _ _).alloc (Nat.le_refl _) _)
theorem QjS (w:World) (b o:Nat) (h:w.heap.size<=b):w.frozen? ⟨b,o,none⟩=false:=by
 have e:w.heap[b]?=none:=by simp [h]
 simp [World.frozen?,e]
theorem xER (w:World) (A:Array Value) (t:TypeId):Row (w.alloc (.cells A t)) w.heap.size A.toList :=
 ⟨by simp,fun i v hv=>by rw [World.cell?_alloc_at _ _ _ _ rfl];simpa using hv,fun i hi=>by rw [frozen?_alloc_cells];exact QjS _ _ _ (Nat.le_refl _)⟩
theorem Row.strs {w:World} {g:Nat} {ss:List ByteArray} (h:Row w g (ss.map Value.string)):Strs w (some ⟨g,0,none⟩) ss :=
 .inr ⟨g,0,rfl,h.lt,fun i hi=>by
  rw [Nat.zero_add]
  exact h.cell i _ (by simp [List.getD,hi])⟩
def yaV (ws:List (Int×ByteArray)):List Value:=ws.flatMap fun x=>[.int .i64 x.1,.string x.2]
theorem QXs (a b:List (Int×ByteArray)):yaV (a++b)=yaV a++yaV b:=by simp [yaV]
theorem zPu (ws:List (Int×ByteArray)):(yaV ws).length=ws.length*2:=by
 induction ws with
 | nil=>rfl
 | cons x r ih=>simp [yaV] at ih ⊢;omega
theorem Qwf:∀ (ws:List (Int×ByteArray)) (i:Nat),i<ws.length->(yaV ws)[i*2]?=some (.int .i64 (ws.getD i (0,ByteArray.empty)).1)/\(yaV ws)[i*2+1]?=some (.string (ws.getD i (0,ByteArray.empty)).2)
 | x::r,0,_=>by simp [yaV]
 | x::r,i+1,h=>by
  have ih:=Qwf r i (by simpa using h);have e:yaV (x::r)=.int .i64 x.1::.string x.2::yaV r:=by simp [yaV]
  rw [e,show (i+1)*2=i*2+2 by omega];simpa using ih
theorem Row.wrs {w:World} {g:Nat} {ws:List (Int×ByteArray)} (h:Row w g (yaV ws)):Wrs w (some ⟨g,0,none⟩) ws :=
 .inr ⟨g,0,rfl,h.lt,fun i hi=>by
  rw [Nat.zero_add]
  exact ⟨h.cell _ _ (Qwf ws i hi).1,h.cell _ _ (Qwf ws i hi).2⟩⟩
theorem yIc {P:Program} {w:World} {aD:Array Oper} {aB:List Oper} {o:Oper} {a:Act} {Q:Exit->Act->World->Prop}
  (hg:o.guard=none) (l c:Operand) (t:TypeId) (aF:o.op=Op.makeSlice t l c) (e:TypeId) (z:Value) (size aA:Nat) (ht:P.underlying t=some (.slice e)) (aC:(P.info? e).map (fun i=>(i.zero,i.size,i.bytes))=some (some z,size,aA))
  (n:Nat) (hl:a.eval l=.int .i64 (n:Int)) (hc:a.eval c=.int .i64 (n:Int)) (hb:aA*n<=281474976710656) (hn:n<=281474976710656)
  (h:∀ wx,Row wx w.heap.size (madeCells z.cells (n*size)).toList->Below w.heap.size w wx->wx.heap.size=w.heap.size+1->wpList P aD Q aB (a.put o.dst (.slice (some ⟨w.heap.size,0,none⟩) n n)) wx):wpList P aD Q (o::aB) a w:=by
 refine wpList_plain hg fun K hK=>?_
 obtain ⟨i,hi,hh⟩:=Option.map_eq_some_iff.1 aC;simp only [Prod.mk.injEq] at hh;obtain ⟨h1,h2,h3⟩:=hh;subst h2 h3
 have aE:(i.bytes:Int)*(n:Int)<=281474976710656:=by
  have:((i.bytes*n:Nat):Int)<=281474976710656:=by omega
  rwa [Int.natCast_mul] at this
 have hr:=run_make (P:=P) w t e i z ht hi h1 .i64 .i64 n n (by omega) (Int.le_refl _) aE (by omega);simp only [Int.toNat_natCast] at hr;unfold Oper.wp;simp [execOp,aF,hl,hc,hr,Result.andThen];exact hK _ _ (h _ (xER _ _ _) ((Below.refl _ _).alloc (Nat.le_refl _) _) (by simp))
theorem Row.k3 {w:World} {g:Nat} {v0 v1 v2:Value} {r:List Value} (h:Row w g (v0::v1::v2::r)):w.cell? ⟨g,0,none⟩=some v0/\w.cell? ⟨g,1,none⟩=some v1/\w.cell? ⟨g,2,none⟩=some v2:=⟨h.cell 0 _ rfl,h.cell 1 _ rfl,h.cell 2 _ rfl⟩
theorem Row.k4 {w:World} {g:Nat} {v0 v1 v2 v3:Value} {r:List Value} (h:Row w g (v0::v1::v2::v3::r)):w.cell? ⟨g,0,none⟩=some v0/\w.cell? ⟨g,1,none⟩=some v1/\w.cell? ⟨g,2,none⟩=some v2/\w.cell? ⟨g,3,none⟩=some v3:=⟨h.cell 0 _ rfl,h.cell 1 _ rfl,h.cell 2 _ rfl,h.cell 3 _ rfl⟩
theorem Row.k10 {w:World} {g:Nat} {v0 v1 v2 v3 v4 v5 v6 v7 v8 v9:Value} {r:List Value} (h:Row w g (v0::v1::v2::v3::v4::v5::v6::v7::v8::v9::r)):w.cell? ⟨g,0,none⟩=some v0/\w.cell? ⟨g,1,none⟩=some v1/\w.cell? ⟨g,2,none⟩=some v2/\w.cell? ⟨g,3,none⟩=some v3/\w.cell? ⟨g,4,none⟩=some v4/\w.cell? ⟨g,5,none⟩=some v5/\w.cell? ⟨g,6,none⟩=some v6/\w.cell? ⟨g,7,none⟩=some v7/\w.cell? ⟨g,8,none⟩=some v8/\w.cell? ⟨g,9,none⟩=some v9:=⟨h.cell 0 _ rfl,h.cell 1 _ rfl,h.cell 2 _ rfl,h.cell 3 _ rfl,h.cell 4 _ rfl,h.cell 5 _ rfl,h.cell 6 _ rfl,h.cell 7 _ rfl,h.cell 8 _ rfl,h.cell 9 _ rfl⟩
theorem Row.k12 {w:World} {g:Nat} {v0 v1 v2 v3 v4 v5 v6 v7 v8 v9 aB aA:Value} {r:List Value} (h:Row w g (v0::v1::v2::v3::v4::v5::v6::v7::v8::v9::aB::aA::r)):w.cell? ⟨g,0,none⟩=some v0/\w.cell? ⟨g,1,none⟩=some v1/\w.cell? ⟨g,2,none⟩=some v2/\w.cell? ⟨g,3,none⟩=some v3/\w.cell? ⟨g,4,none⟩=some v4/\w.cell? ⟨g,5,none⟩=some v5/\w.cell? ⟨g,6,none⟩=some v6/\w.cell? ⟨g,7,none⟩=some v7/\w.cell? ⟨g,8,none⟩=some v8/\w.cell? ⟨g,9,none⟩=some v9/\w.cell? ⟨g,10,none⟩=some aB/\w.cell? ⟨g,11,none⟩=some aA:=⟨h.cell 0 _ rfl,h.cell 1 _ rfl,h.cell 2 _ rfl,h.cell 3 _ rfl,h.cell 4 _ rfl,h.cell 5 _ rfl,h.cell 6 _ rfl,h.cell 7 _ rfl,h.cell 8 _ rfl,h.cell 9 _ rfl,h.cell 10 _ rfl,h.cell 11 _ rfl⟩
theorem Row.k16 {w:World} {g:Nat} {v0 v1 v2 v3 v4 v5 v6 v7 v8 v9 aF aE aC aA aD aB:Value} {r:List Value} (h:Row w g (v0::v1::v2::v3::v4::v5::v6::v7::v8::v9::aF::aE::aC::aA::aD::aB::r)):w.cell? ⟨g,0,none⟩=some v0/\w.cell? ⟨g,1,none⟩=some v1/\w.cell? ⟨g,2,none⟩=some v2/\w.cell? ⟨g,3,none⟩=some v3/\w.cell? ⟨g,4,none⟩=some v4/\w.cell? ⟨g,5,none⟩=some v5/\w.cell? ⟨g,6,none⟩=some v6/\w.cell? ⟨g,7,none⟩=some v7/\w.cell? ⟨g,8,none⟩=some v8/\w.cell? ⟨g,9,none⟩=some v9/\w.cell? ⟨g,10,none⟩=some aF/\w.cell? ⟨g,11,none⟩=some aE/\w.cell? ⟨g,12,none⟩=some aC/\w.cell? ⟨g,13,none⟩=some aA/\w.cell? ⟨g,14,none⟩=some aD/\w.cell? ⟨g,15,none⟩=some aB:=⟨h.cell 0 _ rfl,h.cell 1 _ rfl,h.cell 2 _ rfl,h.cell 3 _ rfl,h.cell 4 _ rfl,h.cell 5 _ rfl,h.cell 6 _ rfl,h.cell 7 _ rfl,h.cell 8 _ rfl,h.cell 9 _ rfl,h.cell 10 _ rfl,h.cell 11 _ rfl,h.cell 12 _ rfl,h.cell 13 _ rfl,h.cell 14 _ rfl,h.cell 15 _ rfl⟩
theorem Row.z2 {w:World} {g:Nat} {v0 v1:Value} {r:List Value} (h:Row w g (v0::v1::r)):w.frozen? ⟨g,0,none⟩=false/\w.frozen? ⟨g,1,none⟩=false:=⟨h.froz 0 (by simp),h.froz 1 (by simp)⟩
theorem Row.z3 {w:World} {g:Nat} {v0 v1 v2:Value} {r:List Value} (h:Row w g (v0::v1::v2::r)):w.frozen? ⟨g,0,none⟩=false/\w.frozen? ⟨g,1,none⟩=false/\w.frozen? ⟨g,2,none⟩=false:=⟨h.froz 0 (by simp),h.froz 1 (by simp),h.froz 2 (by simp)⟩
theorem Row.z4 {w:World} {g:Nat} {v0 v1 v2 v3:Value} {r:List Value} (h:Row w g (v0::v1::v2::v3::r)):w.frozen? ⟨g,0,none⟩=false/\w.frozen? ⟨g,1,none⟩=false/\w.frozen? ⟨g,2,none⟩=false/\w.frozen? ⟨g,3,none⟩=false:=⟨h.froz 0 (by simp),h.froz 1 (by simp),h.froz 2 (by simp),h.froz 3 (by simp)⟩
theorem Row.z12 {w:World} {g:Nat} {v0 v1 v2 v3 v4 v5 v6 v7 v8 v9 aB aA:Value} {r:List Value} (h:Row w g (v0::v1::v2::v3::v4::v5::v6::v7::v8::v9::aB::aA::r)):w.frozen? ⟨g,0,none⟩=false/\w.frozen? ⟨g,1,none⟩=false/\w.frozen? ⟨g,2,none⟩=false/\w.frozen? ⟨g,3,none⟩=false/\w.frozen? ⟨g,4,none⟩=false/\w.frozen? ⟨g,5,none⟩=false/\w.frozen? ⟨g,6,none⟩=false/\w.frozen? ⟨g,7,none⟩=false/\w.frozen? ⟨g,8,none⟩=false/\w.frozen? ⟨g,9,none⟩=false/\w.frozen? ⟨g,10,none⟩=false/\w.frozen? ⟨g,11,none⟩=false:=⟨h.froz 0 (by simp),h.froz 1 (by simp),h.froz 2 (by simp),h.froz 3 (by simp),h.froz 4 (by simp),h.froz 5 (by simp),h.froz 6 (by simp),h.froz 7 (by simp),h.froz 8 (by simp),h.froz 9 (by simp),h.froz 10 (by simp),h.froz 11 (by simp)⟩
theorem Row.z16 {w:World} {g:Nat} {v0 v1 v2 v3 v4 v5 v6 v7 v8 v9 aF aE aC aA aD aB:Value} {r:List Value} (h:Row w g (v0::v1::v2::v3::v4::v5::v6::v7::v8::v9::aF::aE::aC::aA::aD::aB::r)):w.frozen? ⟨g,0,none⟩=false/\w.frozen? ⟨g,1,none⟩=false/\w.frozen? ⟨g,2,none⟩=false/\w.frozen? ⟨g,3,none⟩=false/\w.frozen? ⟨g,4,none⟩=false/\w.frozen? ⟨g,5,none⟩=false/\w.frozen? ⟨g,6,none⟩=false/\w.frozen? ⟨g,7,none⟩=false/\w.frozen? ⟨g,8,none⟩=false/\w.frozen? ⟨g,9,none⟩=false/\w.frozen? ⟨g,10,none⟩=false/\w.frozen? ⟨g,11,none⟩=false/\w.frozen? ⟨g,12,none⟩=false/\w.frozen? ⟨g,13,none⟩=false/\w.frozen? ⟨g,14,none⟩=false/\w.frozen? ⟨g,15,none⟩=false:=⟨h.froz 0 (by simp),h.froz 1 (by simp),h.froz 2 (by simp),h.froz 3 (by simp),h.froz 4 (by simp),h.froz 5 (by simp),h.froz 6 (by simp),h.froz 7 (by simp),h.froz 8 (by simp),h.froz 9 (by simp),h.froz 10 (by simp),h.froz 11 (by simp),h.froz 12 (by simp),h.froz 13 (by simp),h.froz 14 (by simp),h.froz 15 (by simp)⟩
theorem ZpU {a b c:World} {r:Option Nat} (h:a.grownBy b r) (k:b.grownBy c r):a.grownBy c r :=
 ⟨k.os.trans h.os,k.tape.trans h.tape,k.output.trans h.output,Nat.le_trans h.size k.size,fun i hi hr=>(k.block i (Nat.lt_of_lt_of_le hi h.size) hr).trans (h.block i hi hr)⟩
theorem Qbp {a b:World} (r:Option Nat) (h:Below a.heap.size a b):a.grownBy b r:=⟨h.os,h.tape,h.output,h.size,fun i hi _=>h.block i hi⟩
theorem y09 {a b:World} {g:Nat} (h:a.grownBy b (some g)) (i:Nat) (v:Value):a.grownBy (b.setCell ⟨g,i,none⟩ v) (some g) :=
 ZpU h ⟨rfl,rfl,rfl,by simp [World.setCell],fun j _ hj=>Below.heap_setCell _ _ _ _ (fun e=>hj (by rw [e]))⟩
theorem jJX {a b:World} {r:Option Nat} {B:Nat} (h:a.grownBy b r) (hB:B<=a.heap.size) (hr:∀ g,r=some g->B<=g):Below B a b :=
 ⟨h.os,h.tape,h.output,h.size,fun k hk=>h.block k (by omega) (fun e=>by have:=hr k e.symm;omega)⟩
theorem Row.grown {w w':World} {g:Nat} {cs:List Value} {r:Option Nat} (h:Row w g cs) (hg:w.grownBy w' r) (hn:some g≠r):Row w' g cs :=
 ⟨Nat.lt_of_lt_of_le h.lt hg.size,fun i v hv=>(World.cell?_of_block (a:=⟨g,i,none⟩) (hg.block g h.lt hn)).trans (h.cell i v hv),fun i hi=>(World.frozen?_of_block (a:=⟨g,i,none⟩) (hg.block g h.lt hn)).trans (h.froz i hi)⟩
def OwnS (w:World) (a:Option Addr) (cs:List Value):Prop:=cs=[]\/∃ g,a=some ⟨g,0,none⟩/\Row w g cs
def blk (a:Option Addr) (n:Nat):Option Nat:=if n=0 then none else a.map (·.block)
theorem qdd (b o:Nat) (n:Nat) (h:n≠0):blk (some ⟨b,o,none⟩) n=some b:=by simp [blk,h]
structure OwnD (w:World) (a:Option Addr) (ss:List ByteArray) (a':Option Addr) (ws:List (Int×ByteArray)):Prop where
 s:OwnS w a (ss.map Value.string)
 p:OwnS w a' (yaV ws)
 ne:blk a ss.length=none\/blk a' ws.length=none\/blk a ss.length≠blk a' ws.length
theorem OwnS.below {w w':World} {a:Option Addr} {cs:List Value} (h:OwnS w a cs) (hb:Below w.heap.size w w'):OwnS w' a cs:=by
 rcases h with h | ⟨g,h1,h2⟩
 ·exact .inl h
 ·exact .inr ⟨g,h1,h2.below hb⟩
theorem OwnS.grown {w w':World} {a:Option Addr} {cs:List Value} {r:Option Nat} (h:OwnS w a cs) (hg:w.grownBy w' r) (hn:∀ g,a=some ⟨g,0,none⟩->cs≠[]->some g≠r):OwnS w' a cs:=by
 by_cases hc:cs=[]
 ·exact .inl hc
 ·obtain ⟨g,h1,h2⟩:=h.resolve_left hc
  exact .inr ⟨g,h1,h2.grown hg (hn g h1 hc)⟩
theorem OwnS.lt {w:World} {a:Option Addr} {cs:List Value} (h:OwnS w a cs) (n:Nat) (hn:n≠0->cs≠[]):∀ g,blk a n=some g->g<w.heap.size:=fun g hg=>by
 by_cases h0:n=0
 ·subst h0;cases hg
 ·obtain ⟨g',rfl,h2⟩:=h.resolve_left (hn h0)
  rw [qdd g' 0 n h0] at hg
  cases hg
  exact h2.lt
theorem OwnD.below {w w':World} {a a':Option Addr} {ss:List ByteArray} {ws:List (Int×ByteArray)} (h:OwnD w a ss a' ws) (hb:Below w.heap.size w w'):OwnD w' a ss a' ws:=⟨h.s.below hb,h.p.below hb,h.ne⟩
theorem OwnS.strs {w:World} {a:Option Addr} {ss:List ByteArray} (h:OwnS w a (ss.map Value.string)):Strs w a ss:=by
 rcases h with h | ⟨g,rfl,h2⟩
 ·exact .inl (by simpa using h)
 ·exact h2.strs
theorem OwnS.wrs {w:World} {a:Option Addr} {ws:List (Int×ByteArray)} (h:OwnS w a (yaV ws)):Wrs w a ws:=by
 rcases h with h | ⟨g,rfl,h2⟩
 ·exact .inl (by have:=congrArg List.length h;rw [zPu,List.length_nil] at this;exact List.eq_nil_of_length_eq_zero (by omega))
 ·exact h2.wrs
theorem qXV {ss:List ByteArray} (h:ss.length≠0):ss.map Value.string≠[]:=fun e=>h (by have:=congrArg List.length e;simpa using this)
theorem Z3Z {ss:List ByteArray} (h:ss.map Value.string≠[]):ss.length≠0:=fun e=>h (by rw [List.eq_nil_of_length_eq_zero e];rfl)
theorem qO5 {ws:List (Int×ByteArray)} (h:yaV ws≠[]):ws.length≠0:=fun e=>h (by rw [List.eq_nil_of_length_eq_zero e];rfl)
@[reducible] def Zoj (a:Option Addr) (n c:Nat) (a':Option Addr) (n' c':Nat):Value:=.agg #[.slice a n c,.slice a' n' c']
theorem kDp:(Tryz.prog.info? 9).map (fun i=>(i.zero,i.size,i.bytes))=some (some (.string ByteArray.empty),1,16):=by kernel_rfl
theorem yGS:(Tryz.prog.info? 97).map (fun i=>(i.zero,i.size,i.bytes))=some (some (.agg #[.int .i64 0,.string ByteArray.empty]),2,24):=by kernel_rfl
theorem y6s {W w1:World} (hb:Below W.heap.size W w1):(∀ b o,b<W.heap.size->w1.cell? ⟨b,o,none⟩=W.cell? ⟨b,o,none⟩)/\(∀ b o,b<W.heap.size->w1.frozen? ⟨b,o,none⟩=W.frozen? ⟨b,o,none⟩) :=
 ⟨fun b o h=>hb.cell (p:=⟨b,o,none⟩) h,fun b o h=>hb.frozen (p:=⟨b,o,none⟩) h⟩
section
theorem jcb {w w':World} {base:Nat} {e:TypeId} {size:Nat} {v:Value} {n:Nat} {xs:List Value} (h:w.ownsRow base e size v n xs) (hb:Below w.heap.size w w'):w'.ownsRow base e size v n xs:=by
 refine ⟨h.1,?_⟩;rcases h.2 with h0 | ⟨g,cap,aB,h1,h2,h3,h4⟩
 ·exact .inl h0
 ·refine .inr ⟨g,cap,aB,h1,h2,?_,h4⟩
  have aA:g<w.heap.size:=by
   rcases Nat.lt_or_ge g w.heap.size with h | h
   ·exact h
   ·rw [Array.getElem?_eq_none h] at h3;cases h3
  rw [hb.block g aA];exact h3
theorem kX5 {w:World} {base:Nat} {e:TypeId} {size:Nat} {g n cap:Nat} {xs:List Value} (h:w.ownsRow base e size (.slice (some ⟨g,0,none⟩) n cap) n xs):Row w g xs:=by
 have hl:=(h.lt g rfl).2;refine ⟨hl,fun i v hv=>?_,fun i hi=>?_⟩
 ·have:=h.cells (g:=g) rfl i v hv
  have ha:(⟨g,0,none⟩:Addr).add i=⟨g,i,none⟩:=by unfold Addr.add;split<;>simp_all
  rwa [ha] at this
 ·rcases h.2 with ⟨h0,_⟩ | ⟨g',aA,aB,h1,_,h3,_⟩
  ·cases h0
  ·simp at h1
   rw [<-h1.1] at h3;simp [World.frozen?,h3]
theorem yUO {w:World} {base:Nat} {e:TypeId} {size:Nat} {v:Value} {n:Nat} {xs:List Value} (h:w.ownsRow base e size v n xs):(v=.slice none 0 0/\n=0)\/∃ g cap,v=.slice (some ⟨g,0,none⟩) n cap/\base<=g/\g<w.heap.size/\Row w g xs:=by
 rcases h.2 with h0 | ⟨g,cap,aA,h1,h2,h3,h4⟩
 ·exact .inl h0
 ·subst h1
  exact .inr ⟨g,cap,rfl,h2,(h.lt g rfl).2,kX5 h⟩
structure Dsk (W w:World) (R D base:Nat) (e e':TypeId) (v v':Value) (ss:List ByteArray) (ws:List (Int×ByteArray)):Prop where
 hR:W.heap.size<=R
 hR':R<base
 hD:W.heap.size<=D
 hD':D<base
 ne:R≠D
 sz:base<=w.heap.size
 bel:Below W.heap.size W w
 r0:w.cell? ⟨R,0,none⟩=some (.slice none 0 0)
 r1:w.cell? ⟨R,1,none⟩=some (.slice none 0 0)
 fr0:w.frozen? ⟨R,0,none⟩=false
 fr1:w.frozen? ⟨R,1,none⟩=false
 d0:w.cell? ⟨D,0,none⟩=some v
 d1:w.cell? ⟨D,1,none⟩=some v'
 fd0:w.frozen? ⟨D,0,none⟩=false
 fd1:w.frozen? ⟨D,1,none⟩=false
 own:w.ownsRow base e 1 v ss.length (ss.map Value.string)
 own':w.ownsRow base e' 2 v' ws.length (yaV ws)
 apart:v.ownBlock=none\/v'.ownBlock=none\/v.ownBlock≠v'.ownBlock
section
variable {W w w':World} {R D base:Nat} {e e':TypeId} {v v':Value} {ss:List ByteArray} {ws:List (Int×ByteArray)}
theorem Dsk.below (h:Dsk W w R D base e e' v v' ss ws) (hb:Below w.heap.size w w'):Dsk W w' R D base e e' v v' ss ws :=
 have lR:R<w.heap.size:=Nat.lt_of_lt_of_le h.hR' h.sz;have lD:D<w.heap.size:=Nat.lt_of_lt_of_le h.hD' h.sz;have lW:W.heap.size<=w.heap.size:=h.bel.size
 ⟨h.hR,h.hR',h.hD,h.hD',h.ne,Nat.le_trans h.sz hb.size,h.bel.trans (hb.mono lW),(hb.cell (p:=⟨R,0,none⟩) lR).trans h.r0,(hb.cell (p:=⟨R,1,none⟩) lR).trans h.r1,(hb.frozen (p:=⟨R,0,none⟩) lR).trans h.fr0,(hb.frozen (p:=⟨R,1,none⟩) lR).trans h.fr1,
  (hb.cell (p:=⟨D,0,none⟩) lD).trans h.d0,(hb.cell (p:=⟨D,1,none⟩) lD).trans h.d1,(hb.frozen (p:=⟨D,0,none⟩) lD).trans h.fd0,(hb.frozen (p:=⟨D,1,none⟩) lD).trans h.fd1,jcb h.own hb,jcb h.own' hb,h.apart⟩
theorem Dsk.drew (h:Dsk W w R D base e e' v v' ss ws):Dsk W w.drew R D base e e' v v' ss ws:=h.below ((Below.refl _ _).drew)
theorem Dsk.alloc (h:Dsk W w R D base e e' v v' ss ws) (o:Obj):Dsk W (w.alloc o) R D base e e' v v' ss ws:=h.below ((Below.refl _ _).alloc (Nat.le_refl _) _)
theorem Dsk.push (h:Dsk W w R D base e e' v v' ss ws) {w1:World} {g cap H:Nat} {s:ByteArray} (aA:w1.ownsRow base e 1 (.slice (some ⟨g,0,none⟩) (ss.length+1) cap) (ss.length+1) (ss.map Value.string++[.string s])) (hg:w.grownBy w1 v.ownBlock) (aC:v.ownBlock=some g\/g=H) (hH:w.heap.size=H) :
  Dsk W (w1.setCell ⟨D,0,none⟩ (.slice (some ⟨g,0,none⟩) (ss.length+1) cap)) R D base e e' (.slice (some ⟨g,0,none⟩) (ss.length+1) cap) v' (ss++[s]) ws:=by
 have lR:R<w.heap.size:=Nat.lt_of_lt_of_le h.hR' h.sz;have lD:D<w.heap.size:=Nat.lt_of_lt_of_le h.hD' h.sz;have lW:W.heap.size<=w.heap.size:=h.bel.size
 have nb:∀ k,k<base->some k≠v.ownBlock:=fun k hk he=>by have:=(h.own.lt k he.symm).1;omega
 have cR:∀ i,w1.cell? ⟨R,i,none⟩=w.cell? ⟨R,i,none⟩:=fun i=>hg.cell_far ⟨R,i,none⟩ lR (nb R h.hR')
 have cD:∀ i,w1.cell? ⟨D,i,none⟩=w.cell? ⟨D,i,none⟩:=fun i=>hg.cell_far ⟨D,i,none⟩ lD (nb D h.hD')
 have fR:∀ i,w1.frozen? ⟨R,i,none⟩=w.frozen? ⟨R,i,none⟩:=fun i=>hg.frozen_far ⟨R,i,none⟩ lR (nb R h.hR')
 have fD:∀ i,w1.frozen? ⟨D,i,none⟩=w.frozen? ⟨D,i,none⟩:=fun i=>hg.frozen_far ⟨D,i,none⟩ lD (nb D h.hD')
 have gb:base<=g:=(aA.lt g rfl).1;have aB:Below W.heap.size W w1:=h.bel.trans ⟨hg.os,hg.tape,hg.output,hg.size,fun k hk=>hg.block k (by omega) (nb k (by have:=h.hR;have:=h.hR';omega))⟩
 have ap:v'.ownBlock=none\/(Value.slice (some ⟨g,0,none⟩) (ss.length+1) cap).ownBlock≠v'.ownBlock:=by
  cases hv':v'.ownBlock with
  | none=>exact .inl rfl
  | some g' =>
   refine .inr fun he=>?_
   have aD:g=g':=by simpa [Value.ownBlock] using he
   have aE:=(h.own'.lt g' hv').2;rcases aC with h1 | h1
   ·rcases h.apart with h2 | h2 | h2
    ·rw [h1] at h2;cases h2
    ·rw [hv'] at h2;cases h2
    ·rw [h1,hv',aD] at h2;exact h2 rfl
   ·omega
 refine ⟨h.hR,h.hR',h.hD,h.hD',h.ne,?_,aB.setCell h.hD _,?_,?_,?_,?_,?_,?_,?_,?_,?_,?_,?_⟩
 ·have:=hg.size;have:=h.sz;simp only [World.size_setCell];omega
 ·rw [World.cell?_setCell_other (w:=w1) (h:=show (⟨D,0,none⟩:Addr)≠⟨R,0,none⟩ from fun he=>h.ne (by injection he with h1;exact h1.symm)),cR];exact h.r0
 ·rw [World.cell?_setCell_other (w:=w1) (h:=show (⟨D,0,none⟩:Addr)≠⟨R,1,none⟩ from fun he=>h.ne (by injection he with h1;exact h1.symm)),cR];exact h.r1
 ·rw [World.frozen?_setCell,fR];exact h.fr0
 ·rw [World.frozen?_setCell,fR];exact h.fr1
 ·exact World.cell?_setCell_same w1 _ _ ((cD 0).trans h.d0)
 ·rw [World.cell?_setCell_other (w:=w1) (h:=show (⟨D,0,none⟩:Addr)≠⟨D,1,none⟩ by simp),cD];exact h.d1
 ·rw [World.frozen?_setCell,fD];exact h.fd0
 ·rw [World.frozen?_setCell,fD];exact h.fd1
 ·have:=ownsRow_setCell_below aA (a:=⟨D,0,none⟩) h.hD' (.slice (some ⟨g,0,none⟩) (ss.length+1) cap)
  simpa using this
 ·have k1:w1.ownsRow base e' 2 v' ws.length (yaV ws):=h.own'.kept hg (by
   rcases h.apart with h2 | h2 | h2
   ·cases hv':v'.ownBlock with
    | none=>exact .inl rfl
    | some _=>rw [h2];exact .inr (by simp)
   ·exact .inl h2
   ·exact .inr (fun he=>h2 he.symm))
  exact ownsRow_setCell_below k1 (a:=⟨D,0,none⟩) h.hD' _
 ·exact .inr ap
theorem Dsk.push2 (h:Dsk W w R D base e e' v v' ss ws) {w1:World} {g cap H:Nat} {x:Int×ByteArray} (aA:w1.ownsRow base e' 2 (.slice (some ⟨g,0,none⟩) (ws.length+1) cap) (ws.length+1) (yaV ws++[.int .i64 x.1,.string x.2])) (hg:w.grownBy w1 v'.ownBlock) (aC:v'.ownBlock=some g\/g=H) (hH:w.heap.size=H) :
  Dsk W (w1.setCell ⟨D,1,none⟩ (.slice (some ⟨g,0,none⟩) (ws.length+1) cap)) R D base e e' v (.slice (some ⟨g,0,none⟩) (ws.length+1) cap) ss (ws++[x]):=by
 have lR:R<w.heap.size:=Nat.lt_of_lt_of_le h.hR' h.sz;have lD:D<w.heap.size:=Nat.lt_of_lt_of_le h.hD' h.sz;have lW:W.heap.size<=w.heap.size:=h.bel.size
 have nb:∀ k,k<base->some k≠v'.ownBlock:=fun k hk he=>by have:=(h.own'.lt k he.symm).1;omega
 have cR:∀ i,w1.cell? ⟨R,i,none⟩=w.cell? ⟨R,i,none⟩:=fun i=>hg.cell_far ⟨R,i,none⟩ lR (nb R h.hR')
 have cD:∀ i,w1.cell? ⟨D,i,none⟩=w.cell? ⟨D,i,none⟩:=fun i=>hg.cell_far ⟨D,i,none⟩ lD (nb D h.hD')
 have fR:∀ i,w1.frozen? ⟨R,i,none⟩=w.frozen? ⟨R,i,none⟩:=fun i=>hg.frozen_far ⟨R,i,none⟩ lR (nb R h.hR')
 have fD:∀ i,w1.frozen? ⟨D,i,none⟩=w.frozen? ⟨D,i,none⟩:=fun i=>hg.frozen_far ⟨D,i,none⟩ lD (nb D h.hD')
 have gb:base<=g:=(aA.lt g rfl).1;have aB:Below W.heap.size W w1:=h.bel.trans ⟨hg.os,hg.tape,hg.output,hg.size,fun k hk=>hg.block k (by omega) (nb k (by have:=h.hR;have:=h.hR';omega))⟩
 have ap:v.ownBlock=none\/v.ownBlock≠(Value.slice (some ⟨g,0,none⟩) (ws.length+1) cap).ownBlock:=by
  cases hv:v.ownBlock with
  | none=>exact .inl rfl
  | some g' =>
   refine .inr fun he=>?_
   have aD:g'=g:=by simpa [Value.ownBlock] using he
   have aE:=(h.own.lt g' hv).2;rcases aC with h1 | h1
   ·rcases h.apart with h2 | h2 | h2
    ·rw [hv] at h2;cases h2
    ·rw [h1] at h2;cases h2
    ·rw [h1,hv,aD] at h2;exact h2 rfl
   ·omega
 refine ⟨h.hR,h.hR',h.hD,h.hD',h.ne,?_,aB.setCell h.hD _,?_,?_,?_,?_,?_,?_,?_,?_,?_,?_,?_⟩
 ·have:=hg.size;have:=h.sz;simp only [World.size_setCell];omega
 ·rw [World.cell?_setCell_other (w:=w1) (h:=show (⟨D,1,none⟩:Addr)≠⟨R,0,none⟩ from fun he=>h.ne (by injection he with h1;exact h1.symm)),cR];exact h.r0
 ·rw [World.cell?_setCell_other (w:=w1) (h:=show (⟨D,1,none⟩:Addr)≠⟨R,1,none⟩ from fun he=>h.ne (by injection he with h1;exact h1.symm)),cR];exact h.r1
 ·rw [World.frozen?_setCell,fR];exact h.fr0
 ·rw [World.frozen?_setCell,fR];exact h.fr1
 ·rw [World.cell?_setCell_other (w:=w1) (h:=show (⟨D,1,none⟩:Addr)≠⟨D,0,none⟩ by simp),cD];exact h.d0
 ·exact World.cell?_setCell_same w1 _ _ ((cD 1).trans h.d1)
 ·rw [World.frozen?_setCell,fD];exact h.fd0
 ·rw [World.frozen?_setCell,fD];exact h.fd1
 ·have k1:w1.ownsRow base e 1 v ss.length (ss.map Value.string):=h.own.kept hg (by
   rcases h.apart with h2 | h2 | h2
   ·exact .inl h2
   ·cases hv:v.ownBlock with
    | none=>exact .inl rfl
    | some _=>rw [h2];exact .inr (by simp)
   ·exact .inr h2)
  exact ownsRow_setCell_below k1 (a:=⟨D,1,none⟩) h.hD' _
 ·have:=ownsRow_setCell_below aA (a:=⟨D,1,none⟩) h.hD' (.slice (some ⟨g,0,none⟩) (ws.length+1) cap)
  rw [List.length_append,QXs];exact this
 ·rcases ap with h1 | h1
  ·exact .inl h1
  ·exact .inr (.inr h1)
theorem Dsk.grown {w1:World} (h:Dsk W w R D base e e' v v' ss ws) (hg:w.grownBy w1 v.ownBlock):w1.cell? ⟨D,0,none⟩=some v/\w1.frozen? ⟨D,0,none⟩=false:=by
 have lD:D<w.heap.size:=Nat.lt_of_lt_of_le h.hD' h.sz
 have nb:some D≠v.ownBlock:=fun he=>by have:=(h.own.lt D he.symm).1;have:=h.hD';omega
 exact ⟨(hg.cell_far ⟨D,0,none⟩ lD nb).trans h.d0,(hg.frozen_far ⟨D,0,none⟩ lD nb).trans h.fd0⟩
theorem Dsk.grown2 {w1:World} (h:Dsk W w R D base e e' v v' ss ws) (hg:w.grownBy w1 v'.ownBlock):w1.cell? ⟨D,1,none⟩=some v'/\w1.frozen? ⟨D,1,none⟩=false:=by
 have lD:D<w.heap.size:=Nat.lt_of_lt_of_le h.hD' h.sz
 have nb:some D≠v'.ownBlock:=fun he=>by have:=(h.own'.lt D he.symm).1;have:=h.hD';omega
 exact ⟨(hg.cell_far ⟨D,1,none⟩ lD nb).trans h.d1,(hg.frozen_far ⟨D,1,none⟩ lD nb).trans h.fd1⟩
end
end
theorem QBo (z:Value) (hz:z.cells=#[z]) (n:Nat):(madeCells z.cells (n*1)).toList=List.replicate n z:=by
 unfold madeCells;rw [Nat.mul_one,Array.toList_map,Array.toList_range,List.eq_replicate_iff];refine ⟨by simp,fun b hb=>?_⟩;obtain ⟨i,_,rfl⟩:=List.mem_map.1 hb;rw [hz];have:i % (#[z]:Array Value).size=0:=by simp [Nat.mod_one]
 rw [this];rfl
theorem Dsk.start (w:World) (t1 t2 e e':TypeId):Dsk w ((w.alloc (.cells #[.slice none 0 0,.slice none 0 0] t1)).alloc (.cells #[.slice none 0 0,.slice none 0 0] t2)) w.heap.size (w.heap.size+1) (w.heap.size+1+1) e e' (.slice none 0 0) (.slice none 0 0) [] []:=by
 have hb:Below w.heap.size w ((w.alloc (.cells #[.slice none 0 0,.slice none 0 0] t1)).alloc (.cells #[.slice none 0 0,.slice none 0 0] t2)):=((Below.refl _ _).alloc (Nat.le_refl _) _).alloc (by simp) _;have r1:=(xER w #[.slice none 0 0,.slice none 0 0] t1).alloc (.cells #[.slice none 0 0,.slice none 0 0] t2);have r2:=xER (w.alloc (.cells #[.slice none 0 0,.slice none 0 0] t1)) #[.slice none 0 0,.slice none 0 0] t2;simp only [World.size_alloc] at r2;exact ⟨Nat.le_refl _,by omega,by omega,by omega,by omega,by simp,hb,r1.cell 0 _ rfl,r1.cell 1 _ rfl,r1.froz 0 (by simp),r1.froz 1 (by simp),r2.cell 0 _ rfl,r2.cell 1 _ rfl,r2.froz 0 (by simp),r2.froz 1 (by simp),World.ownsRow_nil _ _ _ _,World.ownsRow_nil _ _ _ _,.inl rfl⟩
theorem q00 {P:Program} {e:TypeId} {z:Value} {size aA:Nat} (h:(P.info? e).map (fun i=>(i.zero,i.size,i.bytes))=some (some z,size,aA)):∃ i,P.info? e=some i/\i.zero=some z/\i.size=size/\i.bytes=aA:=by
 obtain ⟨i,hi,hh⟩:=Option.map_eq_some_iff.1 h;simp only [Prod.mk.injEq] at hh;exact ⟨i,hi,hh⟩
theorem kVP {P:Program} {aB:Array Oper} {aA:List Oper} {op:Oper} {a:Act} {w:World} {Q:Exit->Act->World->Prop} (ty:TypeId) (x:Operand) (aC:op.op=.load ty x) (h:wpList P aB Q (op::aA) a w):wpList P aB Q (op::aA) a w:=h
theorem JWC {P:Program} {aB:Array Oper} {aA:List Oper} {op:Oper} {a:Act} {w:World} {Q:Exit->Act->World->Prop} (ty:TypeId) (x y:Operand) (aC:op.op=.store ty x y) (h:wpList P aB Q (op::aA) a w):wpList P aB Q (op::aA) a w:=h
def Plt (w:World) (a:Option Addr) (ps:List (List Int)):Prop :=
 ps=[]\/∃ b o,a=some ⟨b,o,none⟩/\b<w.heap.size/\∀ i,i<ps.length->w.rangeAt b (o+i*64) ((ps.getD i []).map (Value.int .u8))
def Hld (w:World) (a:Option Addr) (hs:List (Int×List Int)):Prop :=
 hs=[]\/∃ b o,a=some ⟨b,o,none⟩/\b<w.heap.size/\∀ i,i<hs.length->w.rangeAt b (o+i*65) (.int .i64 (hs.getD i (0,[])).1::(hs.getD i (0,[])).2.map (Value.int .u8))
theorem qKB {w w':World} {b o:Nat} {cs:List Value} (h:w.rangeAt b o cs) (hb:Below w.heap.size w w') (aA:b<w.heap.size):w'.rangeAt b o cs:=fun j v hv=>(hb.cell (p:=⟨b,o+j,none⟩) aA).trans (h j v hv)
theorem Plt.below {w w':World} {a:Option Addr} {ps:List (List Int)} (h:Plt w a ps) (hb:Below w.heap.size w w'):Plt w' a ps:=by
 rcases h with h | ⟨b,o,h1,h2,h3⟩
 ·exact .inl h
 ·exact .inr ⟨b,o,h1,Nat.lt_of_lt_of_le h2 hb.size,fun i hi=>qKB (h3 i hi) hb h2⟩
theorem Hld.below {w w':World} {a:Option Addr} {hs:List (Int×List Int)} (h:Hld w a hs) (hb:Below w.heap.size w w'):Hld w' a hs:=by
 rcases h with h | ⟨b,o,h1,h2,h3⟩
 ·exact .inl h
 ·exact .inr ⟨b,o,h1,Nat.lt_of_lt_of_le h2 hb.size,fun i hi=>qKB (h3 i hi) hb h2⟩
theorem Plt.at {w:World} {a:Option Addr} {ps:List (List Int)} (h:Plt w a ps) {k:Nat} (hk:k<ps.length):∃ b o x,a=some ⟨b,o,none⟩/\b<w.heap.size/\w.rangeAt b (o+k*64) (x.map (Value.int .u8))/\Hid (x=ps.getD k []):=by
 rcases h with h | ⟨b,o,h1,h2,h3⟩
 ·subst h;simp at hk
 ·exact ⟨b,o,_,h1,h2,h3 k hk,hid rfl⟩
theorem Hld.at {w:World} {a:Option Addr} {hs:List (Int×List Int)} (h:Hld w a hs) {k:Nat} (hk:k<hs.length):∃ b o n x,a=some ⟨b,o,none⟩/\b<w.heap.size/\w.rangeAt b (o+k*65) (.int .i64 n::x.map (Value.int .u8))/\Hid ((n,x)=hs.getD k (0,[])):=by
 rcases h with h | ⟨b,o,h1,h2,h3⟩
 ·subst h;simp at hk
 ·exact ⟨b,o,_,_,h1,h2,h3 k hk,hid rfl⟩
theorem qQs (n:Int) (xs:List Int):∀ v∈Value.int .i64 n::xs.map (Value.int .u8),v.oneCell'=true:=fun v hv=>by
 rcases List.mem_cons.1 hv with rfl | hv
 ·rfl
 ·exact xgE xs v hv
theorem zF4 (w:World) (A:Array Value) (t:TypeId):(w.alloc (.cells A t)).there w.heap.size 0 A.size:=fun j hj=>by
 rw [Nat.zero_add,World.cell?_alloc_at _ _ _ _ rfl,frozen?_alloc_cells];exact ⟨by simp [hj],jWQ _ _ _ (Nat.le_refl _)⟩
theorem Xnw {P:Program} {aC:Array Oper} {aA:List Oper} {op:Oper} {a:Act} {w:World} {Q:Exit->Act->World->Prop} (aD:op.guard=none) (ty:TypeId) (x y:Operand) (ho:op.op=.store ty x y)
  (cs:List Value) (h1:∀ v∈cs,v.oneCell'=true) (hx:a.eval x=.pointer (some ⟨w.heap.size,0,none⟩)) (hy:a.eval y=.agg cs.toArray) (A:Array Value) (t:TypeId) (hA:A.size=cs.length)
  (hi:(P.info? ty).map (·.size)=some cs.length)
  (h:∀ wx,Row wx w.heap.size cs->Below w.heap.size w wx->wx.heap.size=w.heap.size+1->wpList P aC Q aA (a.put op.dst undef) wx):wpList P aC Q (op::aA) a (w.alloc (.cells A t)):=by
 have aB:=zF4 w A t;rw [hA] at aB;have hz:cs.toArray.size=cs.length:=by simp
 refine wpList_store_mid aD ty x y ho w.heap.size 0 _ hx hy (by rw [hz];exact aB) (by rw [hz];exact hi) (all_oneCell_toArray h1) ?_;have hr:=World.rangeAt_setCells_same (w.alloc (.cells A t)) w.heap.size 0 cs aB;refine h _ ⟨by rw [QUl];simp,fun i v hv=>?_,fun i hi=>?_⟩ (Go.below_setCells (Nat.le_refl _) _ _ _ ((Below.refl _ _).alloc (Nat.le_refl _) _)) (by rw [QUl];simp)
 ·have:=hr i v hv
  simpa using this
 ·rw [World.frozen?_setCells,frozen?_alloc_cells];exact jWQ _ _ _ (Nat.le_refl _)
theorem Row.text {P:Program} {w:World} {g:Nat} {cs:List Value} (h:Row w g cs) (xs:List Int) (o n cap:Nat) (hx:xs.length=n) (hc:∀ i,i<n->cs[o+i]?=some (.int .u8 (xs.getD i 0))) (aB e aA:TypeId) (hs:P.underlying aB=some (.slice e)) (he:P.underlying e=some (.int .u8)) (hd:P.underlying aA=some .string) :
  (convert aB aA (.slice (some ⟨g,o,none⟩) n cap)).run P w=.ok (.string (strOfNums xs)) w :=
 run_convert_bytes_arg (P:=P) w aB e hs he g o n cap xs hx (fun i hi=>h.cell _ _ (hc i hi)) aA hd
theorem Dsk.start3 (w:World) (c0 c1:Value) (t0 t1 t2 e e':TypeId):Dsk w (((w.alloc (.cells #[c0,c1] t0)).alloc (.cells #[.slice none 0 0,.slice none 0 0] t1)).alloc (.cells #[.slice none 0 0,.slice none 0 0] t2)) (w.heap.size+1) (w.heap.size+1+1) (w.heap.size+1+1+1) e e' (.slice none 0 0) (.slice none 0 0) [] []:=by
 have hb:Below w.heap.size w (((w.alloc (.cells #[c0,c1] t0)).alloc (.cells #[.slice none 0 0,.slice none 0 0] t1)).alloc (.cells #[.slice none 0 0,.slice none 0 0] t2)):=(((Below.refl _ _).alloc (Nat.le_refl _) _).alloc (by simp) _).alloc (by simp;omega) _;have r1:=(xER (w.alloc (.cells #[c0,c1] t0)) #[.slice none 0 0,.slice none 0 0] t1).alloc (.cells #[.slice none 0 0,.slice none 0 0] t2);have r2:=xER ((w.alloc (.cells #[c0,c1] t0)).alloc (.cells #[.slice none 0 0,.slice none 0 0] t1)) #[.slice none 0 0,.slice none 0 0] t2;simp only [World.size_alloc] at r1 r2;exact ⟨by omega,by omega,by omega,by omega,by omega,by simp,hb,r1.cell 0 _ rfl,r1.cell 1 _ rfl,r1.froz 0 (by simp),r1.froz 1 (by simp),r2.cell 0 _ rfl,r2.cell 1 _ rfl,r2.froz 0 (by simp),r2.froz 1 (by simp),World.ownsRow_nil _ _ _ _,World.ownsRow_nil _ _ _ _,.inl rfl⟩
theorem Dsk.far {W w w1:World} {R D base:Nat} {e e':TypeId} {v v':Value} {ss:List ByteArray} {ws:List (Int×ByteArray)} (h:Dsk W w R D base e e' v v' ss ws) (hg:w.grownBy w1 v.ownBlock) (b i j:Nat) (hb:b<base) (hn:b≠D) (u:Value):(w1.setCell ⟨D,j,none⟩ u).cell? ⟨b,i,none⟩=w.cell? ⟨b,i,none⟩:=by
 have lb:b<w.heap.size:=Nat.lt_of_lt_of_le hb h.sz
 have nb:some b≠v.ownBlock:=fun he=>by have:=(h.own.lt b he.symm).1;omega
 rw [World.cell?_setCell_other (w:=w1) (h:=show (⟨D,j,none⟩:Addr)≠⟨b,i,none⟩ from fun he=>hn (by injection he with h1;exact h1.symm))];exact hg.cell_far ⟨b,i,none⟩ lb nb
def q95 (ps:List (List Int)):List ByteArray:=ps.map strOfNums
def XbJ (hs:List (Int×List Int)):List (Int×ByteArray):=hs.map fun x=>(x.1,strOfNums x.2)
def y2b:Array Value:=#[.int .i64 0]++Array.replicate 64 (.int .u8 0)
theorem vXi (w:World):(zeroValue 101).run Tryz.prog w=.ok (.agg y2b) w:=by kernel_rfl
theorem vnP (ps:List (List Int)) (k:Nat) (h:k<ps.length):q95 (ps.take (k+1))=q95 (ps.take k)++[strOfNums (ps.getD k [])]:=by
 unfold q95;rw [List.take_succ_eq_append_getElem h,List.map_append];simp [List.getD,h]
theorem jwj (hs:List (Int×List Int)) (k:Nat) (h:k<hs.length):XbJ (hs.take (k+1))=XbJ (hs.take k)++[((hs.getD k (0,[])).1,strOfNums (hs.getD k (0,[])).2)]:=by
 unfold XbJ;rw [List.take_succ_eq_append_getElem h,List.map_append];simp [List.getD,h]
end Go.Proofs.YtcdojnnkjeakmaaGreatDoor
