import Derived.Test.YtehbpeinnepdcaaGreatDoorPrG50
set_option maxHeartbeats 16000000
set_option maxRecDepth 8000
set_option linter.unusedVariables false
set_option linter.unusedSimpArgs false
namespace Go.Proofs.YtehbpeinnepdcaaGreatDoor
open Go.RowKit
def QUx (W S L T H F R U O:Int) (rs:List Pr) (b:List Ch):Dd :=
 if (jWr W S L T H F R U O rs && kpJ b)=true then
  if apC rs b=0 then
   if xee (ZZG (apR rs b)) W<=hv S-1 then
    if JFN (jvj b).size W<=hv S-U then
     ⟨0,W,S,L,T,H,F,R,U+JFN (jvj b).size W,O+JFN (jvj b).size W,apR rs b,qWl (2+H*hv S+U) (zhI (jvj b) L (F+U) W.toNat (56-W.toNat))⟩
    else noD 4
   else noD 3
  else noD 2
 else noD 1
theorem yGh (s:ByteArray) (l f:Int) (n m:Nat) (hm:n+m=56) (h1:1<=n) (h2:n<=8) (hl:1<=l/\l<=60000) (hf:1<=f) (hN:f+JFN s.size (n:Int)<=1000000001):((zhI s l f n m).length:Int)=JFN s.size (n:Int):=by
 have e:(56-(n:Int)).toNat=m:=by omega
 unfold JFN at hN ⊢;rw [if_pos (by omega),e] at hN ⊢;rw [yE2 rfl (by omega),xpG]
theorem zpD (l:Nat) (n:Int) (h1:1<=n) (h2:n<=8):0<=JFN l n/\JFN l n<=(l:Int) / 48+1:=by
 unfold JFN;rw [if_pos ⟨h1,h2⟩];unfold QgM
 split
 ·rename_i h;subst h;simp
 ·have hm:48<=(56-n).toNat:=by omega
  have:(l-1) / (56-n).toNat<=l / 48:=Nat.le_trans (Nat.div_le_div_right (by omega)) (Nat.div_le_div_left hm (by omega));obtain ⟨z,hz⟩:∃ z,z=(l-1) / (56-n).toNat:=⟨_,rfl⟩;rw [<-hz] at this ⊢;omega
theorem qTq {W S L T H F R U O:Int} {rs:List Pr} (h:jWr W S L T H F R U O rs=true):(1<=W/\W<=8)/\(8<=S/\S<=200)/\(1<=L/\L<=60000)/\(0<=T/\T<=1000000000)/\(0<=H/\H<=1)/\(1<=F/\F<=999999000)/\(0<=U/\U<=hv S)/\(0<=O/\O<=U)/\z0q rs=true:=by
 unfold jWr yWg at h;simp only [Bool.and_eq_true,decide_eq_true_eq] at h;obtain ⟨⟨⟨⟨⟨⟨⟨h1,h2⟩,h3⟩,⟨⟨h4,_⟩,h5⟩,h6⟩,h7⟩,h8⟩,h9⟩,_⟩:=h;exact ⟨h1,h2,h3,h4,h5,h6,h7,h8,h9⟩
theorem JrM (rs:List Pr) (b:List Ch):(apR rs b).length<=100:=by
 unfold apR
 by_cases hc:apC rs b=0
 ·rw [if_pos hc]
  unfold apC at hc
  by_cases h1:(z0q rs && kpJ b)=true
  ·rw [if_pos h1] at hc
   by_cases h2:(apU rs b).length<=100
   ·exact h2
   ·rw [if_neg h2] at hc;omega
  ·rw [if_neg h1] at hc;omega
 ·rw [if_neg hc];simp
theorem zcv (c:Ch):∀ (rs:List Pr) (k:Nat),k=rs.length->∀ x∈(chW c rs).2,x∈rs\/x=(c.1,c.2.1)
 | rs,0,hk=>by rw [List.eq_nil_of_length_eq_zero hk.symm];simp [chW]
 | rs,k+1,hk=>by
  obtain ⟨p,bs,rfl⟩:∃ b bs,rs=bs++[b]:=by
   rcases List.eq_nil_or_concat rs with h | ⟨l,a,h⟩
   ·subst h;simp at hk
   ·exact ⟨a,l,by simpa using h⟩
  have ih:=zcv c bs k (by simp at hk;omega);rw [Jii];generalize chW c bs=st at ih ⊢;intro x hx;unfold xIY at hx
  have aA:x∈st.2\/x=(c.1,c.2.1)\/x=p:=by
   split at hx
   ·split at hx
    ·rcases List.mem_append.1 hx with h | h
     ·exact .inl h
     ·exact .inr (.inl (List.mem_singleton.1 h))
    ·exact .inl hx
   ·split at hx
    ·rcases List.mem_append.1 hx with h | h
     ·rcases List.mem_append.1 h with h | h
      ·exact .inl h
      ·exact .inr (.inl (List.mem_singleton.1 h))
     ·exact .inr (.inr (List.mem_singleton.1 h))
    ·rcases List.mem_append.1 hx with h | h
     ·exact .inl h
     ·exact .inr (.inr (List.mem_singleton.1 h))
  rcases aA with h | h | h
  ·rcases ih x h with h | h
   ·exact .inl (by simp [h])
   ·exact .inr h
  ·exact .inr h
  ·exact .inl (by simp [h])
theorem jMq (rs:List Pr) (P:Pr->Prop) (h:∀ x∈rs,P x):∀ (b:List Ch),(∀ c∈b,P (c.1,c.2.1))->∀ x∈apU rs b,P x:=by
 intro b;obtain ⟨k,hk⟩:∃ k,k=b.length:=⟨_,rfl⟩
 induction k generalizing b with
 | zero=>intro _;rw [List.eq_nil_of_length_eq_zero hk.symm];exact h
 | succ k ih =>
  intro hb
  obtain ⟨c,bs,rfl⟩:∃ c bs,b=bs++[c]:=by
   rcases List.eq_nil_or_concat b with h | ⟨l,a,h⟩
   ·subst h;simp at hk
   ·exact ⟨a,l,by simpa using h⟩
  have i:=ih bs (by simp at hk;omega) (fun c hc=>hb c (by simp [hc]));rw [JDX];intro x hx;unfold chF at hx
  split at hx
  ·rcases zcv c _ _ rfl x hx with h1 | h1
   ·exact i x h1
   ·rw [h1];exact hb c (by simp)
  ·rw [List.mem_append] at hx
   rcases hx with hx | hx
   ·rcases zcv c _ _ rfl x hx with h1 | h1
    ·exact i x h1
    ·rw [h1];exact hb c (by simp)
   ·simp at hx;rw [hx];exact hb c (by simp)
theorem X7J (rs:List Pr) (b:List Ch) (P:Pr->Prop) (h:∀ x∈rs,P x) (hb:∀ c∈b,P (c.1,c.2.1)):∀ x∈apR rs b,P x:=by
 unfold apR
 split
 ·exact jMq rs P h b hb
 ·simp
theorem ZNi (W S L T H F R U O:Int) (rs:List Pr) (b:List Ch):(QUx W S L T H F R U O rs b).rs.length<=1048576/\(QUx W S L T H F R U O rs b).ops.length<=1000:=by
 unfold QUx
 split
 ·rename_i h0
  rw [Bool.and_eq_true] at h0;obtain ⟨h1,h2,h3,h4,h5,h6,h7,h8,h9⟩:=qTq h0.1;have hq:=QU8 h2
  split
  ·split
   ·split
    ·rename_i hp
     refine ⟨by have:=JrM rs b;simp;omega,?_⟩;simp only [xp9];have:=zDE (jvj b) L (F+U) W.toNat (56-W.toNat) (by omega) (by omega) (by omega);rw [show ((W.toNat:Nat):Int)=W by omega] at this;omega
    ·simp [noD]
   ·simp [noD]
  ·simp [noD]
 ·simp [noD]
def jej (W S L T H F R U O:Int) (rs:List Pr):Dd:=if jWr W S L T H F R U O rs=true then ⟨0,W,S,L,T,H,F,R,U,0,rs,[(true,0,ByteArray.empty)]⟩ else noD 1
theorem vC8 (W S L T H F R U O:Int) (a:Option Addr) (rs:List Pr) (c:Nat) (w:World) (h:Prs w a rs) (hl:rs.length<=1048576) (hs:∀ x∈rs,x.1.size<=1048576/\x.2.size<=1048576) :
  Calls Tryz.prog 99 #[QPD W S L T H F R U O a rs.length c] w fun x w'=>vx0 w w' x (jej W S L T H F R U O rs):=by
 have aH:=hid (fun w' h'=>ZHK W S L T H F R U O a rs c w' h' hl hs)
 have cH:∀ o1 o2,Below w.heap.size w ((w.alloc o1).alloc o2):=fun o1 o2=>((Below.refl _ _).alloc (Nat.le_refl _) _).alloc (by simp) _
 unfold QPD at aH ⊢;unfold jej
 cases hok:jWr W S L T H F R U O rs with
 | false =>
  rw [hok] at aH;simp only [Bool.false_eq_true,if_false];go_enter Tryz.func99,Tryz.ntmps99;go_wp2_with (go_at_call 18;refine (aH.out _ (h.below (cH _ _))).mono ?_;rintro x w2 ⟨rfl,aA⟩;have cF:=hid ((cH _ _).trans (aA.mono (by simp<;>omega)));have cI:w.heap.size+1<w2.heap.size:=Nat.lt_of_lt_of_le (by simp) aA.size;have cJ:w.heap.size<w2.heap.size:=Nat.lt_of_succ_lt cI;have aJ:w2.cell? ⟨w.heap.size+1,0,none⟩=some (.int .i64 0):=(aA.cell (p:=⟨w.heap.size+1,0,none⟩) (by simp<;>omega)).trans (by go_simp);have aT:w2.frozen? ⟨w.heap.size+1,0,none⟩=false:=(aA.frozen (p:=⟨w.heap.size+1,0,none⟩) (by simp<;>omega)).trans (by go_simp);have aK:w2.cell? ⟨w.heap.size+1,1,none⟩=some (.int .i64 0):=(aA.cell (p:=⟨w.heap.size+1,1,none⟩) (by simp<;>omega)).trans (by go_simp);have aU:w2.frozen? ⟨w.heap.size+1,1,none⟩=false:=(aA.frozen (p:=⟨w.heap.size+1,1,none⟩) (by simp<;>omega)).trans (by go_simp);have aL:w2.cell? ⟨w.heap.size+1,2,none⟩=some (.int .i64 0):=(aA.cell (p:=⟨w.heap.size+1,2,none⟩) (by simp<;>omega)).trans (by go_simp);have aV:w2.frozen? ⟨w.heap.size+1,2,none⟩=false:=(aA.frozen (p:=⟨w.heap.size+1,2,none⟩) (by simp<;>omega)).trans (by go_simp);have aM:w2.cell? ⟨w.heap.size+1,3,none⟩=some (.int .i64 0):=(aA.cell (p:=⟨w.heap.size+1,3,none⟩) (by simp<;>omega)).trans (by go_simp);have aW:w2.frozen? ⟨w.heap.size+1,3,none⟩=false:=(aA.frozen (p:=⟨w.heap.size+1,3,none⟩) (by simp<;>omega)).trans (by go_simp);have aN:w2.cell? ⟨w.heap.size+1,4,none⟩=some (.int .i64 0):=(aA.cell (p:=⟨w.heap.size+1,4,none⟩) (by simp<;>omega)).trans (by go_simp);have aX:w2.frozen? ⟨w.heap.size+1,4,none⟩=false:=(aA.frozen (p:=⟨w.heap.size+1,4,none⟩) (by simp<;>omega)).trans (by go_simp);have aO:w2.cell? ⟨w.heap.size+1,5,none⟩=some (.int .i64 0):=(aA.cell (p:=⟨w.heap.size+1,5,none⟩) (by simp<;>omega)).trans (by go_simp);have aY:w2.frozen? ⟨w.heap.size+1,5,none⟩=false:=(aA.frozen (p:=⟨w.heap.size+1,5,none⟩) (by simp<;>omega)).trans (by go_simp);have aP:w2.cell? ⟨w.heap.size+1,6,none⟩=some (.int .i64 0):=(aA.cell (p:=⟨w.heap.size+1,6,none⟩) (by simp<;>omega)).trans (by go_simp);have aZ:w2.frozen? ⟨w.heap.size+1,6,none⟩=false:=(aA.frozen (p:=⟨w.heap.size+1,6,none⟩) (by simp<;>omega)).trans (by go_simp);have aQ:w2.cell? ⟨w.heap.size+1,7,none⟩=some (.int .i64 0):=(aA.cell (p:=⟨w.heap.size+1,7,none⟩) (by simp<;>omega)).trans (by go_simp);have bC:w2.frozen? ⟨w.heap.size+1,7,none⟩=false:=(aA.frozen (p:=⟨w.heap.size+1,7,none⟩) (by simp<;>omega)).trans (by go_simp);have aR:w2.cell? ⟨w.heap.size+1,8,none⟩=some (.int .i64 0):=(aA.cell (p:=⟨w.heap.size+1,8,none⟩) (by simp<;>omega)).trans (by go_simp);have bG:w2.frozen? ⟨w.heap.size+1,8,none⟩=false:=(aA.frozen (p:=⟨w.heap.size+1,8,none⟩) (by simp<;>omega)).trans (by go_simp);have aS:w2.cell? ⟨w.heap.size+1,9,none⟩=some (.int .i64 0):=(aA.cell (p:=⟨w.heap.size+1,9,none⟩) (by simp<;>omega)).trans (by go_simp);have bH:w2.frozen? ⟨w.heap.size+1,9,none⟩=false:=(aA.frozen (p:=⟨w.heap.size+1,9,none⟩) (by simp<;>omega)).trans (by go_simp);have aC:w2.cell? ⟨w.heap.size+1,10,none⟩=some (.slice none 0 0):=(aA.cell (p:=⟨w.heap.size+1,10,none⟩) (by simp<;>omega)).trans (by go_simp);have aF:w2.frozen? ⟨w.heap.size+1,10,none⟩=false:=(aA.frozen (p:=⟨w.heap.size+1,10,none⟩) (by simp<;>omega)).trans (by go_simp);have aD:w2.cell? ⟨w.heap.size+1,11,none⟩=some (.slice none 0 0):=(aA.cell (p:=⟨w.heap.size+1,11,none⟩) (by simp<;>omega)).trans (by go_simp);have aG:w2.frozen? ⟨w.heap.size+1,11,none⟩=false:=(aA.frozen (p:=⟨w.heap.size+1,11,none⟩) (by simp<;>omega)).trans (by go_simp);have cN:w2.cell? ⟨w.heap.size,0,none⟩=some (.int .i64 W):=(aA.cell (p:=⟨w.heap.size,0,none⟩) (by simp<;>omega)).trans (by go_simp);have bI:w2.frozen? ⟨w.heap.size,0,none⟩=false:=(aA.frozen (p:=⟨w.heap.size,0,none⟩) (by simp<;>omega)).trans (by go_simp);have cO:w2.cell? ⟨w.heap.size,1,none⟩=some (.int .i64 S):=(aA.cell (p:=⟨w.heap.size,1,none⟩) (by simp<;>omega)).trans (by go_simp);have bJ:w2.frozen? ⟨w.heap.size,1,none⟩=false:=(aA.frozen (p:=⟨w.heap.size,1,none⟩) (by simp<;>omega)).trans (by go_simp);have cP:w2.cell? ⟨w.heap.size,2,none⟩=some (.int .i64 L):=(aA.cell (p:=⟨w.heap.size,2,none⟩) (by simp<;>omega)).trans (by go_simp);have bQ:w2.frozen? ⟨w.heap.size,2,none⟩=false:=(aA.frozen (p:=⟨w.heap.size,2,none⟩) (by simp<;>omega)).trans (by go_simp);have cQ:w2.cell? ⟨w.heap.size,3,none⟩=some (.int .i64 T):=(aA.cell (p:=⟨w.heap.size,3,none⟩) (by simp<;>omega)).trans (by go_simp);have bU:w2.frozen? ⟨w.heap.size,3,none⟩=false:=(aA.frozen (p:=⟨w.heap.size,3,none⟩) (by simp<;>omega)).trans (by go_simp);have cS:w2.cell? ⟨w.heap.size,4,none⟩=some (.int .i64 H):=(aA.cell (p:=⟨w.heap.size,4,none⟩) (by simp<;>omega)).trans (by go_simp);have bV:w2.frozen? ⟨w.heap.size,4,none⟩=false:=(aA.frozen (p:=⟨w.heap.size,4,none⟩) (by simp<;>omega)).trans (by go_simp);have cT:w2.cell? ⟨w.heap.size,5,none⟩=some (.int .i64 F):=(aA.cell (p:=⟨w.heap.size,5,none⟩) (by simp<;>omega)).trans (by go_simp);have bW:w2.frozen? ⟨w.heap.size,5,none⟩=false:=(aA.frozen (p:=⟨w.heap.size,5,none⟩) (by simp<;>omega)).trans (by go_simp);have cU:w2.cell? ⟨w.heap.size,6,none⟩=some (.int .i64 R):=(aA.cell (p:=⟨w.heap.size,6,none⟩) (by simp<;>omega)).trans (by go_simp);have bY:w2.frozen? ⟨w.heap.size,6,none⟩=false:=(aA.frozen (p:=⟨w.heap.size,6,none⟩) (by simp<;>omega)).trans (by go_simp);have cV:w2.cell? ⟨w.heap.size,7,none⟩=some (.int .i64 U):=(aA.cell (p:=⟨w.heap.size,7,none⟩) (by simp<;>omega)).trans (by go_simp);have bZ:w2.frozen? ⟨w.heap.size,7,none⟩=false:=(aA.frozen (p:=⟨w.heap.size,7,none⟩) (by simp<;>omega)).trans (by go_simp);have cW:w2.cell? ⟨w.heap.size,8,none⟩=some (.int .i64 O):=(aA.cell (p:=⟨w.heap.size,8,none⟩) (by simp<;>omega)).trans (by go_simp);have b7:w2.frozen? ⟨w.heap.size,8,none⟩=false:=(aA.frozen (p:=⟨w.heap.size,8,none⟩) (by simp<;>omega)).trans (by go_simp);have cY:w2.cell? ⟨w.heap.size,9,none⟩=some (.slice a rs.length c):=(aA.cell (p:=⟨w.heap.size,9,none⟩) (by simp<;>omega)).trans (by go_simp);have b8:w2.frozen? ⟨w.heap.size,9,none⟩=false:=(aA.frozen (p:=⟨w.heap.size,9,none⟩) (by simp<;>omega)).trans (by go_simp);clear aA)
  refine bodyPost_ret (v:=dnV (noD 1) none 0 none 0) (by simp [results,Tryz.results99,go_sem,dnV,noD,aJ,aK,aL,aM,aN,aO,aP,aQ,aR,aS,aC,aD]) rfl (qJx rfl ?_)
  iterate 12 (refine Below.setCell ?_ (by show w.heap.size<=w.heap.size+1;omega) _)
  exact cF.out
 | true =>
  rw [hok] at aH;simp only [if_true];go_enter Tryz.func99,Tryz.ntmps99
  go_wp2_with (first | (go_at_call 18;refine (aH.out _ (h.below (cH _ _))).mono ?_;rintro x w2 ⟨rfl,aA⟩;have cF:=hid ((cH _ _).trans (aA.mono (by simp<;>omega)));have cI:w.heap.size+1<w2.heap.size:=Nat.lt_of_lt_of_le (by simp) aA.size;have cJ:w.heap.size<w2.heap.size:=Nat.lt_of_succ_lt cI;have aJ:w2.cell? ⟨w.heap.size+1,0,none⟩=some (.int .i64 0):=(aA.cell (p:=⟨w.heap.size+1,0,none⟩) (by simp<;>omega)).trans (by go_simp);have aT:w2.frozen? ⟨w.heap.size+1,0,none⟩=false:=(aA.frozen (p:=⟨w.heap.size+1,0,none⟩) (by simp<;>omega)).trans (by go_simp);have aK:w2.cell? ⟨w.heap.size+1,1,none⟩=some (.int .i64 0):=(aA.cell (p:=⟨w.heap.size+1,1,none⟩) (by simp<;>omega)).trans (by go_simp);have aU:w2.frozen? ⟨w.heap.size+1,1,none⟩=false:=(aA.frozen (p:=⟨w.heap.size+1,1,none⟩) (by simp<;>omega)).trans (by go_simp);have aL:w2.cell? ⟨w.heap.size+1,2,none⟩=some (.int .i64 0):=(aA.cell (p:=⟨w.heap.size+1,2,none⟩) (by simp<;>omega)).trans (by go_simp);have aV:w2.frozen? ⟨w.heap.size+1,2,none⟩=false:=(aA.frozen (p:=⟨w.heap.size+1,2,none⟩) (by simp<;>omega)).trans (by go_simp);have aM:w2.cell? ⟨w.heap.size+1,3,none⟩=some (.int .i64 0):=(aA.cell (p:=⟨w.heap.size+1,3,none⟩) (by simp<;>omega)).trans (by go_simp);have aW:w2.frozen? ⟨w.heap.size+1,3,none⟩=false:=(aA.frozen (p:=⟨w.heap.size+1,3,none⟩) (by simp<;>omega)).trans (by go_simp);have aN:w2.cell? ⟨w.heap.size+1,4,none⟩=some (.int .i64 0):=(aA.cell (p:=⟨w.heap.size+1,4,none⟩) (by simp<;>omega)).trans (by go_simp);have aX:w2.frozen? ⟨w.heap.size+1,4,none⟩=false:=(aA.frozen (p:=⟨w.heap.size+1,4,none⟩) (by simp<;>omega)).trans (by go_simp);have aO:w2.cell? ⟨w.heap.size+1,5,none⟩=some (.int .i64 0):=(aA.cell (p:=⟨w.heap.size+1,5,none⟩) (by simp<;>omega)).trans (by go_simp);have aY:w2.frozen? ⟨w.heap.size+1,5,none⟩=false:=(aA.frozen (p:=⟨w.heap.size+1,5,none⟩) (by simp<;>omega)).trans (by go_simp);have aP:w2.cell? ⟨w.heap.size+1,6,none⟩=some (.int .i64 0):=(aA.cell (p:=⟨w.heap.size+1,6,none⟩) (by simp<;>omega)).trans (by go_simp);have aZ:w2.frozen? ⟨w.heap.size+1,6,none⟩=false:=(aA.frozen (p:=⟨w.heap.size+1,6,none⟩) (by simp<;>omega)).trans (by go_simp);have aQ:w2.cell? ⟨w.heap.size+1,7,none⟩=some (.int .i64 0):=(aA.cell (p:=⟨w.heap.size+1,7,none⟩) (by simp<;>omega)).trans (by go_simp);have bC:w2.frozen? ⟨w.heap.size+1,7,none⟩=false:=(aA.frozen (p:=⟨w.heap.size+1,7,none⟩) (by simp<;>omega)).trans (by go_simp);have aR:w2.cell? ⟨w.heap.size+1,8,none⟩=some (.int .i64 0):=(aA.cell (p:=⟨w.heap.size+1,8,none⟩) (by simp<;>omega)).trans (by go_simp);have bG:w2.frozen? ⟨w.heap.size+1,8,none⟩=false:=(aA.frozen (p:=⟨w.heap.size+1,8,none⟩) (by simp<;>omega)).trans (by go_simp);have aS:w2.cell? ⟨w.heap.size+1,9,none⟩=some (.int .i64 0):=(aA.cell (p:=⟨w.heap.size+1,9,none⟩) (by simp<;>omega)).trans (by go_simp);have bH:w2.frozen? ⟨w.heap.size+1,9,none⟩=false:=(aA.frozen (p:=⟨w.heap.size+1,9,none⟩) (by simp<;>omega)).trans (by go_simp);have aC:w2.cell? ⟨w.heap.size+1,10,none⟩=some (.slice none 0 0):=(aA.cell (p:=⟨w.heap.size+1,10,none⟩) (by simp<;>omega)).trans (by go_simp);have aF:w2.frozen? ⟨w.heap.size+1,10,none⟩=false:=(aA.frozen (p:=⟨w.heap.size+1,10,none⟩) (by simp<;>omega)).trans (by go_simp);have aD:w2.cell? ⟨w.heap.size+1,11,none⟩=some (.slice none 0 0):=(aA.cell (p:=⟨w.heap.size+1,11,none⟩) (by simp<;>omega)).trans (by go_simp);have aG:w2.frozen? ⟨w.heap.size+1,11,none⟩=false:=(aA.frozen (p:=⟨w.heap.size+1,11,none⟩) (by simp<;>omega)).trans (by go_simp);have cN:w2.cell? ⟨w.heap.size,0,none⟩=some (.int .i64 W):=(aA.cell (p:=⟨w.heap.size,0,none⟩) (by simp<;>omega)).trans (by go_simp);have bI:w2.frozen? ⟨w.heap.size,0,none⟩=false:=(aA.frozen (p:=⟨w.heap.size,0,none⟩) (by simp<;>omega)).trans (by go_simp);have cO:w2.cell? ⟨w.heap.size,1,none⟩=some (.int .i64 S):=(aA.cell (p:=⟨w.heap.size,1,none⟩) (by simp<;>omega)).trans (by go_simp);have bJ:w2.frozen? ⟨w.heap.size,1,none⟩=false:=(aA.frozen (p:=⟨w.heap.size,1,none⟩) (by simp<;>omega)).trans (by go_simp);have cP:w2.cell? ⟨w.heap.size,2,none⟩=some (.int .i64 L):=(aA.cell (p:=⟨w.heap.size,2,none⟩) (by simp<;>omega)).trans (by go_simp);have bQ:w2.frozen? ⟨w.heap.size,2,none⟩=false:=(aA.frozen (p:=⟨w.heap.size,2,none⟩) (by simp<;>omega)).trans (by go_simp);have cQ:w2.cell? ⟨w.heap.size,3,none⟩=some (.int .i64 T):=(aA.cell (p:=⟨w.heap.size,3,none⟩) (by simp<;>omega)).trans (by go_simp);have bU:w2.frozen? ⟨w.heap.size,3,none⟩=false:=(aA.frozen (p:=⟨w.heap.size,3,none⟩) (by simp<;>omega)).trans (by go_simp);have cS:w2.cell? ⟨w.heap.size,4,none⟩=some (.int .i64 H):=(aA.cell (p:=⟨w.heap.size,4,none⟩) (by simp<;>omega)).trans (by go_simp);have bV:w2.frozen? ⟨w.heap.size,4,none⟩=false:=(aA.frozen (p:=⟨w.heap.size,4,none⟩) (by simp<;>omega)).trans (by go_simp);have cT:w2.cell? ⟨w.heap.size,5,none⟩=some (.int .i64 F):=(aA.cell (p:=⟨w.heap.size,5,none⟩) (by simp<;>omega)).trans (by go_simp);have bW:w2.frozen? ⟨w.heap.size,5,none⟩=false:=(aA.frozen (p:=⟨w.heap.size,5,none⟩) (by simp<;>omega)).trans (by go_simp);have cU:w2.cell? ⟨w.heap.size,6,none⟩=some (.int .i64 R):=(aA.cell (p:=⟨w.heap.size,6,none⟩) (by simp<;>omega)).trans (by go_simp);have bY:w2.frozen? ⟨w.heap.size,6,none⟩=false:=(aA.frozen (p:=⟨w.heap.size,6,none⟩) (by simp<;>omega)).trans (by go_simp);have cV:w2.cell? ⟨w.heap.size,7,none⟩=some (.int .i64 U):=(aA.cell (p:=⟨w.heap.size,7,none⟩) (by simp<;>omega)).trans (by go_simp);have bZ:w2.frozen? ⟨w.heap.size,7,none⟩=false:=(aA.frozen (p:=⟨w.heap.size,7,none⟩) (by simp<;>omega)).trans (by go_simp);have cW:w2.cell? ⟨w.heap.size,8,none⟩=some (.int .i64 O):=(aA.cell (p:=⟨w.heap.size,8,none⟩) (by simp<;>omega)).trans (by go_simp);have b7:w2.frozen? ⟨w.heap.size,8,none⟩=false:=(aA.frozen (p:=⟨w.heap.size,8,none⟩) (by simp<;>omega)).trans (by go_simp);have cY:w2.cell? ⟨w.heap.size,9,none⟩=some (.slice a rs.length c):=(aA.cell (p:=⟨w.heap.size,9,none⟩) (by simp<;>omega)).trans (by go_simp);have b8:w2.frozen? ⟨w.heap.size,9,none⟩=false:=(aA.frozen (p:=⟨w.heap.size,9,none⟩) (by simp<;>omega)).trans (by go_simp);clear aA) | (go_at_call 69;have aE:Below w.heap.size w (w2.alloc (.cells #[.int .i64 W,.int .i64 S,.int .i64 L,.int .i64 T,.int .i64 H,.int .i64 F,.int .i64 R,.int .i64 U,.int .i64 O,.slice a rs.length c] 33)):=cF.out.alloc cF.out.size _;refine (Znr a rs c _ (h.below aE) hl).mono ?_;rintro x w3 ⟨a3,c3,rfl,eY,eB,dZ,aB⟩;have dU:=hid (aE.trans (aB.mono aE.size));have dY:=hid eB;have aI:∀ g,blk a3 rs.length=some g->w2.heap.size<g:=fun g hg=>Nat.lt_of_lt_of_le (by simp) (dZ g hg);have dV:=hid aI;have fA:w2.heap.size<w3.heap.size:=Nat.lt_of_lt_of_le (by simp) aB.size;have cK:w.heap.size+1<w3.heap.size:=Nat.lt_trans cI fA;have cZ:w3.cell? ⟨w.heap.size+1,0,none⟩=some (.int .i64 0):=(aB.cell (p:=⟨w.heap.size+1,0,none⟩) (by simp<;>omega)).trans (by go_simp);have eN:w3.frozen? ⟨w.heap.size+1,0,none⟩=false:=(aB.frozen (p:=⟨w.heap.size+1,0,none⟩) (by simp<;>omega)).trans (by go_simp);have dE:w3.cell? ⟨w.heap.size+1,1,none⟩=some (.int .i64 0):=(aB.cell (p:=⟨w.heap.size+1,1,none⟩) (by simp<;>omega)).trans (by go_simp);have eO:w3.frozen? ⟨w.heap.size+1,1,none⟩=false:=(aB.frozen (p:=⟨w.heap.size+1,1,none⟩) (by simp<;>omega)).trans (by go_simp);have dH:w3.cell? ⟨w.heap.size+1,2,none⟩=some (.int .i64 0):=(aB.cell (p:=⟨w.heap.size+1,2,none⟩) (by simp<;>omega)).trans (by go_simp);have eP:w3.frozen? ⟨w.heap.size+1,2,none⟩=false:=(aB.frozen (p:=⟨w.heap.size+1,2,none⟩) (by simp<;>omega)).trans (by go_simp);have dI:w3.cell? ⟨w.heap.size+1,3,none⟩=some (.int .i64 0):=(aB.cell (p:=⟨w.heap.size+1,3,none⟩) (by simp<;>omega)).trans (by go_simp);have eQ:w3.frozen? ⟨w.heap.size+1,3,none⟩=false:=(aB.frozen (p:=⟨w.heap.size+1,3,none⟩) (by simp<;>omega)).trans (by go_simp);have dJ:w3.cell? ⟨w.heap.size+1,4,none⟩=some (.int .i64 0):=(aB.cell (p:=⟨w.heap.size+1,4,none⟩) (by simp<;>omega)).trans (by go_simp);have eR:w3.frozen? ⟨w.heap.size+1,4,none⟩=false:=(aB.frozen (p:=⟨w.heap.size+1,4,none⟩) (by simp<;>omega)).trans (by go_simp);have dK:w3.cell? ⟨w.heap.size+1,5,none⟩=some (.int .i64 0):=(aB.cell (p:=⟨w.heap.size+1,5,none⟩) (by simp<;>omega)).trans (by go_simp);have eS:w3.frozen? ⟨w.heap.size+1,5,none⟩=false:=(aB.frozen (p:=⟨w.heap.size+1,5,none⟩) (by simp<;>omega)).trans (by go_simp);have dL:w3.cell? ⟨w.heap.size+1,6,none⟩=some (.int .i64 0):=(aB.cell (p:=⟨w.heap.size+1,6,none⟩) (by simp<;>omega)).trans (by go_simp);have eT:w3.frozen? ⟨w.heap.size+1,6,none⟩=false:=(aB.frozen (p:=⟨w.heap.size+1,6,none⟩) (by simp<;>omega)).trans (by go_simp);have dM:w3.cell? ⟨w.heap.size+1,7,none⟩=some (.int .i64 0):=(aB.cell (p:=⟨w.heap.size+1,7,none⟩) (by simp<;>omega)).trans (by go_simp);have eU:w3.frozen? ⟨w.heap.size+1,7,none⟩=false:=(aB.frozen (p:=⟨w.heap.size+1,7,none⟩) (by simp<;>omega)).trans (by go_simp);have dN:w3.cell? ⟨w.heap.size+1,8,none⟩=some (.int .i64 0):=(aB.cell (p:=⟨w.heap.size+1,8,none⟩) (by simp<;>omega)).trans (by go_simp);have eV:w3.frozen? ⟨w.heap.size+1,8,none⟩=false:=(aB.frozen (p:=⟨w.heap.size+1,8,none⟩) (by simp<;>omega)).trans (by go_simp);have dO:w3.cell? ⟨w.heap.size+1,9,none⟩=some (.int .i64 0):=(aB.cell (p:=⟨w.heap.size+1,9,none⟩) (by simp<;>omega)).trans (by go_simp);have eW:w3.frozen? ⟨w.heap.size+1,9,none⟩=false:=(aB.frozen (p:=⟨w.heap.size+1,9,none⟩) (by simp<;>omega)).trans (by go_simp);have cC:w3.cell? ⟨w.heap.size+1,10,none⟩=some (.slice none 0 0):=(aB.cell (p:=⟨w.heap.size+1,10,none⟩) (by simp<;>omega)).trans (by go_simp);have dQ:w3.frozen? ⟨w.heap.size+1,10,none⟩=false:=(aB.frozen (p:=⟨w.heap.size+1,10,none⟩) (by simp<;>omega)).trans (by go_simp);have cE:w3.cell? ⟨w.heap.size+1,11,none⟩=some (.slice none 0 0):=(aB.cell (p:=⟨w.heap.size+1,11,none⟩) (by simp<;>omega)).trans (by go_simp);have dR:w3.frozen? ⟨w.heap.size+1,11,none⟩=false:=(aB.frozen (p:=⟨w.heap.size+1,11,none⟩) (by simp<;>omega)).trans (by go_simp);have fC:w3.cell? ⟨w2.heap.size,0,none⟩=some (.int .i64 W):=(aB.cell (p:=⟨w2.heap.size,0,none⟩) (by simp<;>omega)).trans (by go_simp);have eC:w3.frozen? ⟨w2.heap.size,0,none⟩=false:=(aB.frozen (p:=⟨w2.heap.size,0,none⟩) (by simp<;>omega)).trans (by go_simp);have fE:w3.cell? ⟨w2.heap.size,1,none⟩=some (.int .i64 S):=(aB.cell (p:=⟨w2.heap.size,1,none⟩) (by simp<;>omega)).trans (by go_simp);have eD:w3.frozen? ⟨w2.heap.size,1,none⟩=false:=(aB.frozen (p:=⟨w2.heap.size,1,none⟩) (by simp<;>omega)).trans (by go_simp);have fF:w3.cell? ⟨w2.heap.size,2,none⟩=some (.int .i64 L):=(aB.cell (p:=⟨w2.heap.size,2,none⟩) (by simp<;>omega)).trans (by go_simp);have eF:w3.frozen? ⟨w2.heap.size,2,none⟩=false:=(aB.frozen (p:=⟨w2.heap.size,2,none⟩) (by simp<;>omega)).trans (by go_simp);have fG:w3.cell? ⟨w2.heap.size,3,none⟩=some (.int .i64 T):=(aB.cell (p:=⟨w2.heap.size,3,none⟩) (by simp<;>omega)).trans (by go_simp);have eG:w3.frozen? ⟨w2.heap.size,3,none⟩=false:=(aB.frozen (p:=⟨w2.heap.size,3,none⟩) (by simp<;>omega)).trans (by go_simp);have fH:w3.cell? ⟨w2.heap.size,4,none⟩=some (.int .i64 H):=(aB.cell (p:=⟨w2.heap.size,4,none⟩) (by simp<;>omega)).trans (by go_simp);have eH:w3.frozen? ⟨w2.heap.size,4,none⟩=false:=(aB.frozen (p:=⟨w2.heap.size,4,none⟩) (by simp<;>omega)).trans (by go_simp);have fI:w3.cell? ⟨w2.heap.size,5,none⟩=some (.int .i64 F):=(aB.cell (p:=⟨w2.heap.size,5,none⟩) (by simp<;>omega)).trans (by go_simp);have eI:w3.frozen? ⟨w2.heap.size,5,none⟩=false:=(aB.frozen (p:=⟨w2.heap.size,5,none⟩) (by simp<;>omega)).trans (by go_simp);have fJ:w3.cell? ⟨w2.heap.size,6,none⟩=some (.int .i64 R):=(aB.cell (p:=⟨w2.heap.size,6,none⟩) (by simp<;>omega)).trans (by go_simp);have eJ:w3.frozen? ⟨w2.heap.size,6,none⟩=false:=(aB.frozen (p:=⟨w2.heap.size,6,none⟩) (by simp<;>omega)).trans (by go_simp);have fO:w3.cell? ⟨w2.heap.size,7,none⟩=some (.int .i64 U):=(aB.cell (p:=⟨w2.heap.size,7,none⟩) (by simp<;>omega)).trans (by go_simp);have eK:w3.frozen? ⟨w2.heap.size,7,none⟩=false:=(aB.frozen (p:=⟨w2.heap.size,7,none⟩) (by simp<;>omega)).trans (by go_simp);have fQ:w3.cell? ⟨w2.heap.size,8,none⟩=some (.int .i64 O):=(aB.cell (p:=⟨w2.heap.size,8,none⟩) (by simp<;>omega)).trans (by go_simp);have eL:w3.frozen? ⟨w2.heap.size,8,none⟩=false:=(aB.frozen (p:=⟨w2.heap.size,8,none⟩) (by simp<;>omega)).trans (by go_simp);have fS:w3.cell? ⟨w2.heap.size,9,none⟩=some (.slice a rs.length c):=(aB.cell (p:=⟨w2.heap.size,9,none⟩) (by simp<;>omega)).trans (by go_simp);have eM:w3.frozen? ⟨w2.heap.size,9,none⟩=false:=(aB.frozen (p:=⟨w2.heap.size,9,none⟩) (by simp<;>omega)).trans (by go_simp);clear aB eB dZ aI))
  have eZ:∀ g,a3=some ⟨g,0,none⟩->qJS rs≠[]->w2.heap.size<g:=fun g hg cM=>dV.out g (by subst hg;exact qdd _ _ _ (Xnn cM))
  have cL:=dY.out.lt rs.length x1g;have fB:=dU.out.size
  have eX:XKU a3 rs.length (some ⟨w3.heap.size,0,none⟩) 1:=by
   cases hb:blk a3 rs.length with
   | none=>exact .inl hb
   | some g =>
    have:=cL g hb;refine .inr (.inr fun e=>?_);rw [hb,qdd _ _ _ (by omega)] at e
    cases e
    omega
  refine bodyPost_ret (v:=dnV ⟨0,W,S,L,T,H,F,R,U,0,rs,[(true,0,ByteArray.empty)]⟩ a3 c3 (some ⟨w3.heap.size,0,none⟩) 1) (by simp [results,Tryz.results99,go_sem,dnV,cK,cZ,dE,dH,dI,dJ,dK,dL,dM,dN,dO,cC,cE]) rfl ⟨a3,c3,_,1,rfl,eY,⟨?_,?_,eX⟩,?_,?_,?_⟩
  ·refine OwnS.alloc' ?_ _
   iterate 14 (refine OwnS.set' ?_ _ (fun g hg cM=>by have:=eZ g hg cM;first | (show w.heap.size+1≠g;omega) | (show w2.heap.size≠g;omega)) _)
   exact dY.out
  ·exact .inr ⟨w3.heap.size,rfl,j6Q (by simp)⟩
  ·exact fun g hg=>by have:=dV.out g hg;omega
  ·exact fun g hg=>by rw [qdd _ _ _ (by simp)] at hg;cases hg;exact fB
  ·refine Below.alloc ?_ (by simp;omega) _
   iterate 14 (refine Below.setCell ?_ (by first | (show w.heap.size<=w.heap.size+1;omega) | (show w.heap.size<=w2.heap.size;omega)) _)
   exact dU.out
theorem JEq (b:Bool) (n:Int) (s:ByteArray):∀ u∈[Value.bool b,.int .i64 n,.string s],u.oneCell'=true:=by
 intro u hu;simp only [List.mem_cons,List.not_mem_nil,or_false] at hu;rcases hu with rfl | rfl | rfl<;>rfl
structure WK (g:Nat) (w:World) (v:Value) (w':World) (v':Value):Prop where
 size:w.heap.size<=w'.heap.size
 own:∀ k,v'.ownBlock=some k->v.ownBlock=some k\/w.heap.size<=k
 blk:∀ b,b<w.heap.size->b≠g->some b≠v.ownBlock->w'.heap[b]?=w.heap[b]?
theorem WK.start (g:Nat) (w:World) (v:Value):WK g w v w v:=⟨Nat.le_refl _,fun _ h=>.inl h,fun _ _ _ _=>rfl⟩
theorem WK.trans {g:Nat} {w w1 w2:World} {v v1 v2:Value} (h:WK g w v w1 v1) (k:WK g w1 v1 w2 v2):WK g w v w2 v2 :=
 ⟨Nat.le_trans h.size k.size,fun j hj=>(k.own j hj).elim (h.own j) (fun e=>.inr (Nat.le_trans h.size e)),fun b hb h1 h2=>(k.blk b (Nat.lt_of_lt_of_le hb h.size) h1 (fun e=>(h.own b e.symm).elim (fun e=>h2 e.symm) (fun e=>by omega))).trans (h.blk b hb h1 h2)⟩
theorem WK.below {g:Nat} {w w1 w2:World} {v v1:Value} (h:WK g w v w1 v1) (k:Below w1.heap.size w1 w2):WK g w v w2 v1:=h.trans ⟨k.size,fun _ h=>.inl h,fun b hb _ _=>k.block b hb⟩
theorem Row.wk {w w':World} {k g:Nat} {v v':Value} {cs:List Value} (h:Row w k cs) (hk:WK g w v w' v') (h1:k≠g) (h2:some k≠v.ownBlock):Row w' k cs:=by
 have e:=hk.blk k h.lt h1 h2;refine ⟨Nat.lt_of_lt_of_le h.lt hk.size,fun i v hv=>(?_:w'.cell? ⟨k,i,none⟩=some v),fun i hi=>?_⟩
 ·rw [<-h.cell i v hv];simp [World.cell?,e]
 ·rw [<-h.froz i hi];simp [World.frozen?,e]
end Go.Proofs.YtehbpeinnepdcaaGreatDoor
