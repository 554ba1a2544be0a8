import Derived.Test.YthdilmkbnpmdaaaPrG48
import Derived.Test.YthdilmkbnpmdaaaPrG39
import Derived.Laws.Bits64b
import Derived.SliceStrings
import Derived.Deep.SlicePairs
import Derived.ProofKit
import Derived.ChangeOld
set_option maxHeartbeats 16000000
set_option maxRecDepth 8000
set_option linter.unusedVariables false
set_option linter.unusedSimpArgs false
namespace Go.Proofs.Ythdilmkbnpmdaaa
open Go.RowKit
@[reducible] def rootV (t h f l:Int):Value:=.agg #[.int .i64 t,.int .i64 h,.int .i64 f,.int .i64 l]
abbrev rtOk (h f:Int):Prop:=0<=h/\h<=1/\1<=f/\f<=999999000
def rtPart (h f:Int):ByteArray:=strOfNums (be 1 h)++strOfNums (be 4 f)
def rtForm (t h f l n:Int):ByteArray:=if rtOk h f then formOf 4 l t (rtPart h f) n else ByteArray.empty
theorem rootpage_s_no (t h f l n:Int) (w:World) (hno:¬ rtOk h f):Calls Try.prog 84 #[rootV t h f l,.int .i64 n] w fun e w'=>e=.returned (.string ByteArray.empty)/\Below w.heap.size w w':=by
 have hb0:∀ o,Below w.heap.size w (w.alloc o):=fun o=>(Below.refl _ _).alloc (Nat.le_refl _) _
 unfold rtOk at hno
 go_enter Try.func84,Try.ntmps84
 by_cases h1:0<=h<;>by_cases h2:h<=1<;>by_cases h3:1<=f<;>by_cases h4:f<=999999000<;>first | (exfalso;omega) | (clear hno;go_wp2;go_ret;exact ⟨rfl,hb0 _⟩)
theorem rootpage_s_ok (t h f l n:Int) (w:World) (hok:rtOk h f):Calls Try.prog 84 #[rootV t h f l,.int .i64 n] w fun e w'=>e=.returned (.string (formOf 4 l t (rtPart h f) n))/\Below w.heap.size w w':=by
 obtain ⟨h1,h2,h3,h4⟩:=hok
 obtain ⟨A,hA⟩:∃ A,strOfNums (be 1 h)=A:=⟨_,rfl⟩
 obtain ⟨B,hB⟩:∃ B,strOfNums (be 4 f)=B:=⟨_,rfl⟩
 have zA:A.size=1:=by rw [<-hA,strOfNums_size,be_length]
 have zB:B.size=4:=by rw [<-hB,strOfNums_size,be_length]
 have HP:Hid (rtPart h f=A++B):=by show _=_;unfold rtPart;rw [hA,hB]
 have numA:=fun wx=>num_s' h 1 1 rfl wx (by omega) (by omega) (by omega)
 have numB:=fun wx=>num_s' f 4 4 rfl wx (by omega) (by omega) (by omega)
 simp only [hA] at numA
 simp only [hB] at numB
 rw [HP.out]
 have hz:(A++B).size<=1048576:=by simp only [ByteArray.size_append];omega
 go_enter Try.func84,Try.ntmps84
 go_wp2_with fail
 have hS:w.heap.size<(w.alloc (.cells #[.int .i64 t,.int .i64 h,.int .i64 f,.int .i64 l] 74)).heap.size/\(w.alloc (.cells #[.int .i64 t,.int .i64 h,.int .i64 f,.int .i64 l] 74)).cell? ⟨w.heap.size,0,none⟩=some (.int .i64 t)/\(w.alloc (.cells #[.int .i64 t,.int .i64 h,.int .i64 f,.int .i64 l] 74)).cell? ⟨w.heap.size,1,none⟩=some (.int .i64 h)/\(w.alloc (.cells #[.int .i64 t,.int .i64 h,.int .i64 f,.int .i64 l] 74)).cell? ⟨w.heap.size,2,none⟩=some (.int .i64 f)/\(w.alloc (.cells #[.int .i64 t,.int .i64 h,.int .i64 f,.int .i64 l] 74)).cell? ⟨w.heap.size,3,none⟩=some (.int .i64 l)/\Below w.heap.size w (w.alloc (.cells #[.int .i64 t,.int .i64 h,.int .i64 f,.int .i64 l] 74)):=⟨by simp,by simp,by simp,by simp,by simp,(Below.refl _ _).alloc (Nat.le_refl _) _⟩
 have HS:=hide hS
 clear hS
 go_region_held3 (fun w'=>w.heap.size<w'.heap.size/\w'.cell? ⟨w.heap.size,0,none⟩=some (.int .i64 t)/\w'.cell? ⟨w.heap.size,1,none⟩=some (.int .i64 h)/\w'.cell? ⟨w.heap.size,2,none⟩=some (.int .i64 f)/\w'.cell? ⟨w.heap.size,3,none⟩=some (.int .i64 l)/\Below w.heap.size w w')
  (first | assumption | exact keep4 (below_drewN (Below.refl _ _) 1) HS.out | exact keep4 (by assumption) (by assumption))
  (first | (go_at_call_of 75 h;refine (numA _).mono ?_;rintro e w2 ⟨rfl,hb2⟩) | (go_at_call_of 75 f;refine (numB _).mono ?_;rintro e w3 ⟨rfl,hb3⟩) | (go_at_call 62;refine (form_s_any 4 l t (A++B) n _ hz).mono ?_;rintro e w4 ⟨rfl,hb4⟩))
 rename_i hSl
 have hbl:=hSl.2.2.2.2.2
 clear hSl
 go_wp2
 go_ret
 exact ⟨rfl,hbl⟩
theorem rootpage_s_any (t h f l n:Int) (w:World):Calls Try.prog 84 #[rootV t h f l,.int .i64 n] w fun e w'=>e=.returned (.string (rtForm t h f l n))/\Below w.heap.size w w':=by
 unfold rtForm
 by_cases hok:rtOk h f
 ·rw [if_pos hok];exact rootpage_s_ok t h f l n w hok
 ·rw [if_neg hok];exact rootpage_s_no t h f l n w hok
section
structure B4 (w:World) (B:Nat) (v0 v1 v2 v3:Value):Prop where
 lt:B<w.heap.size
 c0:w.cell? ⟨B,0,none⟩=some v0
 c1:w.cell? ⟨B,1,none⟩=some v1
 c2:w.cell? ⟨B,2,none⟩=some v2
 c3:w.cell? ⟨B,3,none⟩=some v3
 f0:w.frozen? ⟨B,0,none⟩=false
 f1:w.frozen? ⟨B,1,none⟩=false
 f2:w.frozen? ⟨B,2,none⟩=false
 f3:w.frozen? ⟨B,3,none⟩=false
section
variable {w w':World} {B:Nat} {v0 v1 v2 v3:Value}
theorem B4.past (h:B4 w B v0 v1 v2 v3) {N:Nat} (hN:B<N) (hb:Below N w w'):B4 w' B v0 v1 v2 v3:=by
 have hc:∀ i,w'.cell? ⟨B,i,none⟩=w.cell? ⟨B,i,none⟩:=fun i=>hb.cell (p:=⟨B,i,none⟩) hN
 have hf:∀ i,w'.frozen? ⟨B,i,none⟩=w.frozen? ⟨B,i,none⟩:=fun i=>hb.frozen (p:=⟨B,i,none⟩) hN
 exact ⟨Nat.lt_of_lt_of_le h.lt hb.size,(hc _).trans h.c0,(hc _).trans h.c1,(hc _).trans h.c2,(hc _).trans h.c3,(hf _).trans h.f0,(hf _).trans h.f1,(hf _).trans h.f2,(hf _).trans h.f3⟩
theorem B4.below (h:B4 w B v0 v1 v2 v3) (hb:Below w.heap.size w w'):B4 w' B v0 v1 v2 v3:=h.past h.lt hb
theorem B4.drew (h:B4 w B v0 v1 v2 v3):B4 w.drew B v0 v1 v2 v3:=⟨h.lt,h.c0,h.c1,h.c2,h.c3,h.f0,h.f1,h.f2,h.f3⟩
theorem B4.alloc (h:B4 w B v0 v1 v2 v3) (o:Obj):B4 (w.alloc o) B v0 v1 v2 v3:=h.below ((Below.refl _ _).alloc (Nat.le_refl _) _)
theorem B4.new (w:World) (v0 v1 v2 v3:Value) (t:TypeId):B4 (w.alloc (.cells #[v0,v1,v2,v3] t)) w.heap.size v0 v1 v2 v3:=by
 refine ⟨by simp,?_,?_,?_,?_,?_,?_,?_,?_⟩<;>first | (simp;done) | (rw [frozen?_alloc_cells];exact frozen_past _ _ _ (Nat.le_refl _))
end
def cvl (w:World) (p:Addr):Value:=(w.cell? p).getD (.int .i64 0)
theorem cvl_some {w:World} {p:Addr} (h:(w.cell? p).isSome=true):w.cell? p=some (cvl w p):=by
 unfold cvl
 cases e:w.cell? p with
 | none=>rw [e] at h;exact absurd h (by simp)
 | some v=>rfl
theorem cvl_is {w:World} {p:Addr} {v:Value} (h:w.cell? p=some v):(w.cell? p).isSome=true:=by rw [h];rfl
def KR (W:World) (R B:Nat) (v0 v1 v2 v3:Value) (w:World):Prop :=
 w.cell? ⟨B,0,none⟩=some v0/\w.cell? ⟨B,1,none⟩=some v1/\w.cell? ⟨B,2,none⟩=some v2/\w.cell? ⟨B,3,none⟩=some v3/\w.cell? ⟨R,0,none⟩=some (cvl w ⟨R,0,none⟩)/\w.cell? ⟨R,1,none⟩=some (cvl w ⟨R,1,none⟩)/\w.cell? ⟨R,2,none⟩=some (cvl w ⟨R,2,none⟩)/\w.cell? ⟨R,3,none⟩=some (cvl w ⟨R,3,none⟩)/\w.frozen? ⟨R,0,none⟩=false/\w.frozen? ⟨R,1,none⟩=false/\w.frozen? ⟨R,2,none⟩=false/\w.frozen? ⟨R,3,none⟩=false/\Below W.heap.size W w/\R<w.heap.size/\B<w.heap.size/\R≠B/\W.heap.size<=R
section
variable {W w w':World} {R B:Nat} {v0 v1 v2 v3 u0 u1 u2 u3:Value}
theorem KR.of (hB:B4 w B v0 v1 v2 v3) (hR:B4 w R u0 u1 u2 u3) (hb:Below W.heap.size W w) (hne:R≠B) (hW:W.heap.size<=R):KR W R B v0 v1 v2 v3 w :=
 ⟨hB.c0,hB.c1,hB.c2,hB.c3,cvl_some (cvl_is hR.c0),cvl_some (cvl_is hR.c1),cvl_some (cvl_is hR.c2),cvl_some (cvl_is hR.c3),hR.f0,hR.f1,hR.f2,hR.f3,hb,hR.lt,hB.lt,hne,hW⟩
theorem KR.below (h:KR W R B v0 v1 v2 v3 w) (hb:Below w.heap.size w w'):KR W R B v0 v1 v2 v3 w':=by
 obtain ⟨a0,a1,a2,a3,c0,c1,c2,c3,f0,f1,f2,f3,hW,hR,hB,hne,hle⟩:=h
 have cR:∀ i,w'.cell? ⟨R,i,none⟩=w.cell? ⟨R,i,none⟩:=fun i=>hb.cell (p:=⟨R,i,none⟩) hR
 have cB:∀ i,w'.cell? ⟨B,i,none⟩=w.cell? ⟨B,i,none⟩:=fun i=>hb.cell (p:=⟨B,i,none⟩) hB
 have fR:∀ i,w'.frozen? ⟨R,i,none⟩=w.frozen? ⟨R,i,none⟩:=fun i=>hb.frozen (p:=⟨R,i,none⟩) hR
 exact ⟨(cB _).trans a0,(cB _).trans a1,(cB _).trans a2,(cB _).trans a3,cvl_some (by rw [cR];exact cvl_is c0),cvl_some (by rw [cR];exact cvl_is c1),cvl_some (by rw [cR];exact cvl_is c2),cvl_some (by rw [cR];exact cvl_is c3),(fR _).trans f0,(fR _).trans f1,(fR _).trans f2,(fR _).trans f3,hW.trans (hb.mono (Nat.le_trans hle (Nat.le_of_lt hR))),Nat.lt_of_lt_of_le hR hb.size,Nat.lt_of_lt_of_le hB hb.size,hne,hle⟩
theorem KR.drew (h:KR W R B v0 v1 v2 v3 w):KR W R B v0 v1 v2 v3 w.drew:=h.below ((Below.refl _ _).drew)
theorem KR.set (h:KR W R B v0 v1 v2 v3 w) (j:Nat) (v:Value):KR W R B v0 v1 v2 v3 (w.setCell ⟨R,j,none⟩ v):=by
 obtain ⟨a0,a1,a2,a3,c0,c1,c2,c3,f0,f1,f2,f3,hW,hR,hB,hne,hle⟩:=h
 have hs:∀ p,(w.cell? p).isSome=true->((w.setCell ⟨R,j,none⟩ v).cell? p).isSome=true:=fun p hp=>by
  by_cases e:(⟨R,j,none⟩:Addr)=p
  ·subst e
   obtain ⟨u,hu⟩:=Option.isSome_iff_exists.1 hp
   rw [World.cell?_setCell_same (w:=w) (h:=hu)];rfl
  ·rw [World.cell?_setCell_other (w:=w) (h:=e)];exact hp
 have cB:∀ i,(w.setCell ⟨R,j,none⟩ v).cell? ⟨B,i,none⟩=w.cell? ⟨B,i,none⟩:=fun i=>World.cell?_setCell_far _ _ _ _ hne
 exact ⟨(cB _).trans a0,(cB _).trans a1,(cB _).trans a2,(cB _).trans a3,cvl_some (hs _ (cvl_is c0)),cvl_some (hs _ (cvl_is c1)),cvl_some (hs _ (cvl_is c2)),cvl_some (hs _ (cvl_is c3)),by rw [World.frozen?_setCell];exact f0,by rw [World.frozen?_setCell];exact f1,by rw [World.frozen?_setCell];exact f2,by rw [World.frozen?_setCell];exact f3,hW.setCell hle _,by rw [World.size_setCell];exact hR,by rw [World.size_setCell];exact hB,hne,hle⟩
end
end
end Go.Proofs.Ythdilmkbnpmdaaa
namespace Go.Proofs.Ythdilmkbnpmdaaa
structure Wr (p:Prop):Prop where
 out:p
end Go.Proofs.Ythdilmkbnpmdaaa
namespace Go.Proofs.Ythdilmkbnpmdaaa
open Go.RowKit
theorem bits_xor_i64_nat (a b:Nat) (ha:a<4611686018427387904) (hb:b<4611686018427387904) :
  bits .xor .i64 (a:Int) (b:Int)=((a ^^^ b:Nat):Int):=by
 have hx:a ^^^ b<2 ^ 62:=Nat.xor_lt_two_pow (by omega) (by omega)
 have h1:(BitVec.ofInt 64 (a:Int)).toNat=a:=by
  rw [BitVec.ofInt_natCast,BitVec.toNat_ofNat];exact Nat.mod_eq_of_lt (by omega)
 have h2:(BitVec.ofInt 64 (b:Int)).toNat=b:=by
  rw [BitVec.ofInt_natCast,BitVec.toNat_ofNat];exact Nat.mod_eq_of_lt (by omega)
 show IntKind.i64.wrap ((BitVec.ofInt 64 (a:Int) ^^^ BitVec.ofInt 64 (b:Int)).toNat:Int)=_
 rw [BitVec.toNat_xor,h1,h2]
 simp [IntKind.wrap,IntKind.bits,IntKind.signed]
 omega
section
structure RI (W w:World) (c0 c1 c2 c3:Value):Prop where
 size:W.heap.size+2<=w.heap.size
 bel:Below W.heap.size W w
 b0:w.cell? ⟨W.heap.size,0,none⟩=some c0
 b1:w.cell? ⟨W.heap.size,1,none⟩=some c1
 b2:w.cell? ⟨W.heap.size,2,none⟩=some c2
 b3:w.cell? ⟨W.heap.size,3,none⟩=some c3
section
variable {W w w':World} {c0 c1 c2 c3:Value}
theorem RI.drew (h:RI W w c0 c1 c2 c3):RI W w.drew c0 c1 c2 c3:=⟨h.size,h.bel.drew,h.b0,h.b1,h.b2,h.b3⟩
theorem RI.past (h:RI W w c0 c1 c2 c3) (hb:Below (W.heap.size+1) w w'):RI W w' c0 c1 c2 c3 :=
 have hs:=h.size
 ⟨Nat.le_trans hs hb.size,h.bel.trans (hb.mono (by omega)),(hb.cell (p:=⟨_,0,none⟩) (by show W.heap.size<_;omega)).trans h.b0,(hb.cell (p:=⟨_,1,none⟩) (by show W.heap.size<_;omega)).trans h.b1,
  (hb.cell (p:=⟨_,2,none⟩) (by show W.heap.size<_;omega)).trans h.b2,(hb.cell (p:=⟨_,3,none⟩) (by show W.heap.size<_;omega)).trans h.b3⟩
theorem RI.below (h:RI W w c0 c1 c2 c3) (hb:Below w.heap.size w w'):RI W w' c0 c1 c2 c3:=h.past (hb.mono (by have:=h.size;omega))
theorem RI.wrote {o:Nat} {ys:List Int} (h:RI W w c0 c1 c2 c3) (hw:Wrote w w' (W.heap.size+1) o ys):RI W w' c0 c1 c2 c3:=h.past (hw.below (Nat.le_refl _))
end
end
def pcV (r:ByteArray):Value:=match pc r with | none=>.tuple #[.string ⟨#[]⟩,.string ⟨#[]⟩,.bool false] | some (k,m)=>.tuple #[.string k,.string m,.bool true]
theorem get0 (r:ByteArray) (h:0<r.size):(r[0]'h).toNat=b0 r:=by
 unfold b0
 have hl:0<r.data.toList.length:=h
 rw [List.getD_eq_getElem?_getD,List.getElem?_eq_getElem hl]
 rfl
theorem piece_s (r:ByteArray) (w:World) (hs:r.size<=1048576):Calls Try.prog 85 #[.string r] w fun e w'=>e=.returned (pcV r)/\Below w.heap.size w w':=by
 by_cases h0:0<r.size
 ·have hg:=get0 r h0
  obtain ⟨b,hb⟩:∃ b,b=b0 r:=⟨_,rfl⟩
  obtain ⟨e,he⟩:∃ e,e=1+b:=⟨_,rfl⟩
  have hbl:b<=255:=by rw [hb];exact b0_lt r
  rw [<-hb] at hg
  have h1:(1:Int)<=(r.size:Int):=by omega
  have hze:r.toList.isEmpty=false:=by rw [isEmpty_size];exact decide_eq_false (by omega)
  have hE:(1:Int)+(b:Int)=(e:Int):=by omega
  have hE0:(0:Int)<=(e:Int):=by omega
  have hE1:(1:Int)<=(e:Int):=by omega
  have hEw:IntKind.i64.wrap (e:Int)=(e:Int):=by simp [IntKind.wrap,IntKind.bits,IntKind.signed];omega
  by_cases h2:1+b<=r.size
  ·have HV:Hid (pcV r=.tuple #[.string (r.extract 1 e),.string (r.extract e r.size),.bool true]):=by
    show _=_
    unfold pcV pc
    rw [<-hb,if_pos ⟨by omega,h2⟩,<-he]
   have h2':(e:Int)<=(r.size:Int):=by omega
   clear hb h2 he
   go_enter Try.func85,Try.ntmps85
   go_wp2
   go_quiet (fail)
   go_wp2
   go_ret3
   exact ⟨by rw [HV.out];rfl,below_drewN (Below.refl _ _) _⟩
  ·have HV:Hid (pcV r=.tuple #[.string ⟨#[]⟩,.string ⟨#[]⟩,.bool false]):=by
    show _=_
    unfold pcV pc
    rw [<-hb,if_neg (by omega)]
   have h2':(r.size:Int)<(e:Int):=by omega
   clear hb h2 he
   go_enter Try.func85,Try.ntmps85
   go_wp2
   go_ret3
   exact ⟨by rw [HV.out];rfl,Below.refl _ _⟩
 ·have HV:Hid (pcV r=.tuple #[.string ⟨#[]⟩,.string ⟨#[]⟩,.bool false]):=by
   show _=_
   unfold pcV pc
   rw [if_neg (by omega)]
  have hz:(r.size:Int)<1:=by omega
  have hze:r.toList.isEmpty=true:=by rw [isEmpty_size];exact decide_eq_true (by omega)
  go_enter Try.func85,Try.ntmps85
  go_wp2
  go_ret3
  exact ⟨by rw [HV.out];rfl,Below.refl _ _⟩
theorem bs0 {w w':World} {o:Obj} (h:Below (w.alloc o).heap.size (w.alloc o) w'):Below w.heap.size w w':=((Below.refl _ _).alloc (Nat.le_refl _) _).trans (h.mono (by simp))
theorem pcV_none {r:ByteArray} (h:pc r=none):pcV r=.tuple #[.string ⟨#[]⟩,.string ⟨#[]⟩,.bool false]:=by unfold pcV;rw [h]
theorem pcV_some {r k m:ByteArray} (h:pc r=some (k,m)):pcV r=.tuple #[.string k,.string m,.bool true]:=by unfold pcV;rw [h]
theorem pc_size {r k m:ByteArray} (h:pc r=some (k,m)):m.size<=r.size:=by
 have:=congrArg List.length (pc_some h).1
 simp [nums_length] at this
 omega
theorem info_ch':(Try.prog.info? 101).map (fun i=>(i.zero,i.size,i.bytes))=some (some (.agg #[.string ByteArray.empty,.string ByteArray.empty,.bool false]),3,40):=by kernel_rfl
theorem info_partsC {P:Program} {e:TypeId} {z:Value} {size bytes:Nat} (h:(P.info? e).map (fun i=>(i.zero,i.size,i.bytes))=some (some z,size,bytes)):∃ i,P.info? e=some i/\i.zero=some z/\i.size=size/\i.bytes=bytes:=by
 obtain ⟨i,hi,hh⟩:=Option.map_eq_some_iff.1 h
 simp only [Prod.mk.injEq] at hh
 exact ⟨i,hi,hh⟩
theorem below_grownC {W w w1:World} {e:TypeId} {size:Nat} {v:Value} {n B:Nat} {xs:List Value} (hb:Below B W w) (own:w.ownsRow B e size v n xs) (hg:w.grownBy w1 v.ownBlock) (hB:B<=w.heap.size):Below B W w1 :=
 hb.trans ⟨hg.os,hg.tape,hg.output,hg.size,fun k hk=>hg.block k (by omega) (fun he=>by have:=(own.lt k he.symm).1;omega)⟩
theorem stp_size {r r1:ByteArray} {c:Ch} (hr:0<r.size) (h:stp r=some (c,r1)):r1.size<r.size/\c.1.size<=255/\c.2.1.size<=255:=by
 obtain ⟨k1,k2,t,k3,k4⟩:=stp_some hr h
 refine ⟨?_,k1,k2⟩
 have e1:=congrArg List.length k3
 have e2:=congrArg List.length k4
 rw [nums_length] at e2
 rw [List.length_append,nums_length] at e1
 have e3:2<=(chN c).length:=by unfold chN;split<;>simp<;>omega
 simp only [List.length_cons] at e1 e2
 omega
def RbPost (w w':World) (e:Ending) (res:Option (List Ch)):Prop:=∃ a c,e=.returned (.tuple #[.slice a (res.getD []).length c,.bool res.isSome])/\OwnS w' a (chcells (res.getD []))/\(∀ g,blk a (res.getD []).length=some g->w.heap.size<=g)/\Below w.heap.size w w'
theorem rbPost_none {w w':World} {v:Value} {a:Option Addr} {c:Nat} (hv:v=.tuple #[.slice a 0 c,.bool false]) (hb:Below w.heap.size w w'):RbPost w w' (.returned v) none:=⟨a,c,by rw [hv];rfl,.inl rfl,fun g h=>(by cases h),hb⟩
theorem rbPost_some {w w':World} {v y:Value} {o:List Ch} {e:TypeId} (h:w'.ownsRow w.heap.size e 3 y o.length (chcells o)) (hv:v=.tuple #[y,.bool true]) (hb:Below w.heap.size w w'):RbPost w w' (.returned v) (some o):=by
 rcases owns_forms h with ⟨h1,h2⟩ | ⟨g,cap,h1,h2,_,h3⟩
 ·have:o=[]:=List.eq_nil_of_length_eq_zero h2
  subst this
  exact ⟨none,0,by rw [hv,h1];rfl,.inl rfl,fun g h=>(by cases h),hb⟩
 ·refine ⟨_,cap,by rw [hv,h1];rfl,.inr ⟨g,rfl,h3⟩,fun g' hg'=>?_,hb⟩
  simp only [Option.getD_some] at hg'
  by_cases h0:o.length=0
  ·rw [h0] at hg';cases hg'
  ·rw [blk_pos g 0 _ h0] at hg';cases hg';exact h2
theorem owns_chs {w:World} {B:Nat} {e:TypeId} {y:Value} {o:List Ch} (h:w.ownsRow B e 3 y o.length (chcells o)):∃ a c,y=.slice a o.length c/\Chs w a o:=by
 rcases owns_forms h with ⟨h1,h2⟩ | ⟨g,cap,h1,h2,_,h3⟩
 ·have:o=[]:=List.eq_nil_of_length_eq_zero h2
  subst this
  exact ⟨none,0,h1,.inl rfl⟩
 ·exact ⟨_,cap,h1,h3.chs⟩
theorem chcells_snoc (o:List Ch) (c:Ch):chcells (o++[c])=chcells o++[.string c.1,.string c.2.1,.bool c.2.2]:=by rw [chcells_append];rfl
theorem oneC (k v:ByteArray) (g:Bool):∀ u∈[Value.string k,.string v,.bool g],u.oneCell'=true:=by
 intro u hu
 simp only [List.mem_cons,List.not_mem_nil,or_false] at hu
 rcases hu with rfl | rfl | rfl<;>rfl
end Go.Proofs.Ythdilmkbnpmdaaa
namespace Go.Proofs.Ythdilmkbnpmdaaa
open Go.RowKit Go.ChangeShapes Go.WideShapes Go.Deep
section
variable {H:Type} {enc:TypeId×Value->H} {P:Program} {w:World} {base:Nat} {spare:Nat->Bool} {held:Bool}
theorem add_none {a:Addr} {i:Nat} {v:Value} (h:w.cell? (a.add i)=some v) (h0:∃ u,w.cell? (a.add 0)=some u):∃ b o,a=⟨b,o,none⟩:=by
 obtain ⟨b,o,s⟩:=a
 obtain ⟨u,hu⟩:=h0
 have hs:s=none:=by simpa [Addr.add] using World.cell?_spot hu
 exact ⟨b,o,by rw [hs]⟩
theorem add_mk (b o i:Nat):(⟨b,o,none⟩:Addr).add i=⟨b,o+i,none⟩:=by unfold Addr.add;split<;>simp_all
end
end Go.Proofs.Ythdilmkbnpmdaaa
