import Derived.Test.YtehbpeinnepdcaaGreatDoorPrG39
import Derived.Test.YtehbpeinnepdcaaGreatDoorPrG40
set_option maxHeartbeats 16000000
set_option maxRecDepth 8000
set_option linter.unusedVariables false
set_option linter.unusedSimpArgs false
namespace Go.Proofs.YtehbpeinnepdcaaGreatDoor
open Go.RowKit
@[reducible] def yDp (t h f l:Int):Value:=.agg #[.int .i64 t,.int .i64 h,.int .i64 f,.int .i64 l]
abbrev jJV (h f:Int):Prop:=0<=h/\h<=1/\1<=f/\f<=999999000
def ySc (h f:Int):ByteArray:=strOfNums (be 1 h)++strOfNums (be 4 f)
def QCt (t h f l n:Int):ByteArray:=if jJV h f then ZQp 4 l t (ySc h f) n else ByteArray.empty
theorem kIV (t h f l n:Int) (w:World) (aA:¬ jJV h f):Calls Tryz.prog 116 #[yDp t h f l,.int .i64 n] w fun e w'=>e=.returned (.string ByteArray.empty)/\Below w.heap.size w w':=by
 have aB:∀ o,Below w.heap.size w (w.alloc o):=fun o=>(Below.refl _ _).alloc (Nat.le_refl _) _
 unfold jJV at aA;go_enter Tryz.func116,Tryz.ntmps116
 by_cases h1:0<=h<;>by_cases h2:h<=1<;>by_cases h3:1<=f<;>by_cases h4:f<=999999000<;>first | (exfalso;omega) | (clear aA;go_wp2;go_ret;exact ⟨rfl,aB _⟩)
theorem z9P (t h f l n:Int) (w:World) (aD:jJV h f):Calls Tryz.prog 116 #[yDp t h f l,.int .i64 n] w fun e w'=>e=.returned (.string (ZQp 4 l t (ySc h f) n))/\Below w.heap.size w w':=by
 obtain ⟨h1,h2,h3,h4⟩:=aD;obtain ⟨A,hA⟩:∃ A,strOfNums (be 1 h)=A:=⟨_,rfl⟩;obtain ⟨B,hB⟩:∃ B,strOfNums (be 4 f)=B:=⟨_,rfl⟩;have zA:A.size=1:=by rw [<-hA,strOfNums_size,XHU]
 have zB:B.size=4:=by rw [<-hB,strOfNums_size,XHU]
 have HP:Hid (ySc h f=A++B):=by show _=_;unfold ySc;rw [hA,hB]
 have aA:=fun wx=>vFv h 1 1 rfl wx (by omega) (by omega) (by omega)
 have aB:=fun wx=>vFv f 4 4 rfl wx (by omega) (by omega) (by omega)
 simp only [hA] at aA;simp only [hB] at aB;rw [HP.out];have hz:(A++B).size<=1048576:=by simp only [ByteArray.size_append];omega
 go_enter Tryz.func116,Tryz.ntmps116;go_wp2_with fail;have hS:w.heap.size<(w.alloc (.cells #[.int .i64 t,.int .i64 h,.int .i64 f,.int .i64 l] 28)).heap.size/\(w.alloc (.cells #[.int .i64 t,.int .i64 h,.int .i64 f,.int .i64 l] 28)).cell? ⟨w.heap.size,0,none⟩=some (.int .i64 t)/\(w.alloc (.cells #[.int .i64 t,.int .i64 h,.int .i64 f,.int .i64 l] 28)).cell? ⟨w.heap.size,1,none⟩=some (.int .i64 h)/\(w.alloc (.cells #[.int .i64 t,.int .i64 h,.int .i64 f,.int .i64 l] 28)).cell? ⟨w.heap.size,2,none⟩=some (.int .i64 f)/\(w.alloc (.cells #[.int .i64 t,.int .i64 h,.int .i64 f,.int .i64 l] 28)).cell? ⟨w.heap.size,3,none⟩=some (.int .i64 l)/\Below w.heap.size w (w.alloc (.cells #[.int .i64 t,.int .i64 h,.int .i64 f,.int .i64 l] 28)):=⟨by simp,by simp,by simp,by simp,by simp,(Below.refl _ _).alloc (Nat.le_refl _) _⟩;have HS:=vvj hS;clear hS
 go_region_held3 (fun w'=>w.heap.size<w'.heap.size/\w'.cell? ⟨w.heap.size,0,none⟩=some (.int .i64 t)/\w'.cell? ⟨w.heap.size,1,none⟩=some (.int .i64 h)/\w'.cell? ⟨w.heap.size,2,none⟩=some (.int .i64 f)/\w'.cell? ⟨w.heap.size,3,none⟩=some (.int .i64 l)/\Below w.heap.size w w')
  (first | assumption | exact X84 (below_drewN (Below.refl _ _) 1) HS.out | exact X84 (by assumption) (by assumption))
  (first | (go_at_call_of 40 h;refine (aA _).mono ?_;rintro e w2 ⟨rfl,aE⟩) | (go_at_call_of 40 f;refine (aB _).mono ?_;rintro e w3 ⟨rfl,aF⟩) | (go_at_call 23;refine (x4N 4 l t (A++B) n _ hz).mono ?_;rintro e w4 ⟨rfl,aG⟩))
 rename_i hSl;have aC:=hSl.2.2.2.2.2;clear hSl;go_wp2;go_ret;exact ⟨rfl,aC⟩
theorem qAa (t h f l n:Int) (w:World):Calls Tryz.prog 116 #[yDp t h f l,.int .i64 n] w fun e w'=>e=.returned (.string (QCt t h f l n))/\Below w.heap.size w w':=by
 unfold QCt
 by_cases aA:jJV h f
 ·rw [if_pos aA];exact z9P t h f l n w aA
 ·rw [if_neg aA];exact kIV t h f l n w aA
section
structure B4 (w:World) (B:Nat) (v0 v1 v2 v3:Value):Prop where
 lt:B<w.heap.size
 c0:w.cell? ⟨B,0,none⟩=some v0
 c1:w.cell? ⟨B,1,none⟩=some v1
 c2:w.cell? ⟨B,2,none⟩=some v2
 c3:w.cell? ⟨B,3,none⟩=some v3
 f0:w.frozen? ⟨B,0,none⟩=false
 f1:w.frozen? ⟨B,1,none⟩=false
 f2:w.frozen? ⟨B,2,none⟩=false
 f3:w.frozen? ⟨B,3,none⟩=false
section
variable {w w':World} {B:Nat} {v0 v1 v2 v3:Value}
theorem B4.past (h:B4 w B v0 v1 v2 v3) {N:Nat} (hN:B<N) (hb:Below N w w'):B4 w' B v0 v1 v2 v3:=by
 have hc:∀ i,w'.cell? ⟨B,i,none⟩=w.cell? ⟨B,i,none⟩:=fun i=>hb.cell (p:=⟨B,i,none⟩) hN
 have hf:∀ i,w'.frozen? ⟨B,i,none⟩=w.frozen? ⟨B,i,none⟩:=fun i=>hb.frozen (p:=⟨B,i,none⟩) hN
 exact ⟨Nat.lt_of_lt_of_le h.lt hb.size,(hc _).trans h.c0,(hc _).trans h.c1,(hc _).trans h.c2,(hc _).trans h.c3,(hf _).trans h.f0,(hf _).trans h.f1,(hf _).trans h.f2,(hf _).trans h.f3⟩
theorem B4.below (h:B4 w B v0 v1 v2 v3) (hb:Below w.heap.size w w'):B4 w' B v0 v1 v2 v3:=h.past h.lt hb
theorem B4.drew (h:B4 w B v0 v1 v2 v3):B4 w.drew B v0 v1 v2 v3:=⟨h.lt,h.c0,h.c1,h.c2,h.c3,h.f0,h.f1,h.f2,h.f3⟩
theorem B4.alloc (h:B4 w B v0 v1 v2 v3) (o:Obj):B4 (w.alloc o) B v0 v1 v2 v3:=h.below ((Below.refl _ _).alloc (Nat.le_refl _) _)
theorem B4.new (w:World) (v0 v1 v2 v3:Value) (t:TypeId):B4 (w.alloc (.cells #[v0,v1,v2,v3] t)) w.heap.size v0 v1 v2 v3:=by
 refine ⟨by simp,?_,?_,?_,?_,?_,?_,?_,?_⟩<;>first | (simp;done) | (rw [frozen?_alloc_cells];exact jWQ _ _ _ (Nat.le_refl _))
end
section
variable {W w w':World} {R B:Nat} {v0 v1 v2 v3 u0 u1 u2 u3:Value}
end
end
def pcV (r:ByteArray):Value:=match pc r with | none=>.tuple #[.string ⟨#[]⟩,.string ⟨#[]⟩,.bool false] | some (k,m)=>.tuple #[.string k,.string m,.bool true]
theorem q8F (r:ByteArray) (h:0<r.size):(r[0]'h).toNat=b0 r:=by
 unfold b0;have hl:0<r.data.toList.length:=h;rw [List.getD_eq_getElem?_getD,List.getElem?_eq_getElem hl];rfl
theorem xsP (r:ByteArray) (w:World) (hs:r.size<=1048576):Calls Tryz.prog 122 #[.string r] w fun e w'=>e=.returned (pcV r)/\Below w.heap.size w w':=by
 by_cases h0:0<r.size
 ·have hg:=q8F r h0
  obtain ⟨b,hb⟩:∃ b,b=b0 r:=⟨_,rfl⟩;obtain ⟨e,he⟩:∃ e,e=1+b:=⟨_,rfl⟩;have aF:b<=255:=by rw [hb];exact Q10 r
  rw [<-hb] at hg;have h1:(1:Int)<=(r.size:Int):=by omega
  have aB:r.toList.isEmpty=false:=by rw [vOw];exact decide_eq_false (by omega)
  have hE:(1:Int)+(b:Int)=(e:Int):=by omega
  have aC:(0:Int)<=(e:Int):=by omega
  have aD:(1:Int)<=(e:Int):=by omega
  have aE:IntKind.i64.wrap (e:Int)=(e:Int):=by simp [IntKind.wrap,IntKind.bits,IntKind.signed];omega
  by_cases h2:1+b<=r.size
  ·have HV:Hid (pcV r=.tuple #[.string (r.extract 1 e),.string (r.extract e r.size),.bool true]):=by
    show _=_;unfold pcV pc;rw [<-hb,if_pos ⟨by omega,h2⟩,<-he]
   have aA:(e:Int)<=(r.size:Int):=by omega
   clear hb h2 he;go_enter Tryz.func122,Tryz.ntmps122;go_wp2;go_quiet (fail);go_wp2;go_ret3;exact ⟨by rw [HV.out];rfl,below_drewN (Below.refl _ _) _⟩
  ·have HV:Hid (pcV r=.tuple #[.string ⟨#[]⟩,.string ⟨#[]⟩,.bool false]):=by
    show _=_;unfold pcV pc;rw [<-hb,if_neg (by omega)]
   have aA:(r.size:Int)<(e:Int):=by omega
   clear hb h2 he;go_enter Tryz.func122,Tryz.ntmps122;go_wp2;go_ret3;exact ⟨by rw [HV.out];rfl,Below.refl _ _⟩
 ·have HV:Hid (pcV r=.tuple #[.string ⟨#[]⟩,.string ⟨#[]⟩,.bool false]):=by
   show _=_;unfold pcV pc;rw [if_neg (by omega)]
  have hz:(r.size:Int)<1:=by omega
  have aB:r.toList.isEmpty=true:=by rw [vOw];exact decide_eq_true (by omega)
  go_enter Tryz.func122,Tryz.ntmps122;go_wp2;go_ret3;exact ⟨by rw [HV.out];rfl,Below.refl _ _⟩
theorem bs0 {w w':World} {o:Obj} (h:Below (w.alloc o).heap.size (w.alloc o) w'):Below w.heap.size w w':=((Below.refl _ _).alloc (Nat.le_refl _) _).trans (h.mono (by simp))
theorem Qg6 {r:ByteArray} (h:pc r=none):pcV r=.tuple #[.string ⟨#[]⟩,.string ⟨#[]⟩,.bool false]:=by unfold pcV;rw [h]
theorem xMB {r k m:ByteArray} (h:pc r=some (k,m)):pcV r=.tuple #[.string k,.string m,.bool true]:=by unfold pcV;rw [h]
theorem QAD {r k m:ByteArray} (h:pc r=some (k,m)):m.size<=r.size:=by
 have:=congrArg List.length (knt h).1;simp [vgz] at this;omega
theorem q3H:(Tryz.prog.info? 121).map (fun i=>(i.zero,i.size,i.bytes))=some (some (.agg #[.string ByteArray.empty,.string ByteArray.empty,.bool false]),3,40):=by kernel_rfl
theorem qOH {P:Program} {e:TypeId} {z:Value} {size aA:Nat} (h:(P.info? e).map (fun i=>(i.zero,i.size,i.bytes))=some (some z,size,aA)):∃ i,P.info? e=some i/\i.zero=some z/\i.size=size/\i.bytes=aA:=by
 obtain ⟨i,hi,hh⟩:=Option.map_eq_some_iff.1 h;simp only [Prod.mk.injEq] at hh;exact ⟨i,hi,hh⟩
theorem QUO {W w w1:World} {e:TypeId} {size:Nat} {v:Value} {n B:Nat} {xs:List Value} (hb:Below B W w) (own:w.ownsRow B e size v n xs) (hg:w.grownBy w1 v.ownBlock) (hB:B<=w.heap.size):Below B W w1 :=
 hb.trans ⟨hg.os,hg.tape,hg.output,hg.size,fun k hk=>hg.block k (by omega) (fun he=>by have:=(own.lt k he.symm).1;omega)⟩
theorem qGp {r r1:ByteArray} {c:Ch} (hr:0<r.size) (h:stp r=some (c,r1)):r1.size<r.size/\c.1.size<=255/\c.2.1.size<=255:=by
 obtain ⟨k1,k2,t,k3,k4⟩:=kUx hr h;refine ⟨?_,k1,k2⟩;have e1:=congrArg List.length k3;have e2:=congrArg List.length k4;rw [vgz] at e2;rw [List.length_append,vgz] at e1;have e3:2<=(chN c).length:=by unfold chN;split<;>simp<;>omega
 simp only [List.length_cons] at e1 e2;omega
def qdZ (w w':World) (e:Ending) (aA:Option (List Ch)):Prop:=∃ a c,e=.returned (.tuple #[.slice a (aA.getD []).length c,.bool aA.isSome])/\OwnS w' a (jlM (aA.getD []))/\(∀ g,blk a (aA.getD []).length=some g->w.heap.size<=g)/\Below w.heap.size w w'
theorem ZZy {w w':World} {v:Value} {a:Option Addr} {c:Nat} (hv:v=.tuple #[.slice a 0 c,.bool false]) (hb:Below w.heap.size w w'):qdZ w w' (.returned v) none:=⟨a,c,by rw [hv];rfl,.inl rfl,fun g h=>(by cases h),hb⟩
theorem zVX {w w':World} {v y:Value} {o:List Ch} {e:TypeId} (h:w'.ownsRow w.heap.size e 3 y o.length (jlM o)) (hv:v=.tuple #[y,.bool true]) (hb:Below w.heap.size w w'):qdZ w w' (.returned v) (some o):=by
 rcases yUO h with ⟨h1,h2⟩ | ⟨g,cap,h1,h2,_,h3⟩
 ·have:o=[]:=List.eq_nil_of_length_eq_zero h2
  subst this;exact ⟨none,0,by rw [hv,h1];rfl,.inl rfl,fun g h=>(by cases h),hb⟩
 ·refine ⟨_,cap,by rw [hv,h1];rfl,.inr ⟨g,rfl,h3⟩,fun g' aA=>?_,hb⟩
  simp only [Option.getD_some] at aA
  by_cases h0:o.length=0
  ·rw [h0] at aA;cases aA
  ·rw [qdd g 0 _ h0] at aA;cases aA;exact h2
theorem XiI {w:World} {B:Nat} {e:TypeId} {y:Value} {o:List Ch} (h:w.ownsRow B e 3 y o.length (jlM o)):∃ a c,y=.slice a o.length c/\Chs w a o:=by
 rcases yUO h with ⟨h1,h2⟩ | ⟨g,cap,h1,h2,_,h3⟩
 ·have:o=[]:=List.eq_nil_of_length_eq_zero h2
  subst this;exact ⟨none,0,h1,.inl rfl⟩
 ·exact ⟨_,cap,h1,h3.chs⟩
theorem ysK (o:List Ch) (c:Ch):jlM (o++[c])=jlM o++[.string c.1,.string c.2.1,.bool c.2.2]:=by rw [xam];rfl
theorem keR (k v:ByteArray) (g:Bool):∀ u∈[Value.string k,.string v,.bool g],u.oneCell'=true:=by
 intro u hu;simp only [List.mem_cons,List.not_mem_nil,or_false] at hu;rcases hu with rfl | rfl | rfl<;>rfl
end Go.Proofs.YtehbpeinnepdcaaGreatDoor
