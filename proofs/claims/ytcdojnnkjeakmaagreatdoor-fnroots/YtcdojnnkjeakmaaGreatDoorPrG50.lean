import Derived.Test.YtcdojnnkjeakmaaGreatDoorPrDrvOf
import Derived.Test.YtcdojnnkjeakmaaGreatDoorPrG47
import Derived.Test.YtcdojnnkjeakmaaGreatDoorPrFate
import Derived.Deep.Cut
import Derived.Deep.CutRange
set_option maxHeartbeats 16000000
set_option maxRecDepth 8000
set_option linter.unusedVariables false
set_option linter.unusedSimpArgs false
namespace Go.Proofs.YtcdojnnkjeakmaaGreatDoor
open Go.RowKit
def opD (d:List ByteArray×List (Int×ByteArray)) (o:Bool×Int×ByteArray):List ByteArray×List (Int×ByteArray) :=
 if o.1=true then (xhE d.2 d.1,[]) else if wOk d.1.length o.2=true/\d.2.length<300 then (d.1,d.2++[o.2]) else d
def JKX:List (Bool×Int×ByteArray)->List ByteArray×List (Int×ByteArray)->List ByteArray×List (Int×ByteArray)
 | [],d=>d
 | o::r,d=>JKX r (opD d o)
theorem zSd (d:List ByteArray×List (Int×ByteArray)) (x:Int×ByteArray):opD d (true,x)=(xhE d.2 d.1,[]):=by simp [opD]
theorem zhd (d:List ByteArray×List (Int×ByteArray)) (x:Int×ByteArray) (h:wOk d.1.length x=true) (h2:d.2.length<300):opD d (false,x)=(d.1,d.2++[x]):=by simp [opD,h,h2]
theorem zuS (d:List ByteArray×List (Int×ByteArray)) (x:Int×ByteArray) (h:wOk d.1.length x=false\/¬ d.2.length<300):opD d (false,x)=d:=by
 unfold opD;rw [if_neg (by simp),if_neg];rintro ⟨h1,h2⟩;rcases h with h | h
 ·rw [h] at h1;cases h1
 ·exact h h2
theorem zKN (d:List ByteArray×List (Int×ByteArray)) (o:Bool×Int×ByteArray):(opD d o).1.length=d.1.length:=by
 unfold opD
 split
 ·exact yOJ _ _
 ·split<;>rfl
theorem jIc:∀ (ws:List (Int×ByteArray)) (ss:List ByteArray),(∀ s∈ss,(s.size:Int)=64)->(∀ x∈ws,(x.2.size:Int)=64)->∀ s∈xhE ws ss,(s.size:Int)=64
 | [],ss,h,_=>h
 | x::r,ss,h,hw=>jIc r _ (fun s hs=>by
   rcases List.mem_or_eq_of_mem_set hs with h3 | h3
   ·exact h s h3
   ·rw [h3];exact hw x (List.mem_cons_self ..)) (fun y hy=>hw y (List.mem_cons_of_mem _ hy))
theorem Zc1 {n:Nat} {x:Int×ByteArray} (h:wOk n x=true):(0<=x.1/\x.1<(n:Int))/\(x.2.size:Int)=64:=by
 have:=of_decide_eq_true h;omega
theorem jhU {ss:List ByteArray} {ws:List (Int×ByteArray)} (h1:8<=ss.length/\ss.length<=200/\ws.length<=300) (h2:∀ s∈ss,(s.size:Int)=64) (h3:∀ x∈ws,wOk ss.length x=true):vlG ss ws=true:=by
 unfold vlG;rw [Bool.and_eq_true,Bool.and_eq_true];exact ⟨⟨decide_eq_true h1,List.all_eq_true.2 fun s hs=>decide_eq_true (h2 s hs)⟩,List.all_eq_true.2 h3⟩
theorem ZO0 (d:List ByteArray×List (Int×ByteArray)) (o:Bool×Int×ByteArray) (h:vlG d.1 d.2=true):vlG (opD d o).1 (opD d o).2=true:=by
 obtain ⟨h1,h2,h3⟩:=q67 h;unfold opD
 split
 ·refine jhU ?_ (jIc _ _ h2 fun x hx=>(Zc1 (h3 x hx)).2) (fun x hx=>by simp at hx)
  show 8<=(xhE d.2 d.1).length/\(xhE d.2 d.1).length<=200/\0<=300;rw [yOJ];omega
 ·split
  ·rename_i hc
   refine jhU ?_ h2 (fun x hx=>?_)
   ·show 8<=d.1.length/\d.1.length<=200/\(d.2++[o.2]).length<=300
    rw [List.length_append];have:=hc.2;simp;omega
   ·rcases List.mem_append.1 hx with hx | hx
    ·exact h3 x hx
    ·rw [List.mem_singleton.1 hx];exact hc.1
  ·exact h
theorem jFC (x y:List Int) (hx:x.length=64) (hy:y.length=64):zcH 64 x y=x:=by
 unfold zcH;rw [List.take_of_length_le (by omega),List.drop_of_length_le (by omega),List.append_nil]
structure DV (w:World) (base X g n:Nat) (v:Value) (ps:List (List Int)) (hs:List (Int×List Int)):Prop where
 rx:Row w X [.slice (some ⟨g,0,none⟩) n n,v]
 pr:PR w g ps
 own:w.ownsRow base 101 65 v hs.length (qOX hs)
 nx:v.ownBlock≠some X
 ng:v.ownBlock≠some g
 xg:X≠g
 bx:base<=X
 bg:base<=g
theorem DV.below {w w':World} {base X g n:Nat} {v:Value} {ps:List (List Int)} {hs:List (Int×List Int)} (h:DV w base X g n v ps hs) (hb:Below w.heap.size w w'):DV w' base X g n v ps hs :=
 ⟨h.rx.below hb,h.pr.below hb,jcb h.own hb,h.nx,h.ng,h.xg,h.bx,h.bg⟩
theorem OwnS.hld {w:World} {a:Option Addr} {hs:List (Int×List Int)} (h:OwnS w a (qOX hs)) (hl:∀ p∈hs,p.2.length=64):Hld w a hs:=by
 rcases h with h | ⟨g,rfl,h2⟩
 ·refine .inl (List.eq_nil_of_length_eq_zero ?_)
  have:=congrArg List.length h;rw [Zqb hs hl,List.length_nil] at this;omega
 ·exact h2.hld hl
theorem JcP {ws:List (Int×ByteArray)} (h:∀ x∈ws,x.2.size=64):∀ p∈ZiU ws,p.2.length=64:=fun p hp=>by
 obtain ⟨x,hx,rfl⟩:=List.mem_map.1 hp;show (zFD x.2).length=64;rw [vgz,h x hx]
def cvs:List (Int×List Int)->List (List Int)->List (List Int)
 | [],ps=>ps
 | x::r,ps=>cvs r (ps.set x.1.toNat x.2)
theorem Qpj (ws:List (Int×ByteArray)):∀ (ss:List ByteArray),cvs (ZiU ws) (ss.map zFD)=(xhE ws ss).map zFD:=by
 induction ws with
 | nil=>intro ss;rfl
 | cons x r ih =>
  intro ss;have:=ih (ss.set x.1.toNat x.2);rw [List.map_set] at this;exact this
theorem DV.lay {w w':World} {base X g n:Nat} {v:Value} {ps aA:List (List Int)} {hs:List (Int×List Int)} (h:DV w base X g n v ps hs) (hg:w.grownBy w' (some g)) (hp:PR w' g aA):DV w' base X g n v aA hs :=
 ⟨h.rx.grown hg (fun e=>h.xg (by injection e)),hp,h.own.kept hg (.inr h.ng),h.nx,h.ng,h.xg,h.bx,h.bg⟩
set_option maxRecDepth 100000 in
theorem QWH (base X g n:Nat) (v:Value) (ps:List (List Int)) (hs:List (Int×List Int)) (w:World) (h:DV w base X g n v ps hs) (hn:ps.length=n) (aY:n<=200) (hl:hs.length<=300) (aW:∀ p∈hs,p.2.length=64) (aX:∀ p∈hs,0<=p.1/\p.1<(n:Int)) (aV:base<=w.heap.size) :
  Calls Tryz.prog 54 #[.pointer (some ⟨X,0,none⟩)] w fun e w'=>(∃ x,e=.returned x)/\DV w' base X g n (.slice none 0 0) (cvs hs ps) []/\Below base w w':=by
 obtain ⟨aG,aI⟩:∃ aG,Hid (aG=cvs hs ps):=⟨_,hid rfl⟩;rw [<-aI.out]
 obtain ⟨a2,c2,hv,bQ⟩:∃ a2 c2,v=.slice a2 hs.length c2/\(hs=[]\/∃ g2,a2=some ⟨g2,0,none⟩/\v.ownBlock=some g2):=by
  rcases yUO h.own with ⟨e,h0⟩ | ⟨g2,cap,e,h1,h2,hr⟩
  ·exact ⟨none,0,by rw [e,h0],.inl (List.eq_nil_of_length_eq_zero h0)⟩
  ·exact ⟨_,cap,e,.inr ⟨g2,rfl,by rw [e];rfl⟩⟩
 have q1:=h.rx.cell 1 _ rfl;rw [hv] at q1;go_enter Tryz.func54,Tryz.ntmps54;go_wp2;have HD:=hid h;have aK:=hid aW;have bI:=hid aX;clear h aW aX q1;go_loopw [3,9] (fun _ i wr=>∃ (k:Nat) (qs:List (List Int)),k<=hs.length/\i=.int .i64 k/\qs.length=n/\Hid (cvs (hs.drop k) qs=aG)/\DV wr base X g n v qs hs/\Below base w wr) (fun _ i _=>hs.length-(intOf i).toNat)
 case atStart=>exact ⟨0,ps,Nat.zero_le _,rfl,hn,by show _=_;rw [List.drop_zero,aI.out],HD.out,Below.refl _ _⟩
 case round =>
  clear HD;obtain ⟨k,qs,hk,rfl,aU,HK,aD,aB⟩:=hrel
  by_cases aQ:k<hs.length
  ·obtain ⟨b,bG,aC⟩:∃ b,a2=some ⟨b,0,none⟩/\Row wr b (qOX hs):=by
    rcases yUO aD.own with ⟨e,h0⟩ | ⟨g2,cap,e,h1,h2,hr⟩
    ·omega
    ·rw [hv] at e
     injection e with e1 e2 e3;exact ⟨g2,e1,hr⟩
   subst bG;obtain ⟨b',o,m0,x,he,bJ,aM,HX⟩:=(aC.hld aK.out).at (k:=k) aQ
   obtain ⟨rfl,rfl⟩:b=b'/\o=0:=by cases he;exact ⟨rfl,rfl⟩
   clear he aC;rw [Nat.zero_add] at aM;have aH:Hid ((m0,x)∈hs):=by show _∈_;rw [HX.out];simp [List.getD,aQ]
   have aO:x.length=64:=aK.out (m0,x) aH.out
   obtain ⟨m,rfl,hm⟩:∃ m:Nat,m0=(m:Int)/\m<n:=by
    have:=bI.out (m0,x) aH.out;exact ⟨m0.toNat,by simp at this;omega,by simp at this;omega⟩
   have aP:(Value.int .i64 (m:Int)::x.map (Value.int .u8)).length=65:=by simp [aO]
   have aE:Hid ((Tryz.prog.info? 101).map (·.size)=some (Value.int .i64 (m:Int)::x.map (Value.int .u8)).length):=by rw [aP];show _=_;kernel_rfl
   have aZ:=hid aP.symm;have bU:=vXi;have aA:=hid aD;clear aP aD
   go_wp2_with (first | (with_reducible refine kVP 101 _ rfl ?_;refine wpList_load_mid rfl 101 _ rfl b (k*65) rfl (Value.int .i64 (m:Int)::x.map (Value.int .u8)) _ aM Tryz.underlying101 rfl aE.out ?_) | (with_reducible refine kVP 101 _ rfl ?_;refine wpList_load_mid rfl 101 _ rfl wr.heap.size 0 rfl (Value.int .i64 (m:Int)::x.map (Value.int .u8)) _ aL.range Tryz.underlying101 rfl aE.out ?_) | (with_reducible refine JWC 101 _ _ rfl ?_;refine Xnw rfl 101 _ _ rfl (Value.int .i64 (m:Int)::x.map (Value.int .u8)) (qQs (m:Int) x) rfl rfl _ _ (by rw [<-aZ.out];kernel_rfl) aE.out ?_;intro wx aL aF bC) | (go_at_call 69;refine (zWx X g n n (.slice none 0 0) qs m x 64 _ ((aA.out.below aF).rx.cell 0 _ rfl) aA.out.xg (aA.out.below aF).pr aU hm aY (Nat.le_refl _) aO (Nat.le_refl _)).mono ?_;rintro e w4 ⟨rfl,aJ,aT⟩))
   have aS:=hid ((aA.out.below aF).lay aT aJ);have aN:=hid ((aB.trans (aF.mono (Nat.le_trans aV aB.size))).trans (jJX aT (Nat.le_trans aV (Nat.le_trans aB.size aF.size)) (fun k hk=>by cases hk;exact aA.out.bg)))
   have bH:Hid (cvs (hs.drop (k+1)) (qs.set m (zcH 64 x (qs.getD m [])))=aG):=by
    show _=_;rw [jFC x _ aO (yEE aA.out.pr.len (by omega)),<-HK.out,JGy hs k (0,[]) aQ,<-HX.out,cvs,Int.toNat_natCast]
   clear aT aJ aF aL aM bC;go_wp2;go_roundw
   case rel=>exact ⟨k+1,_,by omega,by go_num,by simp [aU],bH,aS.out,aN.out⟩
   case measure=>simp [intOf];omega
  ·have aR:Hid (qs=aG):=by
    have:=HK.out;rw [List.drop_of_length_le (by omega)] at this;exact this
   rw [aR.out] at aD;have aA:=hid aD;have q1:=aD.rx.cell 1 _ rfl;have f1:=aD.rx.froz 1 (by simp);clear aD;go_wp2;go_end0;refine ⟨⟨_,rfl⟩,⟨aA.out.rx.set 1 (by simp) _,aA.out.pr.other _ aA.out.xg _,World.ownsRow_nil _ _ _ _,by simp [Value.ownBlock],by simp [Value.ownBlock],aA.out.xg,aA.out.bx,aA.out.bg⟩,aB.setCell aA.out.bx _⟩
set_option maxRecDepth 100000 in
theorem xld (base X g n:Nat) (v:Value) (ss:List ByteArray) (ws:List (Int×ByteArray)) (aC:Int) (d:ByteArray) (w:World) (h:DV w base X g n v (ss.map zFD) (ZiU ws)) (hn:ss.length=n) (aD:vlG ss ws=true) (aB:base<=w.heap.size) :
  Calls Tryz.prog 34 #[.pointer (some ⟨X,0,none⟩),.agg #[.bool true,.int .i64 aC,.string d]] w fun e w'=>(∃ x,e=.returned x)/\DV w' base X g n (.slice none 0 0) ((xhE ws ss).map zFD) []/\Below base w w':=by
 obtain ⟨⟨aE,aF,aH⟩,aG,hw⟩:=q67 aD
 have aA:∀ o,Below w.heap.size w (w.alloc o):=fun o=>(Below.refl _ _).alloc (Nat.le_refl _) _
 have HS:=hid (fun (o:Obj)=>QWH base X g n v (ss.map zFD) (ZiU ws) (w.alloc o) (h.below (aA o)) (by simp [hn]) (by omega) (by rw [qOd];omega) (JcP (fun x hx=>by have:=(Zc1 (hw x hx)).2;omega)) (fun p hp=>by
  obtain ⟨x,hx,rfl⟩:=List.mem_map.1 hp;have:=(Zc1 (hw x hx)).1;rw [hn] at this
  exact this) (Nat.le_trans aB (aA o).size))
 go_enter Tryz.func34,Tryz.ntmps34;go_wp2_with (go_at_call 54;refine (HS.out _).mono ?_;rintro e w1 ⟨⟨x,rfl⟩,hd,hb⟩);go_end0;rw [Qpj] at hd;exact ⟨⟨_,rfl⟩,hd,((aA _).mono aB).trans hb⟩
set_option maxRecDepth 100000 in
theorem jKn (base X g n:Nat) (v:Value) (ss:List ByteArray) (ws:List (Int×ByteArray)) (aA:Int) (d:ByteArray) (w:World) (h:DV w base X g n v (ss.map zFD) (ZiU ws)) (hn:ss.length=n) (aF:vlG ss ws=true) (hd:d.size<=1048576) (aE:wOk ss.length (aA,d)=false\/¬ ws.length<300) (aD:base<=w.heap.size) :
  Calls Tryz.prog 34 #[.pointer (some ⟨X,0,none⟩),.agg #[.bool false,.int .i64 aA,.string d]] w fun e w'=>(∃ x,e=.returned x)/\DV w' base X g n v (ss.map zFD) (ZiU ws)/\Below base w w':=by
 obtain ⟨⟨aH,aJ,aM⟩,aL,hw⟩:=q67 aF
 have aC:∀ o,Below w.heap.size w (w.alloc o):=fun o=>(Below.refl _ _).alloc (Nat.le_refl _) _
 obtain ⟨av,cv,rfl⟩:∃ a c,v=.slice a ws.length c:=by
  rw [<-qOd];rcases yUO h.own with ⟨e,h0⟩ | ⟨g,c,e,_⟩
  ·exact ⟨_,_,by rw [e,h0]⟩
  ·exact ⟨_,_,e⟩
 have x0:=h.rx.cell 0 _ rfl;have x1:=h.rx.cell 1 _ rfl;have aI:=h.rx.lt;have HD:=hid h;subst hn
 have aB:∀ b,wOk ss.length (aA,d)=b->∀ w',Calls Tryz.prog 47 #[.int .i64 (ss.length:Int),.int .i64 aA,.string d] w' fun e aG=>e=.returned (.bool b)/\aG=w':=fun b hb w'=>by
  have:=k0F ss.length aA d w' hd (by omega);rw [hb] at this;exact this
 cases hc:wOk ss.length (aA,d) with
 | false =>
  go_enter Tryz.func34,Tryz.ntmps34;go_wp2_with fail;go_quiet ((go_at_call 47;exact Calls.quiet_of_same (aB false hc _)));go_wp2;go_end0;exact ⟨⟨_,rfl⟩,HD.out.below (below_drewN (aC _) _),(below_drewN (aC _) _).mono aD⟩
 | true =>
  have aK:(decide ((ws.length:Int)<300))=false:=by
   rcases aE with h1 | h1
   ·rw [hc] at h1;cases h1
   ·exact decide_eq_false (by omega)
  go_enter Tryz.func34,Tryz.ntmps34;go_wp2_with fail;go_quiet ((go_at_call 47;exact Calls.quiet_of_same (aB true hc _)));go_wp2;go_end0;exact ⟨⟨_,rfl⟩,HD.out.below (below_drewN (aC _) _),(below_drewN (aC _) _).mono aD⟩
section
def Xab (zs:List Int):Nat->List (Int×List Int)->List (List Int)->List (List Int)
 | _,[],ps=>ps
 | i,x::r,ps=>Xab zs (i+1) r (ps.set x.1.toNat (zcH (fate zs i) x.2 (ps.getD x.1.toNat [])))
theorem jjn (zs:List Int):∀ (hs:List (Int×List Int)) (i:Nat) (ps:List (List Int)),(Xab zs i hs ps).length=ps.length
 | [],_,_=>rfl
 | x::r,i,ps=>by rw [Xab,jjn zs r];simp
structure PLs (W w:World) (R X g:Nat) (xs:List Value) (a2:Option Addr) (hs:List (Int×List Int)) (ps:List (List Int)):Prop where
 bel:Below W.heap.size W w
 rr:Row w R [.slice none 0 0,.slice none 0 0]
 rx:Row w X xs
 pr:PR w g ps
 own:OwnS w a2 (qOX hs)
section
variable {W w w':World} {R X g:Nat} {xs:List Value} {a2:Option Addr} {hs:List (Int×List Int)} {ps ps':List (List Int)}
theorem PLs.below (h:PLs W w R X g xs a2 hs ps) (hb:Below w.heap.size w w'):PLs W w' R X g xs a2 hs ps :=
 ⟨h.bel.trans (hb.mono h.bel.size),h.rr.below hb,h.rx.below hb,h.pr.below hb,h.own.below hb⟩
theorem PLs.drew (h:PLs W w R X g xs a2 hs ps):PLs W w.drew R X g xs a2 hs ps:=h.below ((Below.refl _ _).drew)
theorem PLs.grown (h:PLs W w R X g xs a2 hs ps) (hg:w.grownBy w' (some g)) (hp:PR w' g ps') (h1:W.heap.size<=g) (h2:R≠g) (h3:X≠g) (h4:∀ b,a2=some ⟨b,0,none⟩->qOX hs≠[]->b≠g):PLs W w' R X g xs a2 hs ps' :=
 ⟨h.bel.trans (jJX hg h.bel.size (fun k hk=>by cases hk;exact h1)),h.rr.grown hg (fun e=>h2 (by injection e)),h.rx.grown hg (fun e=>h3 (by injection e)),hp,h.own.grown hg (fun b hb aA e=>h4 b hb aA (by injection e))⟩
end
end
section
theorem XA9 (p:ByteArray) (i j:Nat) (h:i<=j):zFD (p.extract i j)=((zFD p).take j).drop i:=by
 unfold zFD;rw [ByteArray.data_extract,Array.toList_extract];simp [List.map_drop,List.map_take,List.take_drop,Nat.add_sub_cancel' h]
theorem QzJ (F:Nat) (d t:ByteArray) (hF:F<=64) (hd:d.size=64) (ht:t.size=64):zFD (d.extract 0 F++t.extract F 64)=zcH F (zFD d) (zFD t):=by
 rw [Q5X,XA9 _ _ _ (Nat.zero_le _),XA9 _ _ _ hF,zcH,List.drop_zero];rw [List.take_of_length_le (l:=zFD t) (by rw [vgz];omega)]
theorem XLI (F:Nat) (d t:ByteArray) (hF:F<=64) (hd:d.size=64) (ht:t.size=64):(d.extract 0 F++t.extract F 64).size=64:=by
 rw [ByteArray.size_append,ByteArray.size_extract,ByteArray.size_extract];omega
structure PTs (W w:World) (R X g g' n n' c1 c1':Nat) (ws:List (Int×ByteArray)) (ts:List ByteArray):Prop where
 bel:Below W.heap.size W w
 rr:Row w R [.slice none 0 0,.slice none 0 0]
 rx:Row w X [.slice (some ⟨g,0,none⟩) n c1,.slice (some ⟨g',0,none⟩) n' c1']
 rs:Row w g (ts.map Value.string)
 own:OwnS w (some ⟨g',0,none⟩) (yaV ws)
section
variable {W w w':World} {R X g g' n n' c1 c1':Nat} {ws:List (Int×ByteArray)} {ts:List ByteArray}
theorem PTs.below (h:PTs W w R X g g' n n' c1 c1' ws ts) (hb:Below w.heap.size w w'):PTs W w' R X g g' n n' c1 c1' ws ts :=
 ⟨h.bel.trans (hb.mono h.bel.size),h.rr.below hb,h.rx.below hb,h.rs.below hb,h.own.below hb⟩
theorem PTs.drew (h:PTs W w R X g g' n n' c1 c1' ws ts):PTs W w.drew R X g g' n n' c1 c1' ws ts:=h.below ((Below.refl _ _).drew)
theorem PTs.set (h:PTs W w R X g g' n n' c1 c1' ws ts) (m:Nat) (hm:m<ts.length) (s:ByteArray) (h1:W.heap.size<=g) (h2:R≠g) (h3:X≠g) (h4:yaV ws≠[]->g'≠g):PTs W (w.setCell ⟨g,m,none⟩ (.string s)) R X g g' n n' c1 c1' ws (ts.set m s):=by
 refine ⟨h.bel.setCell h1 _,h.rr.other _ (fun e=>h2 e.symm) _,h.rx.other _ (fun e=>h3 e.symm) _,?_,?_⟩
 ·rw [List.map_set];exact h.rs.set m (by simpa using hm) _
 ·rcases h.own with ho | ⟨b,e,hr⟩
  ·exact .inl ho
  ·injection e with e;injection e with e
   by_cases hc:yaV ws=[]
   ·exact .inl hc
   ·exact .inr ⟨g',rfl,(e ▸ hr).other _ (fun e2=>h4 hc e2.symm) _⟩
end
set_option maxRecDepth 100000 in
theorem Xi5 (a:Option Addr) (ss:List ByteArray) (c:Nat) (a':Option Addr) (ws:List (Int×ByteArray)) (c':Nat) (f:Option Addr) (zs:List Int) (cf:Nat) (w:World) (h:Strs w a ss) (h':Wrs w a' ws) (hz:Ints w f zs) (eF:zs.length<=1048576) (bZ:vlG ss ws=true) :
  Calls Tryz.prog 80 #[Zoj a ss.length c a' ws.length c',.slice f zs.length cf] w fun e w'=>∃ a1 c1 cI c1',e=.returned (Zoj a1 ss.length c1 cI 0 c1')/\OwnD w' a1 (q95 (Xab zs 0 (ZiU ws) (ss.map zFD))) cI []/\(∀ g,blk a1 ss.length=some g->w.heap.size<=g)/\Below w.heap.size w w':=by
 obtain ⟨⟨dZ,cQ,dV⟩,aY,hw⟩:=q67 bZ
 have bY:∀ o1 o2,Below w.heap.size w ((w.alloc o1).alloc o2):=fun o1 o2=>((Below.refl _ _).alloc (Nat.le_refl _) _).alloc (by simp) _
 obtain ⟨aF,aH⟩:∃ aF,Hid (aF=Xab zs 0 (ZiU ws) (ss.map zFD)):=⟨_,hid rfl⟩;rw [<-aH.out];go_enter Tryz.func80,Tryz.ntmps80;go_wp2_with fail;refine (xpE a ss c a' ws c' _ (h.below (bY _ _)) (h'.below (bY _ _)) (by omega) (by omega) (fun s hs=>by have:=aY s hs;omega) (fun x hx=>by have:=of_decide_eq_true (hw x hx);omega)).mono ?_;rw [bZ];rintro e w1 ⟨rfl,aT⟩;have cJ:=(bY _ _).trans (aT.mono (by simp;omega));obtain ⟨q1,q2⟩:=y6s aT;have rR:=(kR4 (w.alloc (.cells #[.slice a ss.length c,.slice a' ws.length c'] 31)) #[.slice none 0 0,.slice none 0 0] 31 (w.heap.size+1) (by simp)).below aT;have bQ:=hid rR;have aJ:=hid cJ;clear rR aT cJ;go_wp2_with fail;refine (k4z a ss c a' ws c' _ (h.below aJ.out) (h'.below aJ.out) cQ dV).mono ?_;rintro e w2 ⟨g,c1,g',c1',rfl,aS,hg,cT,aW⟩;clear q1 q2;go_wp2;have aC:ss.length≠0:=by omega
 have cH:w1.heap.size<=g:=hg g (by unfold blk;rw [if_neg aC];rfl);have dN:=bQ.out.lt
 have aX:Row w2 g (ss.map Value.string):=by
  rcases aS.s with e | ⟨b,e,hr⟩
  ·exact absurd (congrArg List.length e) (by rw [List.length_map,List.length_nil];omega)
  ·cases e;exact hr
 have eC:=aX.lt
 have cN:yaV ws≠[]->g'≠g:=fun hc=>by
  have hl:ws.length≠0:=fun e=>hc (by rw [List.eq_nil_of_length_eq_zero e];rfl)
  rcases aS.ne with e | e | e
  ·unfold blk at e;rw [if_neg aC] at e;exact absurd e (by simp)
  ·unfold blk at e;rw [if_neg hl] at e;exact absurd e (by simp)
  ·unfold blk at e;rw [if_neg aC,if_neg hl] at e;exact fun e2=>e (by rw [e2])
 have aA:PTs w (w2.alloc (.cells #[.slice (some ⟨g,0,none⟩) ss.length c1,.slice (some ⟨g',0,none⟩) ws.length c1'] 31)) (w.heap.size+1) w2.heap.size g g' ss.length ws.length c1 c1' ws ss :=
  ⟨Below.then (Below.then aJ.out (Nat.le_refl _) aW) (Nat.le_refl _) (zE5 _ _),(bQ.out.below aW).alloc _,xER _ _ _,aX.alloc _,aS.p.below (zE5 _ _)⟩
 have b8:=hid aA;have HW:=hid hw;have dJ:=hid aY;have cW:=hid cN;have cE:w.heap.size<=g:=Nat.le_trans aJ.out.size cH;have aZ:w.heap.size+1≠g:=by omega
 have cO:w2.heap.size≠g:=by omega
 have eJ:w.heap.size+1<w2.heap.size:=by have:=aW.size;omega
 clear aA aS hg cT aW aX cN hw aY bQ aJ cH dN;go_loopw [6,7,8] (fun i _ _ wr=>∃ (k:Nat) (ts:List ByteArray),k<=ws.length/\i=.int .i64 k/\ts.length=ss.length/\Hid (∀ s∈ts,s.size=64)/\Hid (Xab zs k ((ZiU ws).drop k) (ts.map zFD)=aF)/\PTs w wr (w.heap.size+1) w2.heap.size g g' ss.length ws.length c1 c1' ws ts) (fun i _ _ _=>ws.length-(intOf i).toNat)
 case atStart=>exact ⟨0,ss,Nat.zero_le _,rfl,rfl,hid (fun s hs=>by have:=dJ.out s hs;omega),by show _=_;rw [List.drop_zero,aH.out],b8.out⟩
 case round =>
  clear b8;obtain ⟨k,ts,hk,rfl,aD,aK,HK,aA⟩:=hrel
  by_cases aV:k<ws.length
  ·obtain ⟨b,o,m0,d,he,cC,cK,HX⟩:=aA.own.wrs.at aV
   obtain ⟨rfl,rfl⟩:g'=b/\o=0:=by cases he;exact ⟨rfl,rfl⟩
   rw [Nat.zero_add] at cC cK;clear he;have aG:(m0,d)∈ws:=by rw [HX.out];simp [List.getD,aV]
   have aI:=of_decide_eq_true (HW.out (m0,d) aG);obtain ⟨m,rfl,hm⟩:∃ m:Nat,m0=(m:Int)/\m<ss.length:=⟨m0.toNat,by have:=aI.1;omega,by have:=aI.2.1;have:=aI.1;simp at *;omega⟩;have aR:d.size=64:=by have:=aI.2.2;simp at this;omega
   have b7:=aA.rs.cell m (.string (ts.getD m ByteArray.empty)) (by simp [List.getD,aD,hm]);have aE:(ts.getD m ByteArray.empty).size=64:=aK.out _ (by simp [List.getD,aD,hm]);have cP:=aA.rs.froz m (by simp [aD,hm]);obtain ⟨t,bI⟩:∃ t,Hid (t=ts.getD m ByteArray.empty):=⟨_,hid rfl⟩;rw [<-bI.out] at b7 aE;have x0:=aA.rx.cell 0 _ rfl;have x1:=aA.rx.cell 1 _ rfl;have dQ:=aA.rx.lt;have eH:=aA.rs.lt;have aL:=zrd zs k;have aU:=hid aA;have HZ:=hid (hz.below aA.bel);clear aA aG aI;obtain ⟨F,hF⟩:∃ F:Nat,F=fate zs k:=⟨_,rfl⟩;have cZ:F<=64:=by rw [hF];exact zrd zs k
   obtain ⟨zv,bG⟩:∃ zv:Int,zv=if k<zs.length then zs.getD k 0 else 0:=⟨_,rfl⟩;obtain ⟨z1,bW⟩:∃ z1:Int,z1=if zv<0 then 0 else zv:=⟨_,rfl⟩
   have cF:(F:Int)=if 64<z1 then 64 else z1:=by
    rw [hF,bW,bG];unfold fate
    by_cases h1:k<zs.length
    ·rw [if_pos h1,if_pos h1]
     by_cases h2:zs.getD k 0<0
     ·rw [if_pos h2,if_pos h2];rfl
     ·rw [if_neg h2,if_neg h2]
      by_cases h3:64<zs.getD k 0
      ·rw [if_pos h3,if_pos h3];rfl
      ·rw [if_neg h3,if_neg h3];omega
    ·rw [if_neg h1,if_neg h1];rfl
   have HF:=hid hF.symm;have cM:=hid bG;have dK:=hid bW;have cS:=hid cF;clear hF bG bW cF aL;go_upto_if 25 with fail;go_cut [7] from 22 to 29 (fun kv wx=>kv=.int .i64 zv/\wr=wx)
   case first =>
    by_cases bC:k<zs.length
    ·have e:=cM.out
     rw [if_pos bC] at e;obtain ⟨bz,oz,z,rfl,eB,dY,dE⟩:=HZ.out.at bC;obtain rfl:zv=z:=by rw [e];exact dE.out.symm
     clear e;have dM:(k:Int)<(zs.length:Int):=by omega
     have eG:¬ ((zs.length:Int)<=(k:Int)):=by omega
     go_wp2_with fail;go_meet;exact ⟨rfl,rfl⟩
    ·have e:=cM.out
     rw [if_neg bC] at e;subst e;have dM:¬ ((k:Int)<(zs.length:Int)):=by omega
     go_wp2_with fail;go_meet;exact ⟨rfl,rfl⟩
   case rest =>
   obtain ⟨rfl,rfl⟩:=hcut;go_upto_if 31 with fail;go_cut [7] from 30 to 31 (fun kv wx=>kv=.int .i64 z1/\wr=wx)
   case first =>
    have e:=dK.out
    by_cases aN:zv<0
    ·rw [if_pos aN] at e
     subst e;go_wp2_with fail;go_meet;exact ⟨rfl,rfl⟩
    ·rw [if_neg aN] at e
     subst e;go_wp2_with fail;go_meet;exact ⟨rfl,rfl⟩
   case rest =>
   obtain ⟨rfl,rfl⟩:=hcut;go_upto_if 33 with fail;go_cut [7] from 32 to 33 (fun kv wx=>kv=.int .i64 (F:Int)/\wr=wx)
   case first =>
    have e:=cS.out
    by_cases aM:64<z1
    ·rw [if_pos aM] at e
     obtain rfl:F=64:=by omega
     go_wp2_with fail;go_meet;exact ⟨rfl,rfl⟩
    ·rw [if_neg aM] at e
     subst e;go_wp2_with fail;go_meet;exact ⟨rfl,rfl⟩
   case rest =>
   obtain ⟨rfl,rfl⟩:=hcut;go_wp2_with fail;have hq:=aU.out.below (zE5 wr (.cells #[.int .i64 (m:Int),.string d] 97));have hy:=Cx.new wr (.int .i64 (m:Int)) (.string d) 97;obtain ⟨wq,bJ⟩:∃ wq,wq=wr.alloc (.cells #[.int .i64 (m:Int),.string d] 97):=⟨_,rfl⟩;rw [<-bJ] at hq hy ⊢;have eI:wr.heap.size<wq.heap.size:=by rw [bJ];simp
   have eL:g≠wr.heap.size:=by omega
   have aP:=hq.rs.cell m (.string t) (by rw [bI.out];simp [List.getD,aD,hm]);have aO:=hq.rs.froz m (by simp [aD,hm]);have HQ:=hid hq;have HY:=hid hy;have cL:=hid aP;have dU:=hid aO;clear hq hy aP aO b7 cP x0 x1 cC cK bJ;refine wp_region_held_drew (S:=fun w'=>w'.cell? ⟨w2.heap.size,0,none⟩=some (.slice (some ⟨g,0,none⟩) ss.length c1)/\w'.cell? ⟨wr.heap.size,0,none⟩=some (.int .i64 (m:Int))/\w'.cell? ⟨wr.heap.size,1,none⟩=some (.string d)) (by kernel_rfl) ⟨HQ.out.rx.cell 0 _ rfl,HY.out.c0,HY.out.c1⟩ (fun aB=>?_);refine TZ 0 (.pointer (some ⟨w2.heap.size,0,none⟩)) rfl aB (TZ 1 (.slice (some ⟨g,0,none⟩) ss.length c1) rfl aB (TZ 2 (.pointer (some ⟨wr.heap.size,0,none⟩)) rfl aB (TZ 3 (.int .i64 (m:Int)) rfl aB (TZ 4 (.pointer (some ⟨wr.heap.size,1,none⟩)) rfl aB (TZ 5 (.string d) rfl aB (TZ 6 (.int .i64 (F:Int)) rfl aB (TZ 7 (.string (d.extract 0 F)) rfl aB (TZ 8 (.pointer (some ⟨w2.heap.size,0,none⟩)) rfl aB (TZ 9 (.slice (some ⟨g,0,none⟩) ss.length c1) rfl aB (TZ 10 (.pointer (some ⟨wr.heap.size,0,none⟩)) rfl aB (TZ 11 (.int .i64 (m:Int)) rfl aB ?_)))))))))))
   simp only [PS];refine TZ 12 (.pointer (some ⟨g,m,none⟩)) rfl aB (TZ 14 (.int .i64 (F:Int)) rfl aB ?_);simp only [PS];refine RD 13 rfl (fun K hK=>?_);have bV:=cL.out;go_simp;clear bV;refine hK.out _ _ aB (fun _=>?_);clear hK K;refine TZ 15 (.string (t.extract F t.size)) rfl aB (TZ 16 (.string (d.extract 0 F++t.extract F t.size)) rfl aB (TZ 17 (.pointer (some ⟨g,m,none⟩)) rfl aB ?_));simp only [PS];refine RD 18 rfl (fun K hK=>?_);have bV:=cL.out;have cY:=dU.out;go_simp;clear bV cY;refine hK.out _ _ ⟨(World.cell?_setCell_far _ _ _ _ (by show g≠w2.heap.size;omega)).trans aB.1,(World.cell?_setCell_far _ _ _ _ (by show g≠wr.heap.size;omega)).trans aB.2.1,(World.cell?_setCell_far _ _ _ _ (by show g≠wr.heap.size;omega)).trans aB.2.2⟩ (fun _=>?_);clear hK K;refine DN ?_;have hV:d.extract 0 F++t.extract F 64=d.extract 0 F++t.extract F 64:=by rfl
   have aQ:=HQ.out.drew.set m (by omega) (d.extract 0 F++t.extract F 64) cE aZ cO cW.out;have bH:=hid aQ
   have dR:Hid (Xab zs (k+1) ((ZiU ws).drop (k+1)) ((ts.set m (d.extract 0 F++t.extract F 64)).map zFD)=aF):=by
    show _=_;rw [hV];have dH:fate zs k=F:=HF.out
    have dI:(ZiU ws).drop k=((m:Int),zFD d)::(ZiU ws).drop (k+1):=by
     rw [JGy (ZiU ws) k (0,[]) (by rw [qOd];exact aV)]
     have cU:(ZiU ws).getD k (0,[])=((m:Int),zFD d):=by
      have e:=HX.out;simp [ZiU,List.getD,aV] at e ⊢;rw [<-e];exact ⟨rfl,rfl⟩
     rw [cU]
    rw [<-HK.out,dI,Xab,Int.toNat_natCast,dH,List.map_set,QzJ F d t (by omega) aR aE]
    congr 2
    rw [bI.out];simp [List.getD,aD,hm]
   have dO:Hid (∀ s∈ts.set m (d.extract 0 F++t.extract F 64),s.size=64):=fun s hs=>by
    rw [hV] at hs;rcases List.mem_or_eq_of_mem_set hs with h1 | h1
    ·exact aK.out s h1
    ·rw [h1];exact XLI F d t (by omega) aR aE
   clear aQ aB hV;go_wp2;go_roundw
   case rel=>exact ⟨k+1,_,by omega,by go_num,by simp [aD],dO,dR,bH.out⟩
   case measure=>simp [intOf];omega
  ·have bU:Hid (ts=q95 aF):=by
    have:=HK.out;rw [List.drop_of_length_le (by rw [qOd];omega)] at this;show _=_;rw [<-this];show ts=(ts.map zFD).map strOfNums;rw [List.map_map];exact (List.map_id'' (fun s=>ZXs s) ts).symm
   rw [bU.out] at aA;have aU:=hid aA;have q0:=aA.rx.cell 0 _ rfl;have q1:=aA.rx.cell 1 _ rfl;have f1:=aA.rx.froz 1 (by simp);have r0:=aA.rr.cell 0 _ rfl;have r1:=aA.rr.cell 1 _ rfl;obtain ⟨eD,eK⟩:=aA.rr.z2;have dQ:=aA.rx.lt;have dL:=aA.rr.lt;have n1:w2.heap.size≠w.heap.size+1:=by omega
   clear aA;go_wp2;have cV:wr.heap.size≠w.heap.size+1:=by omega
   refine bodyPost_ret (v:=Zoj (some ⟨g,0,none⟩) ss.length c1 (some ⟨wr.heap.size,0,none⟩) 0 0) (by simp [results,Tryz.results80,go_sem,r0,r1,n1,cV,dL]) rfl ⟨_,_,_,_,rfl,⟨.inr ⟨g,rfl,?_⟩,.inl rfl,.inr (.inl rfl)⟩,fun k hk=>?_,?_⟩
   ·exact ((((aU.out.rs.other _ (by show w2.heap.size≠g;exact cO) _).other _ (by show w.heap.size+1≠g;exact aZ) _).other _ (by show w.heap.size+1≠g;exact aZ) _)).alloc _
   ·unfold blk at hk
    rw [if_neg aC] at hk
    cases hk
    exact cE
   ·exact (((aU.out.bel.setCell (by show w.heap.size<=w2.heap.size;omega) _).setCell (by show w.heap.size<=w.heap.size+1;omega) _).setCell (by show w.heap.size<=w.heap.size+1;omega) _).alloc (by simp;omega) _
end
def qDE (zs:List Int):List Value:=zs.map (Value.int .i64)
theorem Row.ints {w:World} {g:Nat} {zs:List Int} (h:Row w g (qDE zs)):Ints w (some ⟨g,0,none⟩) zs :=
 .inr ⟨g,0,rfl,h.lt,fun i hi=>by rw [Nat.zero_add];exact h.cell i _ (by simp [qDE,List.getD,hi])⟩
theorem JaL (a:Option Addr) (ss:List ByteArray) (c:Nat) (a':Option Addr) (ws:List (Int×ByteArray)) (c':Nat) (v:Value) (w:World) (h:Strs w a ss) (h':Wrs w a' ws) (hl:ss.length<=1048576) (aE:ws.length<=1048576) (hs:∀ s∈ss,s.size<=1048576) (aF:∀ x∈ws,x.2.size<=1048576) (aC:vlG ss ws=false) :
  Calls Tryz.prog 80 #[Zoj a ss.length c a' ws.length c',v] w fun e w'=>e=.returned (Zoj none 0 0 none 0 0)/\Below w.heap.size w w':=by
 have aB:∀ o1 o2,Below w.heap.size w ((w.alloc o1).alloc o2):=fun o1 o2=>((Below.refl _ _).alloc (Nat.le_refl _) _).alloc (by simp) _
 go_enter Tryz.func80,Tryz.ntmps80;go_wp2_with fail;refine (xpE a ss c a' ws c' _ (h.below (aB _ _)) (h'.below (aB _ _)) hl aE hs aF).mono ?_;rw [aC];rintro e w1 ⟨rfl,aA⟩;have aD:=hid ((aB _ _).trans (aA.mono (by simp;omega)));have rR:=(kR4 (w.alloc (.cells #[.slice a ss.length c,.slice a' ws.length c'] 31)) #[.slice none 0 0,.slice none 0 0] 31 (w.heap.size+1) (by simp)).below aA;have r0:=rR.cell 0 _ rfl;have r1:=rR.cell 1 _ rfl;obtain ⟨aG,aH⟩:=rR.z2;clear rR aA;go_wp2;exact bodyPost_ret (v:=Zoj none 0 0 none 0 0) (by simp [results,Tryz.results80,go_sem,r0,r1]) rfl ⟨rfl,(aD.out.setCell (by show w.heap.size<=w.heap.size+1;omega) _).setCell (by show w.heap.size<=w.heap.size+1;omega) _⟩
def jYf (zs:List Int) (ss:List ByteArray) (ws:List (Int×ByteArray)):List ByteArray:=if vlG ss ws=true then q95 (Xab zs 0 (ZiU ws) (ss.map zFD)) else []
theorem jhD (a:Option Addr) (ss:List ByteArray) (c:Nat) (a':Option Addr) (ws:List (Int×ByteArray)) (c':Nat) (f:Option Addr) (zs:List Int) (cf:Nat) (w:World) (h:Strs w a ss) (h':Wrs w a' ws) (hz:Ints w f zs) (aD:zs.length<=1048576) (hl:ss.length<=1048576) (aE:ws.length<=1048576) (hs:∀ s∈ss,s.size<=1048576) (aC:∀ x∈ws,x.2.size<=1048576) :
  Calls Tryz.prog 80 #[Zoj a ss.length c a' ws.length c',.slice f zs.length cf] w fun e w'=>∃ a1 c1 aB c1',e=.returned (Zoj a1 (jYf zs ss ws).length c1 aB 0 c1')/\OwnS w' a1 ((jYf zs ss ws).map Value.string)/\(∀ g,blk a1 (jYf zs ss ws).length=some g->w.heap.size<=g)/\Below w.heap.size w w':=by
 by_cases aA:vlG ss ws=true
 ·have e1:jYf zs ss ws=q95 (Xab zs 0 (ZiU ws) (ss.map zFD)):=by simp [jYf,aA]
  have e2:(jYf zs ss ws).length=ss.length:=by rw [e1];simp [q95,jjn]
  refine (Xi5 a ss c a' ws c' f zs cf w h h' hz aD aA).mono ?_;rintro e w' ⟨a1,c1,aB,c1',rfl,ho,hg,hb⟩;rw [e2];exact ⟨a1,c1,aB,c1',rfl,by rw [e1];exact ho.s,hg,hb⟩
 ·have e1:jYf zs ss ws=[]:=by simp [jYf,aA]
  rw [e1];refine (JaL a ss c a' ws c' _ w h h' hl aE hs aC (by simpa using aA)).mono ?_;rintro e w' ⟨rfl,hb⟩;exact ⟨none,0,none,0,rfl,.inl rfl,(fun g hg=>by cases hg),hb⟩
end Go.Proofs.YtcdojnnkjeakmaaGreatDoor
