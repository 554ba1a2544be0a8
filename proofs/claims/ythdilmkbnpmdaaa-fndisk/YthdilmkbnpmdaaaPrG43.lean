import Derived.Test.YthdilmkbnpmdaaaPrDrvOf
import Derived.Test.YthdilmkbnpmdaaaPrG52
import Derived.Test.YthdilmkbnpmdaaaPrG37
import Derived.Test.YthdilmkbnpmdaaaPrFate
set_option maxHeartbeats 16000000
set_option maxRecDepth 8000
set_option linter.unusedVariables false
set_option linter.unusedSimpArgs false
namespace Go.Proofs.Ythdilmkbnpmdaaa
open Go.RowKit
def opD (d:List ByteArray×List (Int×ByteArray)) (o:Bool×Int×ByteArray):List ByteArray×List (Int×ByteArray) :=
 if o.1=true then (syncs d.2 d.1,[]) else if wOk d.1.length o.2=true/\d.2.length<300 then (d.1,d.2++[o.2]) else d
def opsD:List (Bool×Int×ByteArray)->List ByteArray×List (Int×ByteArray)->List ByteArray×List (Int×ByteArray)
 | [],d=>d
 | o::r,d=>opsD r (opD d o)
theorem opD_sync (d:List ByteArray×List (Int×ByteArray)) (x:Int×ByteArray):opD d (true,x)=(syncs d.2 d.1,[]):=by simp [opD]
theorem opD_yes (d:List ByteArray×List (Int×ByteArray)) (x:Int×ByteArray) (h:wOk d.1.length x=true) (h2:d.2.length<300):opD d (false,x)=(d.1,d.2++[x]):=by simp [opD,h,h2]
theorem opD_no (d:List ByteArray×List (Int×ByteArray)) (x:Int×ByteArray) (h:wOk d.1.length x=false\/¬ d.2.length<300):opD d (false,x)=d:=by
 unfold opD
 rw [if_neg (by simp),if_neg]
 rintro ⟨h1,h2⟩
 rcases h with h | h
 ·rw [h] at h1;cases h1
 ·exact h h2
theorem opD_len (d:List ByteArray×List (Int×ByteArray)) (o:Bool×Int×ByteArray):(opD d o).1.length=d.1.length:=by
 unfold opD
 split
 ·exact syncs_length _ _
 ·split<;>rfl
theorem syncs_64:∀ (ws:List (Int×ByteArray)) (ss:List ByteArray),(∀ s∈ss,(s.size:Int)=64)->(∀ x∈ws,(x.2.size:Int)=64)->∀ s∈syncs ws ss,(s.size:Int)=64
 | [],ss,h,_=>h
 | x::r,ss,h,hw=>syncs_64 r _ (fun s hs=>by
   rcases List.mem_or_eq_of_mem_set hs with h3 | h3
   ·exact h s h3
   ·rw [h3];exact hw x (List.mem_cons_self ..)) (fun y hy=>hw y (List.mem_cons_of_mem _ hy))
theorem wOk_64 {n:Nat} {x:Int×ByteArray} (h:wOk n x=true):(0<=x.1/\x.1<(n:Int))/\(x.2.size:Int)=64:=by
 have:=of_decide_eq_true h
 omega
theorem diskOk_mk {ss:List ByteArray} {ws:List (Int×ByteArray)} (h1:8<=ss.length/\ss.length<=200/\ws.length<=300) (h2:∀ s∈ss,(s.size:Int)=64) (h3:∀ x∈ws,wOk ss.length x=true):diskOk ss ws=true:=by
 unfold diskOk
 rw [Bool.and_eq_true,Bool.and_eq_true]
 exact ⟨⟨decide_eq_true h1,List.all_eq_true.2 fun s hs=>decide_eq_true (h2 s hs)⟩,List.all_eq_true.2 h3⟩
theorem opD_ok (d:List ByteArray×List (Int×ByteArray)) (o:Bool×Int×ByteArray) (h:diskOk d.1 d.2=true):diskOk (opD d o).1 (opD d o).2=true:=by
 obtain ⟨h1,h2,h3⟩:=diskOk_of h
 unfold opD
 split
 ·refine diskOk_mk ?_ (syncs_64 _ _ h2 fun x hx=>(wOk_64 (h3 x hx)).2) (fun x hx=>by simp at hx)
  show 8<=(syncs d.2 d.1).length/\(syncs d.2 d.1).length<=200/\0<=300
  rw [syncs_length];omega
 ·split
  ·rename_i hc
   refine diskOk_mk ?_ h2 (fun x hx=>?_)
   ·show 8<=d.1.length/\d.1.length<=200/\(d.2++[o.2]).length<=300
    rw [List.length_append];have:=hc.2;simp;omega
   ·rcases List.mem_append.1 hx with hx | hx
    ·exact h3 x hx
    ·rw [List.mem_singleton.1 hx];exact hc.1
  ·exact h
theorem torn_all (x y:List Int) (hx:x.length=64) (hy:y.length=64):torn 64 x y=x:=by
 unfold torn
 rw [List.take_of_length_le (by omega),List.drop_of_length_le (by omega),List.append_nil]
structure DV (w:World) (base X g n:Nat) (v:Value) (ps:List (List Int)) (hs:List (Int×List Int)):Prop where
 rx:Row w X [.slice (some ⟨g,0,none⟩) n n,v]
 pr:PR w g ps
 own:w.ownsRow base 63 65 v hs.length (hcells hs)
 nx:v.ownBlock≠some X
 ng:v.ownBlock≠some g
 xg:X≠g
 bx:base<=X
 bg:base<=g
theorem DV.below {w w':World} {base X g n:Nat} {v:Value} {ps:List (List Int)} {hs:List (Int×List Int)} (h:DV w base X g n v ps hs) (hb:Below w.heap.size w w'):DV w' base X g n v ps hs :=
 ⟨h.rx.below hb,h.pr.below hb,owns_below h.own hb,h.nx,h.ng,h.xg,h.bx,h.bg⟩
theorem OwnS.hld {w:World} {a:Option Addr} {hs:List (Int×List Int)} (h:OwnS w a (hcells hs)) (hl:∀ p∈hs,p.2.length=64):Hld w a hs:=by
 rcases h with h | ⟨g,rfl,h2⟩
 ·refine .inl (List.eq_nil_of_length_eq_zero ?_)
  have:=congrArg List.length h
  rw [hcells_length hs hl,List.length_nil] at this;omega
 ·exact h2.hld hl
theorem hsOf_64 {ws:List (Int×ByteArray)} (h:∀ x∈ws,x.2.size=64):∀ p∈hsOf ws,p.2.length=64:=fun p hp=>by
 obtain ⟨x,hx,rfl⟩:=List.mem_map.1 hp
 show (nums x.2).length=64
 rw [nums_length,h x hx]
def cvs:List (Int×List Int)->List (List Int)->List (List Int)
 | [],ps=>ps
 | x::r,ps=>cvs r (ps.set x.1.toNat x.2)
theorem cvs_set (ws:List (Int×ByteArray)):∀ (ss:List ByteArray),cvs (hsOf ws) (ss.map nums)=(syncs ws ss).map nums:=by
 induction ws with
 | nil=>intro ss;rfl
 | cons x r ih =>
  intro ss
  have:=ih (ss.set x.1.toNat x.2)
  rw [List.map_set] at this
  exact this
theorem DV.lay {w w':World} {base X g n:Nat} {v:Value} {ps ps':List (List Int)} {hs:List (Int×List Int)} (h:DV w base X g n v ps hs) (hg:w.grownBy w' (some g)) (hp:PR w' g ps'):DV w' base X g n v ps' hs :=
 ⟨h.rx.grown hg (fun e=>h.xg (by injection e)),hp,h.own.kept hg (.inr h.ng),h.nx,h.ng,h.xg,h.bx,h.bg⟩
set_option maxRecDepth 100000 in
theorem sync_d (base X g n:Nat) (v:Value) (ps:List (List Int)) (hs:List (Int×List Int)) (w:World) (h:DV w base X g n v ps hs) (hn:ps.length=n) (hn2:n<=200) (hl:hs.length<=300) (h64:∀ p∈hs,p.2.length=64) (hat:∀ p∈hs,0<=p.1/\p.1<(n:Int)) (hbw:base<=w.heap.size) :
  Calls Try.prog 34 #[.pointer (some ⟨X,0,none⟩)] w fun e w'=>(∃ x,e=.returned x)/\DV w' base X g n (.slice none 0 0) (cvs hs ps) []/\Below base w w':=by
 obtain ⟨RES,HRES⟩:∃ RES,Hid (RES=cvs hs ps):=⟨_,hid rfl⟩
 rw [<-HRES.out]
 obtain ⟨a2,c2,hv,ho2⟩:∃ a2 c2,v=.slice a2 hs.length c2/\(hs=[]\/∃ g2,a2=some ⟨g2,0,none⟩/\v.ownBlock=some g2):=by
  rcases owns_forms h.own with ⟨e,h0⟩ | ⟨g2,cap,e,h1,h2,hr⟩
  ·exact ⟨none,0,by rw [e,h0],.inl (List.eq_nil_of_length_eq_zero h0)⟩
  ·exact ⟨_,cap,e,.inr ⟨g2,rfl,by rw [e];rfl⟩⟩
 have q1:=h.rx.cell 1 _ rfl
 rw [hv] at q1
 go_enter Try.func34,Try.ntmps34
 go_wp2
 have HD:=hid h
 have HH64:=hid h64
 have HAT:=hid hat
 clear h h64 hat q1
 go_loopw [3,9] (fun _ i wr=>∃ (k:Nat) (qs:List (List Int)),k<=hs.length/\i=.int .i64 k/\qs.length=n/\Hid (cvs (hs.drop k) qs=RES)/\DV wr base X g n v qs hs/\Below base w wr) (fun _ i _=>hs.length-(intOf i).toNat)
 case atStart=>exact ⟨0,ps,Nat.zero_le _,rfl,hn,by show _=_;rw [List.drop_zero,HRES.out],HD.out,Below.refl _ _⟩
 case round =>
  clear HD
  obtain ⟨k,qs,hk,rfl,hql,HK,hst,hbel⟩:=hrel
  by_cases hlt:k<hs.length
  ·obtain ⟨b,hb2,hrow0⟩:∃ b,a2=some ⟨b,0,none⟩/\Row wr b (hcells hs):=by
    rcases owns_forms hst.own with ⟨e,h0⟩ | ⟨g2,cap,e,h1,h2,hr⟩
    ·omega
    ·rw [hv] at e
     injection e with e1 e2 e3
     exact ⟨g2,e1,hr⟩
   subst hb2
   obtain ⟨b',o,m0,x,he,hlb,hrg,HX⟩:=(hrow0.hld HH64.out).at (k:=k) hlt
   obtain ⟨rfl,rfl⟩:b=b'/\o=0:=by cases he;exact ⟨rfl,rfl⟩
   clear he hrow0
   rw [Nat.zero_add] at hrg
   have hmem:Hid ((m0,x)∈hs):=by show _∈_;rw [HX.out];simp [List.getD,hlt]
   have hxl:x.length=64:=HH64.out (m0,x) hmem.out
   obtain ⟨m,rfl,hm⟩:∃ m:Nat,m0=(m:Int)/\m<n:=by
    have:=HAT.out (m0,x) hmem.out
    exact ⟨m0.toNat,by simp at this;omega,by simp at this;omega⟩
   have hxm:(Value.int .i64 (m:Int)::x.map (Value.int .u8)).length=65:=by simp [hxl]
   have HI65:Hid ((Try.prog.info? 63).map (·.size)=some (Value.int .i64 (m:Int)::x.map (Value.int .u8)).length):=by rw [hxm];show _=_;kernel_rfl
   have HXM:=hid hxm.symm
   have hzh:=zeroHeld
   have HSR:=hid hst
   clear hxm hst
   go_wp2_with (first | (with_reducible refine at_load 63 _ rfl ?_;refine wpList_load_mid rfl 63 _ rfl b (k*65) rfl (Value.int .i64 (m:Int)::x.map (Value.int .u8)) _ hrg Try.underlying63 rfl HI65.out ?_) | (with_reducible refine at_load 63 _ rfl ?_;refine wpList_load_mid rfl 63 _ rfl wr.heap.size 0 rfl (Value.int .i64 (m:Int)::x.map (Value.int .u8)) _ hrow.range Try.underlying63 rfl HI65.out ?_) | (with_reducible refine at_store 63 _ _ rfl ?_;refine wpList_store_cells rfl 63 _ _ rfl (Value.int .i64 (m:Int)::x.map (Value.int .u8)) (held_one (m:Int) x) rfl rfl _ _ (by rw [<-HXM.out];kernel_rfl) HI65.out ?_;intro wx hrow hbx hsx) | (go_at_call 26;refine (lay_i X g n n (.slice none 0 0) qs m x 64 _ ((HSR.out.below hbx).rx.cell 0 _ rfl) HSR.out.xg (HSR.out.below hbx).pr hql hm hn2 (Nat.le_refl _) hxl (Nat.le_refl _)).mono ?_;rintro e w4 ⟨rfl,hpr4,hgr⟩))
   have HST':=hid ((HSR.out.below hbx).lay hgr hpr4)
   have HBE':=hid ((hbel.trans (hbx.mono (Nat.le_trans hbw hbel.size))).trans (grown_below hgr (Nat.le_trans hbw (Nat.le_trans hbel.size hbx.size)) (fun k hk=>by cases hk;exact HSR.out.bg)))
   have HK':Hid (cvs (hs.drop (k+1)) (qs.set m (torn 64 x (qs.getD m [])))=RES):=by
    show _=_
    rw [torn_all x _ hxl (getD_len HSR.out.pr.len (by omega)),<-HK.out,drop_at hs k (0,[]) hlt,<-HX.out,cvs,Int.toNat_natCast]
   clear hgr hpr4 hbx hrow hrg hsx
   go_wp2
   go_roundw
   case rel=>exact ⟨k+1,_,by omega,by go_num,by simp [hql],HK',HST'.out,HBE'.out⟩
   case measure=>simp [intOf];omega
  ·have hres:Hid (qs=RES):=by
    have:=HK.out
    rw [List.drop_of_length_le (by omega)] at this
    exact this
   rw [hres.out] at hst
   have HSR:=hid hst
   have q1:=hst.rx.cell 1 _ rfl
   have f1:=hst.rx.froz 1 (by simp)
   clear hst
   go_wp2
   go_end0
   refine ⟨⟨_,rfl⟩,⟨HSR.out.rx.set 1 (by simp) _,HSR.out.pr.other _ HSR.out.xg _,World.ownsRow_nil _ _ _ _,by simp [Value.ownBlock],by simp [Value.ownBlock],HSR.out.xg,HSR.out.bx,HSR.out.bg⟩,hbel.setCell HSR.out.bx _⟩
set_option maxRecDepth 100000 in
theorem do_i_sync (base X g n:Nat) (v:Value) (ss:List ByteArray) (ws:List (Int×ByteArray)) (at_:Int) (d:ByteArray) (w:World) (h:DV w base X g n v (ss.map nums) (hsOf ws)) (hn:ss.length=n) (hok:diskOk ss ws=true) (hbw:base<=w.heap.size) :
  Calls Try.prog 18 #[.pointer (some ⟨X,0,none⟩),.agg #[.bool true,.int .i64 at_,.string d]] w fun e w'=>(∃ x,e=.returned x)/\DV w' base X g n (.slice none 0 0) ((syncs ws ss).map nums) []/\Below base w w':=by
 obtain ⟨⟨hn1,hn2,hn3⟩,h64,hw⟩:=diskOk_of hok
 have hb0:∀ o,Below w.heap.size w (w.alloc o):=fun o=>(Below.refl _ _).alloc (Nat.le_refl _) _
 have HS:=hid (fun (o:Obj)=>sync_d base X g n v (ss.map nums) (hsOf ws) (w.alloc o) (h.below (hb0 o)) (by simp [hn]) (by omega) (by rw [hsOf_length];omega) (hsOf_64 (fun x hx=>by have:=(wOk_64 (hw x hx)).2;omega)) (fun p hp=>by
  obtain ⟨x,hx,rfl⟩:=List.mem_map.1 hp
  have:=(wOk_64 (hw x hx)).1
  rw [hn] at this
  exact this) (Nat.le_trans hbw (hb0 o).size))
 go_enter Try.func18,Try.ntmps18
 go_wp2_with (go_at_call 34;refine (HS.out _).mono ?_;rintro e w1 ⟨⟨x,rfl⟩,hd,hb⟩)
 go_end0
 rw [cvs_set] at hd
 exact ⟨⟨_,rfl⟩,hd,((hb0 _).mono hbw).trans hb⟩
set_option maxRecDepth 100000 in
theorem do_i_no (base X g n:Nat) (v:Value) (ss:List ByteArray) (ws:List (Int×ByteArray)) (at_:Int) (d:ByteArray) (w:World) (h:DV w base X g n v (ss.map nums) (hsOf ws)) (hn:ss.length=n) (hok:diskOk ss ws=true) (hd:d.size<=1048576) (hno:wOk ss.length (at_,d)=false\/¬ ws.length<300) (hbw:base<=w.heap.size) :
  Calls Try.prog 18 #[.pointer (some ⟨X,0,none⟩),.agg #[.bool false,.int .i64 at_,.string d]] w fun e w'=>(∃ x,e=.returned x)/\DV w' base X g n v (ss.map nums) (hsOf ws)/\Below base w w':=by
 obtain ⟨⟨hn1,hn2,hn3⟩,h64,hw⟩:=diskOk_of hok
 have hb0:∀ o,Below w.heap.size w (w.alloc o):=fun o=>(Below.refl _ _).alloc (Nat.le_refl _) _
 obtain ⟨av,cv,rfl⟩:∃ a c,v=.slice a ws.length c:=by
  rw [<-hsOf_length]
  rcases owns_forms h.own with ⟨e,h0⟩ | ⟨g,c,e,_⟩
  ·exact ⟨_,_,by rw [e,h0]⟩
  ·exact ⟨_,_,e⟩
 have x0:=h.rx.cell 0 _ rfl
 have x1:=h.rx.cell 1 _ rfl
 have hlX:=h.rx.lt
 have HD:=hid h
 subst hn
 have hcan:∀ b,wOk ss.length (at_,d)=b->∀ w',Calls Try.prog 25 #[.int .i64 (ss.length:Int),.int .i64 at_,.string d] w' fun e w''=>e=.returned (.bool b)/\w''=w':=fun b hb w'=>by
  have:=can_i ss.length at_ d w' hd (by omega)
  rw [hb] at this
  exact this
 cases hc:wOk ss.length (at_,d) with
 | false =>
  go_enter Try.func18,Try.ntmps18
  go_wp2_with fail
  go_quiet ((go_at_call 25;exact Calls.quiet_of_same (hcan false hc _)))
  go_wp2
  go_end0
  exact ⟨⟨_,rfl⟩,HD.out.below (below_drewN (hb0 _) _),(below_drewN (hb0 _) _).mono hbw⟩
 | true =>
  have hlt:(decide ((ws.length:Int)<300))=false:=by
   rcases hno with h1 | h1
   ·rw [hc] at h1;cases h1
   ·exact decide_eq_false (by omega)
  go_enter Try.func18,Try.ntmps18
  go_wp2_with fail
  go_quiet ((go_at_call 25;exact Calls.quiet_of_same (hcan true hc _)))
  go_wp2
  go_end0
  exact ⟨⟨_,rfl⟩,HD.out.below (below_drewN (hb0 _) _),(below_drewN (hb0 _) _).mono hbw⟩
section
def lays (zs:List Int):Nat->List (Int×List Int)->List (List Int)->List (List Int)
 | _,[],ps=>ps
 | i,x::r,ps=>lays zs (i+1) r (ps.set x.1.toNat (torn (fate zs i) x.2 (ps.getD x.1.toNat [])))
theorem lays_length (zs:List Int):∀ (hs:List (Int×List Int)) (i:Nat) (ps:List (List Int)),(lays zs i hs ps).length=ps.length
 | [],_,_=>rfl
 | x::r,i,ps=>by rw [lays,lays_length zs r];simp
structure PLs (W w:World) (R X g:Nat) (xs:List Value) (a2:Option Addr) (hs:List (Int×List Int)) (ps:List (List Int)):Prop where
 bel:Below W.heap.size W w
 rr:Row w R [.slice none 0 0,.slice none 0 0]
 rx:Row w X xs
 pr:PR w g ps
 own:OwnS w a2 (hcells hs)
section
variable {W w w':World} {R X g:Nat} {xs:List Value} {a2:Option Addr} {hs:List (Int×List Int)} {ps ps':List (List Int)}
theorem PLs.below (h:PLs W w R X g xs a2 hs ps) (hb:Below w.heap.size w w'):PLs W w' R X g xs a2 hs ps :=
 ⟨h.bel.trans (hb.mono h.bel.size),h.rr.below hb,h.rx.below hb,h.pr.below hb,h.own.below hb⟩
theorem PLs.drew (h:PLs W w R X g xs a2 hs ps):PLs W w.drew R X g xs a2 hs ps:=h.below ((Below.refl _ _).drew)
theorem PLs.grown (h:PLs W w R X g xs a2 hs ps) (hg:w.grownBy w' (some g)) (hp:PR w' g ps') (h1:W.heap.size<=g) (h2:R≠g) (h3:X≠g) (h4:∀ b,a2=some ⟨b,0,none⟩->hcells hs≠[]->b≠g):PLs W w' R X g xs a2 hs ps' :=
 ⟨h.bel.trans (grown_below hg h.bel.size (fun k hk=>by cases hk;exact h1)),h.rr.grown hg (fun e=>h2 (by injection e)),h.rx.grown hg (fun e=>h3 (by injection e)),hp,h.own.grown hg (fun b hb hne e=>h4 b hb hne (by injection e))⟩
end
set_option maxRecDepth 100000 in
theorem pl_i (a:Option Addr) (ss:List ByteArray) (c:Nat) (a':Option Addr) (ws:List (Int×ByteArray)) (c':Nat) (f:Option Addr) (zs:List Int) (cf:Nat) (w:World) (h:Strs w a ss) (h':Wrs w a' ws) (hz:Ints w f zs) (hlz:zs.length<=1048576) (hok:diskOk ss ws=true) :
  Calls Try.prog 10 #[diskV a ss.length c a' ws.length c',.slice f zs.length cf] w fun e w'=>∃ a1 c1 a1' c1',e=.returned (diskV a1 ss.length c1 a1' 0 c1')/\OwnD w' a1 (secs (lays zs 0 (hsOf ws) (ss.map nums))) a1' []/\(∀ g,blk a1 ss.length=some g->w.heap.size<=g)/\Below w.heap.size w w':=by
 obtain ⟨⟨hn1,hn2,hn3⟩,h64,hw⟩:=diskOk_of hok
 have hb0:∀ o1 o2,Below w.heap.size w ((w.alloc o1).alloc o2):=fun o1 o2=>((Below.refl _ _).alloc (Nat.le_refl _) _).alloc (by simp) _
 obtain ⟨RES,HRES⟩:∃ RES,Hid (RES=lays zs 0 (hsOf ws) (ss.map nums)):=⟨_,hid rfl⟩
 rw [<-HRES.out]
 go_enter Try.func10,Try.ntmps10
 go_wp2_with fail
 refine (valid_i a ss c a' ws c' _ (h.below (hb0 _ _)) (h'.below (hb0 _ _)) (by omega) (by omega) (fun s hs=>by have:=h64 s hs;omega) (fun x hx=>by have:=of_decide_eq_true (hw x hx);omega)).mono ?_
 rw [hok]
 rintro e w1 ⟨rfl,hb1⟩
 have hB1:=(hb0 _ _).trans (hb1.mono (by simp;omega))
 obtain ⟨q1,q2⟩:=bcell hb1
 have rR:=(row_new' (w.alloc (.cells #[.slice a ss.length c,.slice a' ws.length c'] 26)) #[.slice none 0 0,.slice none 0 0] 26 (w.heap.size+1) (by simp)).below hb1
 have HRR:=hid rR
 have HB1:=hid hB1
 clear rR hb1 hB1
 go_wp2_with fail
 refine (drv_i a ss c a' ws c' _ (h.below HB1.out) (h'.below HB1.out) hn2 hn3 (fun s hs=>by have:=h64 s hs;omega) (fun x hx=>by have:=of_decide_eq_true (hw x hx);omega)).mono ?_
 rintro e w2 ⟨g,v,rfl,hpr,hown,hg,hb2⟩
 clear q1 q2
 have HRR2:=hid (HRR.out.below hb2)
 have HRR1:Hid (w.heap.size+1+1<=g):=by have:=HRR.out.lt;show _<=_;omega
 have HB2:=hid (Below.then HB1.out (Nat.le_refl _) hb2)
 obtain ⟨a2,c2,hv,ho2,hne⟩:∃ a2 c2,v=.slice a2 ws.length c2/\OwnS w2 a2 (hcells (hsOf ws))/\∀ g2,a2=some ⟨g2,0,none⟩->ws≠[]->g2≠g/\g2<w2.heap.size:=by
  rcases owns_forms hown with ⟨e,h0⟩ | ⟨g2,cap,e,h1,h2,hr⟩
  ·have:ws=[]:=List.eq_nil_of_length_eq_zero h0
   subst this
   exact ⟨none,0,e,.inl rfl,fun _ _ hh=>absurd rfl hh⟩
  ·exact ⟨_,cap,e,.inr ⟨g2,rfl,hr⟩,fun g' hg' _=>by cases hg';exact ⟨by omega,h2⟩⟩
 subst hv
 have HPR:=hid hpr
 have HO2:=hid ho2
 clear hpr hown ho2 hb2 HB1 HRR
 go_wp2
 have hw64:∀ x∈ws,x.2.size=64:=fun x hx=>by have:=of_decide_eq_true (hw x hx);omega
 have HH64:=hid (hsOf_64 hw64)
 have hne':∀ b,a2=some ⟨b,0,none⟩->hcells (hsOf ws)≠[]->b≠g:=fun b hb hc=>(hne b hb (fun e=>hc (by rw [e];rfl))).1
 have hgl:g<w2.heap.size:=HPR.out.lt
 have hRg:w.heap.size+1≠g:=by have:=HRR1.out;omega
 have hwg:w.heap.size<=g:=by have:=HRR1.out;omega
 have hst:PLs w (w2.alloc (.cells #[.slice (some ⟨g,0,none⟩) ss.length ss.length,.slice a2 ws.length c2] 51)) (w.heap.size+1) w2.heap.size g [.slice (some ⟨g,0,none⟩) ss.length ss.length,.slice a2 ws.length c2] a2 (hsOf ws) (ss.map nums) :=
  ⟨Below.then HB2.out (Nat.le_refl _) (below_new _ _),HRR2.out.alloc _,row_new _ _ _,HPR.out.below (below_new _ _),HO2.out.below (below_new _ _)⟩
 have HST:=hid hst
 have HW:=hid hw
 clear hst HPR HO2 HB2 HRR2 hne hw hw64
 go_loopw [6,7,17] (fun _ _ i wr=>∃ (k:Nat) (ps:List (List Int)),k<=ws.length/\i=.int .i64 k/\ps.length=ss.length/\Hid (lays zs k ((hsOf ws).drop k) ps=RES)/\PLs w wr (w.heap.size+1) w2.heap.size g [.slice (some ⟨g,0,none⟩) ss.length ss.length,.slice a2 ws.length c2] a2 (hsOf ws) ps) (fun _ _ i _=>ws.length-(intOf i).toNat)
 case atStart=>exact ⟨0,_,Nat.zero_le _,rfl,by simp,by show _=_;rw [List.drop_zero,HRES.out],HST.out⟩
 case round =>
  clear HST
  obtain ⟨k,ps,hk,rfl,hpl,HK,hst⟩:=hrel
  have hrl:RES.length=ss.length:=by rw [<-HK.out,lays_length,hpl]
  by_cases hlt:k<ws.length
  ·obtain ⟨b,o,m0,x,rfl,hlb,hrg,HX⟩:=(hst.own.hld HH64.out).at (k:=k) (by rw [hsOf_length];exact hlt)
   have hmem:Hid ((m0,x)∈hsOf ws):=by show _∈_;rw [HX.out];simp [List.getD,hsOf_length,hlt]
   have hxl:x.length=64:=HH64.out (m0,x) hmem.out
   obtain ⟨m,rfl,hm⟩:∃ m:Nat,m0=(m:Int)/\m<ss.length:=by
    obtain ⟨y,hy,e⟩:=List.mem_map.1 hmem.out
    have hyw:=of_decide_eq_true (HW.out y hy)
    have e1:y.1=m0:=by rw [Prod.mk.injEq] at e;exact e.1
    exact ⟨m0.toNat,by omega,by omega⟩
   have hxm:(Value.int .i64 (m:Int)::x.map (Value.int .u8)).length=65:=by simp [hxl]
   have HI65:Hid ((Try.prog.info? 63).map (·.size)=some (Value.int .i64 (m:Int)::x.map (Value.int .u8)).length):=by rw [hxm];show _=_;kernel_rfl
   have HXM:=hid hxm.symm
   have hzh:=zeroHeld
   have HSR:=hid hst
   clear hxm hst
   go_wp2_with (first | (with_reducible refine at_load 63 _ rfl ?_;refine wpList_load_mid rfl 63 _ rfl b (o+k*65) rfl (Value.int .i64 (m:Int)::x.map (Value.int .u8)) _ hrg Try.underlying63 rfl HI65.out ?_) | (with_reducible refine at_store 63 _ _ rfl ?_;refine wpList_store_cells rfl 63 _ _ rfl (Value.int .i64 (m:Int)::x.map (Value.int .u8)) (held_one (m:Int) x) rfl rfl _ _ (by rw [<-HXM.out];kernel_rfl) HI65.out ?_;intro wx hrow hbx hsx))
   have HSX:=hid (HSR.out.below hbx)
   have hrx:=hrow.range
   have HROW:=hid hrow
   have hlY:wr.heap.size≠g:=by have:=HSR.out.pr.lt;omega
   have hfl:=fate_le zs k
   obtain ⟨F,HF⟩:∃ F,Hid (F=fate zs k):=⟨_,hid rfl⟩
   rw [<-HF.out] at hfl
   have HZX:=hid (((hz.below HSX.out.bel)))
   clear hrow hrg hbx hsx hrx
   refine wp_region_held_drew (S:=fun w'=>w'.rangeAt wr.heap.size 0 (Value.int .i64 (m:Int)::x.map (Value.int .u8))) (by kernel_rfl) HROW.out.drew.range (fun hHe=>?_)
   refine TK 0 (.agg (Value.int .i64 (m:Int)::x.map (Value.int .u8)).toArray) rfl (yieldsIf_load_mid (by rfl) _ _ rfl wr.heap.size 0 rfl (Value.int .i64 (m:Int)::x.map (Value.int .u8)) _ (fun w hw=>hw) Try.underlying63 rfl HI65.out) hHe ?_
   simp only [Act.put,List.setIfInBounds_toArray]
   refine TK 1 (.slice f zs.length cf) rfl (Or.inl ⟨by rfl,fun w hw=>by go_simp⟩) hHe ?_
   simp only [Act.put]
   refine TK 2 (.int .i64 (k:Int)) rfl (Or.inl ⟨by rfl,fun w hw=>by go_simp⟩) hHe ?_
   simp only [Act.put]
   refine RD 3 rfl (fun K hK=>?_)
   refine step_call (by rfl) 27 #[.slice f zs.length cf,.int .i64 (k:Int)] (by go_simp) (fate_i f zs cf k _ (hz.below HSX.out.drew.bel) hlz (by omega)) ?_
   rw [<-HF.out]
   rintro e w3 ⟨rfl,rfl⟩
   refine ⟨_,rfl,?_⟩
   refine hK.out _ _ hHe (fun _=>?_)
   clear hK K
   simp only [Act.put]
   refine RD 4 rfl (fun K hK=>?_)
   refine step_call (by rfl) 26 #[.pointer (some ⟨w2.heap.size,0,none⟩),.agg (Value.int .i64 (m:Int)::x.map (Value.int .u8)).toArray,.int .i64 (F:Int)] (by go_simp) (lay_i w2.heap.size g ss.length ss.length (.slice none 0 0) ps m x F _ (HSX.out.drew.rx.cell 0 _ rfl) (by omega) HSX.out.drew.pr hpl hm hn2 (Nat.le_refl _) hxl hfl) ?_
   rintro e w4 ⟨rfl,hpr4,hgr⟩
   refine ⟨_,rfl,?_⟩
   refine hK.out _ _ (HROW.out.drew.grown hgr (fun e=>hlY (by injection e))).range (fun _=>?_)
   clear hK K
   simp only [Act.put]
   refine DN ?_
   have hst':=HSX.out.drew.grown hgr hpr4 hwg hRg (by omega) hne'
   have HST':=hid hst'
   have HK':Hid (lays zs (k+1) ((hsOf ws).drop (k+1)) (ps.set m (torn F x (ps.getD m [])))=RES):=by
    show _=_
    rw [<-HK.out,drop_at (hsOf ws) k (0,[]) (by rw [hsOf_length];exact hlt),<-HX.out,lays,Int.toNat_natCast,HF.out]
   clear hst' hpr4 hgr hHe
   go_wp2
   go_roundw
   case rel=>exact ⟨k+1,_,by omega,by go_num,by simp [hpl],HK',HST'.out⟩
   case measure=>simp [intOf];omega
  ·have hres:Hid (ps=RES):=by
    have:=HK.out
    rw [List.drop_of_length_le (by rw [hsOf_length];omega)] at this
    exact this
   rw [hres.out] at hst
   have HSR:=hid hst
   have q0:=hst.rx.cell 0 _ rfl
   have q1:=hst.rx.cell 1 _ rfl
   have f1:=hst.rx.froz 1 (by simp)
   clear hst
   go_wp2_with fail
   have hXg:w2.heap.size≠g:=by omega
   have hlX:w.heap.size+1<w2.heap.size:=by have:=HRR1.out;omega
   have hprS:=HSR.out.pr.other ⟨w2.heap.size,1,none⟩ hXg (.slice none 0 0)
   have hrrS:=HSR.out.rr.other ⟨w2.heap.size,1,none⟩ (by show w2.heap.size≠w.heap.size+1;omega) (.slice none 0 0)
   have hbS:=HSR.out.bel.setCell (p:=⟨w2.heap.size,1,none⟩) (by show w.heap.size<=w2.heap.size;omega) (.slice none 0 0)
   refine (disk_i' (some ⟨g,0,none⟩) RES ss.length ss.length none [] 0 0 hrl rfl _ hprS.plt (.inl rfl) hn2 (by omega) hprS.len (fun p hp=>by simp at hp)).mono ?_
   rintro e w5 ⟨a1,c1,a1',c1',rfl,hod,hg1,hg2,hb5⟩
   have rR:=hrrS.below hb5
   have r0:=rR.cell 0 _ rfl
   have r1:=rR.cell 1 _ rfl
   obtain ⟨fr0,fr1⟩:=rR.z2
   have HB5:=hid (Below.then hbS (Nat.le_refl _) hb5)
   have hbb:=hbS.size
   have HOD:=hid hod
   have HG1:Hid (∀ g,blk a1 ss.length=some g->w.heap.size+1<g):=fun g hg=>by
    have h1:=hg1 g hg
    have h2:=hrrS.lt
    omega
   clear hod hg1 hg2 hb5 rR hprS hrrS hbS q0 q1 f1 hbb
   go_wp2
   have hseg:(secs RES).length=ss.length:=by simp [secs,hrl]
   refine bodyPost_ret (v:=diskV a1 ss.length c1 a1' 0 c1') (by simp [results,Try.results10,go_sem,r0,r1]) rfl ⟨a1,c1,a1',c1',rfl,⟨?_,.inl rfl,.inr (.inl rfl)⟩,fun g hg=>by have:=HG1.out g hg;omega,?_⟩
   ·have hs1:∀ (wz:World) (u:Value) (i:Nat),OwnS wz a1 ((secs RES).map Value.string)->OwnS (wz.setCell ⟨w.heap.size+1,i,none⟩ u) a1 ((secs RES).map Value.string):=fun wz u i ho=>by
     rcases ho with ho | ⟨g3,e3,hr3⟩
     ·exact .inl ho
     ·refine .inr ⟨g3,e3,hr3.other _ (fun e=>?_) _⟩
      have:=HG1.out g3 (by rw [e3];exact blk_pos g3 0 _ (by omega))
      have e':w.heap.size+1=g3:=e
      omega
    exact hs1 _ _ _ (hs1 _ _ _ HOD.out.s)
   ·exact (HB5.out.setCell (by show w.heap.size<=w.heap.size+1;omega) _).setCell (by show w.heap.size<=w.heap.size+1;omega) _
end
section
theorem nums_extractP (p:ByteArray) (i j:Nat) (h:i<=j):nums (p.extract i j)=((nums p).take j).drop i:=by
 unfold nums
 rw [ByteArray.data_extract,Array.toList_extract]
 simp [List.map_drop,List.map_take,List.take_drop,Nat.add_sub_cancel' h]
theorem nums_torn (F:Nat) (d t:ByteArray) (hF:F<=64) (hd:d.size=64) (ht:t.size=64):nums (d.extract 0 F++t.extract F 64)=torn F (nums d) (nums t):=by
 rw [nums_append,nums_extractP _ _ _ (Nat.zero_le _),nums_extractP _ _ _ hF,torn,List.drop_zero]
 rw [List.take_of_length_le (l:=nums t) (by rw [nums_length];omega)]
theorem torn_size (F:Nat) (d t:ByteArray) (hF:F<=64) (hd:d.size=64) (ht:t.size=64):(d.extract 0 F++t.extract F 64).size=64:=by
 rw [ByteArray.size_append,ByteArray.size_extract,ByteArray.size_extract];omega
structure PTs (W w:World) (R X g g' n n' c1 c1':Nat) (ws:List (Int×ByteArray)) (ts:List ByteArray):Prop where
 bel:Below W.heap.size W w
 rr:Row w R [.slice none 0 0,.slice none 0 0]
 rx:Row w X [.slice (some ⟨g,0,none⟩) n c1,.slice (some ⟨g',0,none⟩) n' c1']
 rs:Row w g (ts.map Value.string)
 own:OwnS w (some ⟨g',0,none⟩) (wcells ws)
section
variable {W w w':World} {R X g g' n n' c1 c1':Nat} {ws:List (Int×ByteArray)} {ts:List ByteArray}
theorem PTs.below (h:PTs W w R X g g' n n' c1 c1' ws ts) (hb:Below w.heap.size w w'):PTs W w' R X g g' n n' c1 c1' ws ts :=
 ⟨h.bel.trans (hb.mono h.bel.size),h.rr.below hb,h.rx.below hb,h.rs.below hb,h.own.below hb⟩
theorem PTs.drew (h:PTs W w R X g g' n n' c1 c1' ws ts):PTs W w.drew R X g g' n n' c1 c1' ws ts:=h.below ((Below.refl _ _).drew)
theorem PTs.set (h:PTs W w R X g g' n n' c1 c1' ws ts) (m:Nat) (hm:m<ts.length) (s:ByteArray) (h1:W.heap.size<=g) (h2:R≠g) (h3:X≠g) (h4:wcells ws≠[]->g'≠g):PTs W (w.setCell ⟨g,m,none⟩ (.string s)) R X g g' n n' c1 c1' ws (ts.set m s):=by
 refine ⟨h.bel.setCell h1 _,h.rr.other _ (fun e=>h2 e.symm) _,h.rx.other _ (fun e=>h3 e.symm) _,?_,?_⟩
 ·rw [List.map_set];exact h.rs.set m (by simpa using hm) _
 ·rcases h.own with ho | ⟨b,e,hr⟩
  ·exact .inl ho
  ·injection e with e;injection e with e
   by_cases hc:wcells ws=[]
   ·exact .inl hc
   ·exact .inr ⟨g',rfl,(e ▸ hr).other _ (fun e2=>h4 hc e2.symm) _⟩
end
set_option maxRecDepth 100000 in
theorem pl_s (a:Option Addr) (ss:List ByteArray) (c:Nat) (a':Option Addr) (ws:List (Int×ByteArray)) (c':Nat) (f:Option Addr) (zs:List Int) (cf:Nat) (w:World) (h:Strs w a ss) (h':Wrs w a' ws) (hz:Ints w f zs) (hlz:zs.length<=1048576) (hok:diskOk ss ws=true) :
  Calls Try.prog 63 #[diskV a ss.length c a' ws.length c',.slice f zs.length cf] w fun e w'=>∃ a1 c1 a1' c1',e=.returned (diskV a1 ss.length c1 a1' 0 c1')/\OwnD w' a1 (secs (lays zs 0 (hsOf ws) (ss.map nums))) a1' []/\(∀ g,blk a1 ss.length=some g->w.heap.size<=g)/\Below w.heap.size w w':=by
 obtain ⟨⟨hn1,hn2,hn3⟩,h64,hw⟩:=diskOk_of hok
 have hb0:∀ o1 o2,Below w.heap.size w ((w.alloc o1).alloc o2):=fun o1 o2=>((Below.refl _ _).alloc (Nat.le_refl _) _).alloc (by simp) _
 obtain ⟨RES,HRES⟩:∃ RES,Hid (RES=lays zs 0 (hsOf ws) (ss.map nums)):=⟨_,hid rfl⟩
 rw [<-HRES.out]
 go_enter Try.func63,Try.ntmps63
 go_wp2_with fail
 refine (valid_s a ss c a' ws c' _ (h.below (hb0 _ _)) (h'.below (hb0 _ _)) (by omega) (by omega) (fun s hs=>by have:=h64 s hs;omega) (fun x hx=>by have:=of_decide_eq_true (hw x hx);omega)).mono ?_
 rw [hok]
 rintro e w1 ⟨rfl,hb1⟩
 have hB1:=(hb0 _ _).trans (hb1.mono (by simp;omega))
 obtain ⟨q1,q2⟩:=bcell hb1
 have rR:=(row_new' (w.alloc (.cells #[.slice a ss.length c,.slice a' ws.length c'] 26)) #[.slice none 0 0,.slice none 0 0] 26 (w.heap.size+1) (by simp)).below hb1
 have HRR:=hid rR
 have HB1:=hid hB1
 clear rR hb1 hB1
 go_wp2_with fail
 refine (copy_s a ss c a' ws c' _ (h.below HB1.out) (h'.below HB1.out) hn2 hn3).mono ?_
 rintro e w2 ⟨g,c1,g',c1',rfl,hod,hg,hg',hb2⟩
 clear q1 q2
 go_wp2
 have hlen:ss.length≠0:=by omega
 have hg1:w1.heap.size<=g:=hg g (by unfold blk;rw [if_neg hlen];rfl)
 have hRl:=HRR.out.lt
 have hrs:Row w2 g (ss.map Value.string):=by
  rcases hod.s with e | ⟨b,e,hr⟩
  ·exact absurd (congrArg List.length e) (by rw [List.length_map,List.length_nil];omega)
  ·cases e;exact hr
 have hgl:=hrs.lt
 have hne:wcells ws≠[]->g'≠g:=fun hc=>by
  have hl:ws.length≠0:=fun e=>hc (by rw [List.eq_nil_of_length_eq_zero e];rfl)
  rcases hod.ne with e | e | e
  ·unfold blk at e;rw [if_neg hlen] at e;exact absurd e (by simp)
  ·unfold blk at e;rw [if_neg hl] at e;exact absurd e (by simp)
  ·unfold blk at e;rw [if_neg hlen,if_neg hl] at e;exact fun e2=>e (by rw [e2])
 have hst:PTs w (w2.alloc (.cells #[.slice (some ⟨g,0,none⟩) ss.length c1,.slice (some ⟨g',0,none⟩) ws.length c1'] 26)) (w.heap.size+1) w2.heap.size g g' ss.length ws.length c1 c1' ws ss :=
  ⟨Below.then (Below.then HB1.out (Nat.le_refl _) hb2) (Nat.le_refl _) (below_new _ _),(HRR.out.below hb2).alloc _,row_new _ _ _,hrs.alloc _,hod.p.below (below_new _ _)⟩
 have HST:=hid hst
 have HW:=hid hw
 have H64:=hid h64
 have HNE:=hid hne
 have hwg:w.heap.size<=g:=Nat.le_trans HB1.out.size hg1
 have hRg:w.heap.size+1≠g:=by omega
 have hXg:w2.heap.size≠g:=by omega
 have hRX:w.heap.size+1<w2.heap.size:=by have:=hb2.size;omega
 clear hst hod hg hg' hb2 hrs hne hw h64 HRR HB1 hg1 hRl
 go_loopw [6,7,8] (fun i _ _ wr=>∃ (k:Nat) (ts:List ByteArray),k<=ws.length/\i=.int .i64 k/\ts.length=ss.length/\Hid (∀ s∈ts,s.size=64)/\Hid (lays zs k ((hsOf ws).drop k) (ts.map nums)=RES)/\PTs w wr (w.heap.size+1) w2.heap.size g g' ss.length ws.length c1 c1' ws ts) (fun i _ _ _=>ws.length-(intOf i).toNat)
 case atStart=>exact ⟨0,ss,Nat.zero_le _,rfl,rfl,hid (fun s hs=>by have:=H64.out s hs;omega),by show _=_;rw [List.drop_zero,HRES.out],HST.out⟩
 case round =>
  clear HST
  obtain ⟨k,ts,hk,rfl,htl,HT64,HK,hst⟩:=hrel
  by_cases hlt:k<ws.length
  ·obtain ⟨b,o,m0,d,he,hc0,hc1,HX⟩:=hst.own.wrs.at hlt
   obtain ⟨rfl,rfl⟩:g'=b/\o=0:=by cases he;exact ⟨rfl,rfl⟩
   rw [Nat.zero_add] at hc0 hc1
   clear he
   have hmem:(m0,d)∈ws:=by rw [HX.out];simp [List.getD,hlt]
   have hyw:=of_decide_eq_true (HW.out (m0,d) hmem)
   obtain ⟨m,rfl,hm⟩:∃ m:Nat,m0=(m:Int)/\m<ss.length:=⟨m0.toNat,by have:=hyw.1;omega,by have:=hyw.2.1;have:=hyw.1;simp at *;omega⟩
   have hd64:d.size=64:=by have:=hyw.2.2;simp at this;omega
   have hco:=hst.rs.cell m (.string (ts.getD m ByteArray.empty)) (by simp [List.getD,htl,hm])
   have ht64:(ts.getD m ByteArray.empty).size=64:=HT64.out _ (by simp [List.getD,htl,hm])
   have hfo:=hst.rs.froz m (by simp [htl,hm])
   obtain ⟨t,HTT⟩:∃ t,Hid (t=ts.getD m ByteArray.empty):=⟨_,hid rfl⟩
   rw [<-HTT.out] at hco ht64
   have x0:=hst.rx.cell 0 _ rfl
   have x1:=hst.rx.cell 1 _ rfl
   have hlX:=hst.rx.lt
   have hlg:=hst.rs.lt
   have hfate:=fate_le zs k
   have HSR:=hid hst
   have HZ:=hid (hz.below hst.bel)
   clear hst hmem hyw
   by_cases hzk:k<zs.length
   ·obtain ⟨bz,oz,z,rfl,hbz,hcz,HZZ⟩:=HZ.out.at hzk
    by_cases hneg:z<0
    ·go_wp2_with fail
     have hq:=HSR.out.below (below_new wr (.cells #[.int .i64 (m:Int),.string d] 46))
     have hy:=Cx.new wr (.int .i64 (m:Int)) (.string d) 46
     obtain ⟨wq,HWQ⟩:∃ wq,wq=wr.alloc (.cells #[.int .i64 (m:Int),.string d] 46):=⟨_,rfl⟩
     rw [<-HWQ] at hq hy ⊢
     have hlY:wr.heap.size<wq.heap.size:=by rw [HWQ];simp
     have hgY:g≠wr.heap.size:=by omega
     have hco':=hq.rs.cell m (.string t) (by rw [HTT.out];simp [List.getD,htl,hm])
     have hfo':=hq.rs.froz m (by simp [htl,hm])
     have HQ:=hid hq
     have HY:=hid hy
     have HSV:=hid hco'
     have HFO:=hid hfo'
     clear hq hy hco' hfo' hco hfo x0 x1 hc0 hc1 HWQ
     refine wp_region_held_drew (S:=fun w'=>w'.cell? ⟨w2.heap.size,0,none⟩=some (.slice (some ⟨g,0,none⟩) ss.length c1)/\w'.cell? ⟨wr.heap.size,0,none⟩=some (.int .i64 (m:Int))/\w'.cell? ⟨wr.heap.size,1,none⟩=some (.string d)) (by kernel_rfl) ⟨HQ.out.rx.cell 0 _ rfl,HY.out.c0,HY.out.c1⟩ (fun hHe=>?_)
     refine TZ 0 (.pointer (some ⟨w2.heap.size,0,none⟩)) rfl hHe ?_
     simp only [PS]
     refine TZ 1 (.slice (some ⟨g,0,none⟩) ss.length c1) rfl hHe ?_
     simp only [PS]
     refine TZ 2 (.pointer (some ⟨wr.heap.size,0,none⟩)) rfl hHe ?_
     simp only [PS]
     refine TZ 3 (.int .i64 (m:Int)) rfl hHe ?_
     simp only [PS]
     refine TZ 4 (.pointer (some ⟨wr.heap.size,1,none⟩)) rfl hHe ?_
     simp only [PS]
     refine TZ 5 (.string d) rfl hHe ?_
     simp only [PS]
     refine TZ 6 (.int .i64 0) rfl hHe ?_
     simp only [PS]
     refine TZ 7 (.string (d.extract 0 0)) rfl hHe ?_
     simp only [PS]
     refine TZ 8 (.pointer (some ⟨w2.heap.size,0,none⟩)) rfl hHe ?_
     simp only [PS]
     refine TZ 9 (.slice (some ⟨g,0,none⟩) ss.length c1) rfl hHe ?_
     simp only [PS]
     refine TZ 10 (.pointer (some ⟨wr.heap.size,0,none⟩)) rfl hHe ?_
     simp only [PS]
     refine TZ 11 (.int .i64 (m:Int)) rfl hHe ?_
     simp only [PS]
     refine TZ 12 (.pointer (some ⟨g,m,none⟩)) rfl hHe ?_
     simp only [PS]
     refine TZ 14 (.int .i64 0) rfl hHe ?_
     simp only [PS]
     refine RD 13 rfl (fun K hK=>?_)
     have hcg:=HSV.out
     go_simp
     clear hcg
     refine hK.out _ _ hHe (fun _=>?_)
     clear hK K
     refine TZ 15 (.string (t.extract 0 t.size)) rfl hHe ?_
     simp only [PS]
     refine TZ 16 (.string (d.extract 0 0++t.extract 0 t.size)) rfl hHe ?_
     simp only [PS]
     refine TZ 17 (.pointer (some ⟨g,m,none⟩)) rfl hHe ?_
     simp only [PS]
     refine RD 18 rfl (fun K hK=>?_)
     have hcg:=HSV.out
     have hfg:=HFO.out
     go_simp
     clear hcg hfg
     refine hK.out _ _ ⟨(World.cell?_setCell_far _ _ _ _ (by show g≠w2.heap.size;omega)).trans hHe.1,(World.cell?_setCell_far _ _ _ _ (by show g≠wr.heap.size;omega)).trans hHe.2.1,(World.cell?_setCell_far _ _ _ _ (by show g≠wr.heap.size;omega)).trans hHe.2.2⟩ (fun _=>?_)
     clear hK K
     refine DN ?_
     have hV:t.extract 0 64=d.extract 0 0++t.extract 0 64:=by simp
     have hst':=HQ.out.drew.set m (by omega) (t.extract 0 64) hwg hRg hXg HNE.out
     have HST':=hid hst'
     have HK':Hid (lays zs (k+1) ((hsOf ws).drop (k+1)) ((ts.set m (t.extract 0 64)).map nums)=RES):=by
      show _=_
      rw [hV]
      have hft:fate zs k=0:=by unfold fate;rw [if_pos (by omega),<-HZZ.out,if_pos (by omega)]
      have hdk:(hsOf ws).drop k=((m:Int),nums d)::(hsOf ws).drop (k+1):=by
       rw [drop_at (hsOf ws) k (0,[]) (by rw [hsOf_length];exact hlt)]
       have hgd:(hsOf ws).getD k (0,[])=((m:Int),nums d):=by
        have e:=HX.out
        simp [hsOf,List.getD,hlt] at e ⊢
        rw [<-e]
        exact ⟨rfl,rfl⟩
       rw [hgd]
      rw [<-HK.out,hdk,lays,Int.toNat_natCast,hft,List.map_set,nums_torn 0 d t (by omega) hd64 ht64]
      congr 2
      rw [HTT.out]
      simp [List.getD,htl,hm]
     have HT':Hid (∀ s∈ts.set m (t.extract 0 64),s.size=64):=fun s hs=>by
      rw [hV] at hs
      rcases List.mem_or_eq_of_mem_set hs with h1 | h1
      ·exact HT64.out s h1
      ·rw [h1];exact torn_size 0 d t (by omega) hd64 ht64
     clear hst' hHe hV
     go_wp2
     go_roundw
     case rel=>exact ⟨k+1,_,by omega,by go_num,by simp [htl],HT',HK',HST'.out⟩
     case measure=>simp [intOf];omega
    ·by_cases hbig:64<z
     ·go_wp2_with fail
      have hq:=HSR.out.below (below_new wr (.cells #[.int .i64 (m:Int),.string d] 46))
      have hy:=Cx.new wr (.int .i64 (m:Int)) (.string d) 46
      obtain ⟨wq,HWQ⟩:∃ wq,wq=wr.alloc (.cells #[.int .i64 (m:Int),.string d] 46):=⟨_,rfl⟩
      rw [<-HWQ] at hq hy ⊢
      have hlY:wr.heap.size<wq.heap.size:=by rw [HWQ];simp
      have hgY:g≠wr.heap.size:=by omega
      have hco':=hq.rs.cell m (.string t) (by rw [HTT.out];simp [List.getD,htl,hm])
      have hfo':=hq.rs.froz m (by simp [htl,hm])
      have HQ:=hid hq
      have HY:=hid hy
      have HSV:=hid hco'
      have HFO:=hid hfo'
      clear hq hy hco' hfo' hco hfo x0 x1 hc0 hc1 HWQ
      refine wp_region_held_drew (S:=fun w'=>w'.cell? ⟨w2.heap.size,0,none⟩=some (.slice (some ⟨g,0,none⟩) ss.length c1)/\w'.cell? ⟨wr.heap.size,0,none⟩=some (.int .i64 (m:Int))/\w'.cell? ⟨wr.heap.size,1,none⟩=some (.string d)) (by kernel_rfl) ⟨HQ.out.rx.cell 0 _ rfl,HY.out.c0,HY.out.c1⟩ (fun hHe=>?_)
      refine TZ 0 (.pointer (some ⟨w2.heap.size,0,none⟩)) rfl hHe ?_
      simp only [PS]
      refine TZ 1 (.slice (some ⟨g,0,none⟩) ss.length c1) rfl hHe ?_
      simp only [PS]
      refine TZ 2 (.pointer (some ⟨wr.heap.size,0,none⟩)) rfl hHe ?_
      simp only [PS]
      refine TZ 3 (.int .i64 (m:Int)) rfl hHe ?_
      simp only [PS]
      refine TZ 4 (.pointer (some ⟨wr.heap.size,1,none⟩)) rfl hHe ?_
      simp only [PS]
      refine TZ 5 (.string d) rfl hHe ?_
      simp only [PS]
      refine TZ 6 (.int .i64 64) rfl hHe ?_
      simp only [PS]
      refine TZ 7 (.string (d.extract 0 64)) rfl hHe ?_
      simp only [PS]
      refine TZ 8 (.pointer (some ⟨w2.heap.size,0,none⟩)) rfl hHe ?_
      simp only [PS]
      refine TZ 9 (.slice (some ⟨g,0,none⟩) ss.length c1) rfl hHe ?_
      simp only [PS]
      refine TZ 10 (.pointer (some ⟨wr.heap.size,0,none⟩)) rfl hHe ?_
      simp only [PS]
      refine TZ 11 (.int .i64 (m:Int)) rfl hHe ?_
      simp only [PS]
      refine TZ 12 (.pointer (some ⟨g,m,none⟩)) rfl hHe ?_
      simp only [PS]
      refine TZ 14 (.int .i64 64) rfl hHe ?_
      simp only [PS]
      refine RD 13 rfl (fun K hK=>?_)
      have hcg:=HSV.out
      go_simp
      clear hcg
      refine hK.out _ _ hHe (fun _=>?_)
      clear hK K
      refine TZ 15 (.string (t.extract 64 t.size)) rfl hHe ?_
      simp only [PS]
      refine TZ 16 (.string (d.extract 0 64++t.extract 64 t.size)) rfl hHe ?_
      simp only [PS]
      refine TZ 17 (.pointer (some ⟨g,m,none⟩)) rfl hHe ?_
      simp only [PS]
      refine RD 18 rfl (fun K hK=>?_)
      have hcg:=HSV.out
      have hfg:=HFO.out
      go_simp
      clear hcg hfg
      refine hK.out _ _ ⟨(World.cell?_setCell_far _ _ _ _ (by show g≠w2.heap.size;omega)).trans hHe.1,(World.cell?_setCell_far _ _ _ _ (by show g≠wr.heap.size;omega)).trans hHe.2.1,(World.cell?_setCell_far _ _ _ _ (by show g≠wr.heap.size;omega)).trans hHe.2.2⟩ (fun _=>?_)
      clear hK K
      refine DN ?_
      have hV:d.extract 0 64=d.extract 0 64++t.extract 64 64:=by simp
      have hst':=HQ.out.drew.set m (by omega) (d.extract 0 64) hwg hRg hXg HNE.out
      have HST':=hid hst'
      have HK':Hid (lays zs (k+1) ((hsOf ws).drop (k+1)) ((ts.set m (d.extract 0 64)).map nums)=RES):=by
       show _=_
       rw [hV]
       have hft:fate zs k=64:=by unfold fate;rw [if_pos (by omega),<-HZZ.out,if_neg (by omega),if_pos (by omega)]
       have hdk:(hsOf ws).drop k=((m:Int),nums d)::(hsOf ws).drop (k+1):=by
        rw [drop_at (hsOf ws) k (0,[]) (by rw [hsOf_length];exact hlt)]
        have hgd:(hsOf ws).getD k (0,[])=((m:Int),nums d):=by
         have e:=HX.out
         simp [hsOf,List.getD,hlt] at e ⊢
         rw [<-e]
         exact ⟨rfl,rfl⟩
        rw [hgd]
       rw [<-HK.out,hdk,lays,Int.toNat_natCast,hft,List.map_set,nums_torn 64 d t (by omega) hd64 ht64]
       congr 2
       rw [HTT.out]
       simp [List.getD,htl,hm]
      have HT':Hid (∀ s∈ts.set m (d.extract 0 64),s.size=64):=fun s hs=>by
       rw [hV] at hs
       rcases List.mem_or_eq_of_mem_set hs with h1 | h1
       ·exact HT64.out s h1
       ·rw [h1];exact torn_size 64 d t (by omega) hd64 ht64
      clear hst' hHe hV
      go_wp2
      go_roundw
      case rel=>exact ⟨k+1,_,by omega,by go_num,by simp [htl],HT',HK',HST'.out⟩
      case measure=>simp [intOf];omega
     ·obtain ⟨F,rfl⟩:∃ F:Nat,z=(F:Int):=⟨z.toNat,by omega⟩
      go_wp2_with fail
      have hq:=HSR.out.below (below_new wr (.cells #[.int .i64 (m:Int),.string d] 46))
      have hy:=Cx.new wr (.int .i64 (m:Int)) (.string d) 46
      obtain ⟨wq,HWQ⟩:∃ wq,wq=wr.alloc (.cells #[.int .i64 (m:Int),.string d] 46):=⟨_,rfl⟩
      rw [<-HWQ] at hq hy ⊢
      have hlY:wr.heap.size<wq.heap.size:=by rw [HWQ];simp
      have hgY:g≠wr.heap.size:=by omega
      have hco':=hq.rs.cell m (.string t) (by rw [HTT.out];simp [List.getD,htl,hm])
      have hfo':=hq.rs.froz m (by simp [htl,hm])
      have HQ:=hid hq
      have HY:=hid hy
      have HSV:=hid hco'
      have HFO:=hid hfo'
      clear hq hy hco' hfo' hco hfo x0 x1 hc0 hc1 HWQ
      refine wp_region_held_drew (S:=fun w'=>w'.cell? ⟨w2.heap.size,0,none⟩=some (.slice (some ⟨g,0,none⟩) ss.length c1)/\w'.cell? ⟨wr.heap.size,0,none⟩=some (.int .i64 (m:Int))/\w'.cell? ⟨wr.heap.size,1,none⟩=some (.string d)) (by kernel_rfl) ⟨HQ.out.rx.cell 0 _ rfl,HY.out.c0,HY.out.c1⟩ (fun hHe=>?_)
      refine TZ 0 (.pointer (some ⟨w2.heap.size,0,none⟩)) rfl hHe ?_
      simp only [PS]
      refine TZ 1 (.slice (some ⟨g,0,none⟩) ss.length c1) rfl hHe ?_
      simp only [PS]
      refine TZ 2 (.pointer (some ⟨wr.heap.size,0,none⟩)) rfl hHe ?_
      simp only [PS]
      refine TZ 3 (.int .i64 (m:Int)) rfl hHe ?_
      simp only [PS]
      refine TZ 4 (.pointer (some ⟨wr.heap.size,1,none⟩)) rfl hHe ?_
      simp only [PS]
      refine TZ 5 (.string d) rfl hHe ?_
      simp only [PS]
      refine TZ 6 (.int .i64 (F:Int)) rfl hHe ?_
      simp only [PS]
      refine TZ 7 (.string (d.extract 0 F)) rfl hHe ?_
      simp only [PS]
      refine TZ 8 (.pointer (some ⟨w2.heap.size,0,none⟩)) rfl hHe ?_
      simp only [PS]
      refine TZ 9 (.slice (some ⟨g,0,none⟩) ss.length c1) rfl hHe ?_
      simp only [PS]
      refine TZ 10 (.pointer (some ⟨wr.heap.size,0,none⟩)) rfl hHe ?_
      simp only [PS]
      refine TZ 11 (.int .i64 (m:Int)) rfl hHe ?_
      simp only [PS]
      refine TZ 12 (.pointer (some ⟨g,m,none⟩)) rfl hHe ?_
      simp only [PS]
      refine TZ 14 (.int .i64 (F:Int)) rfl hHe ?_
      simp only [PS]
      refine RD 13 rfl (fun K hK=>?_)
      have hcg:=HSV.out
      go_simp
      clear hcg
      refine hK.out _ _ hHe (fun _=>?_)
      clear hK K
      refine TZ 15 (.string (t.extract F t.size)) rfl hHe ?_
      simp only [PS]
      refine TZ 16 (.string (d.extract 0 F++t.extract F t.size)) rfl hHe ?_
      simp only [PS]
      refine TZ 17 (.pointer (some ⟨g,m,none⟩)) rfl hHe ?_
      simp only [PS]
      refine RD 18 rfl (fun K hK=>?_)
      have hcg:=HSV.out
      have hfg:=HFO.out
      go_simp
      clear hcg hfg
      refine hK.out _ _ ⟨(World.cell?_setCell_far _ _ _ _ (by show g≠w2.heap.size;omega)).trans hHe.1,(World.cell?_setCell_far _ _ _ _ (by show g≠wr.heap.size;omega)).trans hHe.2.1,(World.cell?_setCell_far _ _ _ _ (by show g≠wr.heap.size;omega)).trans hHe.2.2⟩ (fun _=>?_)
      clear hK K
      refine DN ?_
      have hV:d.extract 0 F++t.extract F 64=d.extract 0 F++t.extract F 64:=by rfl
      have hst':=HQ.out.drew.set m (by omega) (d.extract 0 F++t.extract F 64) hwg hRg hXg HNE.out
      have HST':=hid hst'
      have HK':Hid (lays zs (k+1) ((hsOf ws).drop (k+1)) ((ts.set m (d.extract 0 F++t.extract F 64)).map nums)=RES):=by
       show _=_
       rw [hV]
       have hft:fate zs k=F:=by unfold fate;rw [if_pos (by omega),<-HZZ.out,if_neg (by omega),if_neg (by omega)];simp
       have hdk:(hsOf ws).drop k=((m:Int),nums d)::(hsOf ws).drop (k+1):=by
        rw [drop_at (hsOf ws) k (0,[]) (by rw [hsOf_length];exact hlt)]
        have hgd:(hsOf ws).getD k (0,[])=((m:Int),nums d):=by
         have e:=HX.out
         simp [hsOf,List.getD,hlt] at e ⊢
         rw [<-e]
         exact ⟨rfl,rfl⟩
        rw [hgd]
       rw [<-HK.out,hdk,lays,Int.toNat_natCast,hft,List.map_set,nums_torn F d t (by omega) hd64 ht64]
       congr 2
       rw [HTT.out]
       simp [List.getD,htl,hm]
      have HT':Hid (∀ s∈ts.set m (d.extract 0 F++t.extract F 64),s.size=64):=fun s hs=>by
       rw [hV] at hs
       rcases List.mem_or_eq_of_mem_set hs with h1 | h1
       ·exact HT64.out s h1
       ·rw [h1];exact torn_size F d t (by omega) hd64 ht64
      clear hst' hHe hV
      go_wp2
      go_roundw
      case rel=>exact ⟨k+1,_,by omega,by go_num,by simp [htl],HT',HK',HST'.out⟩
      case measure=>simp [intOf];omega
   ·go_wp2_with fail
    have hq:=HSR.out.below (below_new wr (.cells #[.int .i64 (m:Int),.string d] 46))
    have hy:=Cx.new wr (.int .i64 (m:Int)) (.string d) 46
    obtain ⟨wq,HWQ⟩:∃ wq,wq=wr.alloc (.cells #[.int .i64 (m:Int),.string d] 46):=⟨_,rfl⟩
    rw [<-HWQ] at hq hy ⊢
    have hlY:wr.heap.size<wq.heap.size:=by rw [HWQ];simp
    have hgY:g≠wr.heap.size:=by omega
    have hco':=hq.rs.cell m (.string t) (by rw [HTT.out];simp [List.getD,htl,hm])
    have hfo':=hq.rs.froz m (by simp [htl,hm])
    have HQ:=hid hq
    have HY:=hid hy
    have HSV:=hid hco'
    have HFO:=hid hfo'
    clear hq hy hco' hfo' hco hfo x0 x1 hc0 hc1 HWQ
    refine wp_region_held_drew (S:=fun w'=>w'.cell? ⟨w2.heap.size,0,none⟩=some (.slice (some ⟨g,0,none⟩) ss.length c1)/\w'.cell? ⟨wr.heap.size,0,none⟩=some (.int .i64 (m:Int))/\w'.cell? ⟨wr.heap.size,1,none⟩=some (.string d)) (by kernel_rfl) ⟨HQ.out.rx.cell 0 _ rfl,HY.out.c0,HY.out.c1⟩ (fun hHe=>?_)
    refine TZ 0 (.pointer (some ⟨w2.heap.size,0,none⟩)) rfl hHe ?_
    simp only [PS]
    refine TZ 1 (.slice (some ⟨g,0,none⟩) ss.length c1) rfl hHe ?_
    simp only [PS]
    refine TZ 2 (.pointer (some ⟨wr.heap.size,0,none⟩)) rfl hHe ?_
    simp only [PS]
    refine TZ 3 (.int .i64 (m:Int)) rfl hHe ?_
    simp only [PS]
    refine TZ 4 (.pointer (some ⟨wr.heap.size,1,none⟩)) rfl hHe ?_
    simp only [PS]
    refine TZ 5 (.string d) rfl hHe ?_
    simp only [PS]
    refine TZ 6 (.int .i64 0) rfl hHe ?_
    simp only [PS]
    refine TZ 7 (.string (d.extract 0 0)) rfl hHe ?_
    simp only [PS]
    refine TZ 8 (.pointer (some ⟨w2.heap.size,0,none⟩)) rfl hHe ?_
    simp only [PS]
    refine TZ 9 (.slice (some ⟨g,0,none⟩) ss.length c1) rfl hHe ?_
    simp only [PS]
    refine TZ 10 (.pointer (some ⟨wr.heap.size,0,none⟩)) rfl hHe ?_
    simp only [PS]
    refine TZ 11 (.int .i64 (m:Int)) rfl hHe ?_
    simp only [PS]
    refine TZ 12 (.pointer (some ⟨g,m,none⟩)) rfl hHe ?_
    simp only [PS]
    refine TZ 14 (.int .i64 0) rfl hHe ?_
    simp only [PS]
    refine RD 13 rfl (fun K hK=>?_)
    have hcg:=HSV.out
    go_simp
    clear hcg
    refine hK.out _ _ hHe (fun _=>?_)
    clear hK K
    refine TZ 15 (.string (t.extract 0 t.size)) rfl hHe ?_
    simp only [PS]
    refine TZ 16 (.string (d.extract 0 0++t.extract 0 t.size)) rfl hHe ?_
    simp only [PS]
    refine TZ 17 (.pointer (some ⟨g,m,none⟩)) rfl hHe ?_
    simp only [PS]
    refine RD 18 rfl (fun K hK=>?_)
    have hcg:=HSV.out
    have hfg:=HFO.out
    go_simp
    clear hcg hfg
    refine hK.out _ _ ⟨(World.cell?_setCell_far _ _ _ _ (by show g≠w2.heap.size;omega)).trans hHe.1,(World.cell?_setCell_far _ _ _ _ (by show g≠wr.heap.size;omega)).trans hHe.2.1,(World.cell?_setCell_far _ _ _ _ (by show g≠wr.heap.size;omega)).trans hHe.2.2⟩ (fun _=>?_)
    clear hK K
    refine DN ?_
    have hV:t.extract 0 64=d.extract 0 0++t.extract 0 64:=by simp
    have hst':=HQ.out.drew.set m (by omega) (t.extract 0 64) hwg hRg hXg HNE.out
    have HST':=hid hst'
    have HK':Hid (lays zs (k+1) ((hsOf ws).drop (k+1)) ((ts.set m (t.extract 0 64)).map nums)=RES):=by
     show _=_
     rw [hV]
     have hft:fate zs k=0:=by unfold fate;rw [if_neg (by omega)]
     have hdk:(hsOf ws).drop k=((m:Int),nums d)::(hsOf ws).drop (k+1):=by
      rw [drop_at (hsOf ws) k (0,[]) (by rw [hsOf_length];exact hlt)]
      have hgd:(hsOf ws).getD k (0,[])=((m:Int),nums d):=by
       have e:=HX.out
       simp [hsOf,List.getD,hlt] at e ⊢
       rw [<-e]
       exact ⟨rfl,rfl⟩
      rw [hgd]
     rw [<-HK.out,hdk,lays,Int.toNat_natCast,hft,List.map_set,nums_torn 0 d t (by omega) hd64 ht64]
     congr 2
     rw [HTT.out]
     simp [List.getD,htl,hm]
    have HT':Hid (∀ s∈ts.set m (t.extract 0 64),s.size=64):=fun s hs=>by
     rw [hV] at hs
     rcases List.mem_or_eq_of_mem_set hs with h1 | h1
     ·exact HT64.out s h1
     ·rw [h1];exact torn_size 0 d t (by omega) hd64 ht64
    clear hst' hHe hV
    go_wp2
    go_roundw
    case rel=>exact ⟨k+1,_,by omega,by go_num,by simp [htl],HT',HK',HST'.out⟩
    case measure=>simp [intOf];omega
  ·have hres:Hid (ts=secs RES):=by
    have:=HK.out
    rw [List.drop_of_length_le (by rw [hsOf_length];omega)] at this
    show _=_
    rw [<-this]
    show ts=(ts.map nums).map strOfNums
    rw [List.map_map]
    exact (List.map_id'' (fun s=>strOfNums_nums s) ts).symm
   rw [hres.out] at hst
   have HSR:=hid hst
   have q0:=hst.rx.cell 0 _ rfl
   have q1:=hst.rx.cell 1 _ rfl
   have f1:=hst.rx.froz 1 (by simp)
   have r0:=hst.rr.cell 0 _ rfl
   have r1:=hst.rr.cell 1 _ rfl
   obtain ⟨fr0,fr1⟩:=hst.rr.z2
   have hlX:=hst.rx.lt
   have hlR:=hst.rr.lt
   have n1:w2.heap.size≠w.heap.size+1:=by omega
   clear hst
   go_wp2
   have ne0:wr.heap.size≠w.heap.size+1:=by omega
   refine bodyPost_ret (v:=diskV (some ⟨g,0,none⟩) ss.length c1 (some ⟨wr.heap.size,0,none⟩) 0 0) (by simp [results,Try.results63,go_sem,r0,r1,n1,ne0,hlR]) rfl ⟨_,_,_,_,rfl,⟨.inr ⟨g,rfl,?_⟩,.inl rfl,.inr (.inl rfl)⟩,fun k hk=>?_,?_⟩
   ·exact ((((HSR.out.rs.other _ (by show w2.heap.size≠g;exact hXg) _).other _ (by show w.heap.size+1≠g;exact hRg) _).other _ (by show w.heap.size+1≠g;exact hRg) _)).alloc _
   ·unfold blk at hk
    rw [if_neg hlen] at hk
    cases hk
    exact hwg
   ·exact (((HSR.out.bel.setCell (by show w.heap.size<=w2.heap.size;omega) _).setCell (by show w.heap.size<=w.heap.size+1;omega) _).setCell (by show w.heap.size<=w.heap.size+1;omega) _).alloc (by simp;omega) _
end
def icells (zs:List Int):List Value:=zs.map (Value.int .i64)
theorem Row.ints {w:World} {g:Nat} {zs:List Int} (h:Row w g (icells zs)):Ints w (some ⟨g,0,none⟩) zs :=
 .inr ⟨g,0,rfl,h.lt,fun i hi=>by rw [Nat.zero_add];exact h.cell i _ (by simp [icells,List.getD,hi])⟩
theorem pl_i_no (a:Option Addr) (ss:List ByteArray) (c:Nat) (a':Option Addr) (ws:List (Int×ByteArray)) (c':Nat) (v:Value) (w:World) (h:Strs w a ss) (h':Wrs w a' ws) (hl:ss.length<=1048576) (hl':ws.length<=1048576) (hs:∀ s∈ss,s.size<=1048576) (hs':∀ x∈ws,x.2.size<=1048576) (hok:diskOk ss ws=false) :
  Calls Try.prog 10 #[diskV a ss.length c a' ws.length c',v] w fun e w'=>e=.returned (diskV none 0 0 none 0 0)/\Below w.heap.size w w':=by
 have hb0:∀ o1 o2,Below w.heap.size w ((w.alloc o1).alloc o2):=fun o1 o2=>((Below.refl _ _).alloc (Nat.le_refl _) _).alloc (by simp) _
 go_enter Try.func10,Try.ntmps10
 go_wp2_with fail
 refine (valid_i a ss c a' ws c' _ (h.below (hb0 _ _)) (h'.below (hb0 _ _)) hl hl' hs hs').mono ?_
 rw [hok]
 rintro e w1 ⟨rfl,hb1⟩
 have HB1:=hid ((hb0 _ _).trans (hb1.mono (by simp;omega)))
 have rR:=(row_new' (w.alloc (.cells #[.slice a ss.length c,.slice a' ws.length c'] 26)) #[.slice none 0 0,.slice none 0 0] 26 (w.heap.size+1) (by simp)).below hb1
 have r0:=rR.cell 0 _ rfl
 have r1:=rR.cell 1 _ rfl
 obtain ⟨fr0,fr1⟩:=rR.z2
 clear rR hb1
 go_wp2
 exact bodyPost_ret (v:=diskV none 0 0 none 0 0) (by simp [results,Try.results10,go_sem,r0,r1]) rfl ⟨rfl,(HB1.out.setCell (by show w.heap.size<=w.heap.size+1;omega) _).setCell (by show w.heap.size<=w.heap.size+1;omega) _⟩
theorem pl_s_no (a:Option Addr) (ss:List ByteArray) (c:Nat) (a':Option Addr) (ws:List (Int×ByteArray)) (c':Nat) (v:Value) (w:World) (h:Strs w a ss) (h':Wrs w a' ws) (hl:ss.length<=1048576) (hl':ws.length<=1048576) (hs:∀ s∈ss,s.size<=1048576) (hs':∀ x∈ws,x.2.size<=1048576) (hok:diskOk ss ws=false) :
  Calls Try.prog 63 #[diskV a ss.length c a' ws.length c',v] w fun e w'=>e=.returned (diskV none 0 0 none 0 0)/\Below w.heap.size w w':=by
 have hb0:∀ o1 o2,Below w.heap.size w ((w.alloc o1).alloc o2):=fun o1 o2=>((Below.refl _ _).alloc (Nat.le_refl _) _).alloc (by simp) _
 go_enter Try.func63,Try.ntmps63
 go_wp2_with fail
 refine (valid_s a ss c a' ws c' _ (h.below (hb0 _ _)) (h'.below (hb0 _ _)) hl hl' hs hs').mono ?_
 rw [hok]
 rintro e w1 ⟨rfl,hb1⟩
 have HB1:=hid ((hb0 _ _).trans (hb1.mono (by simp;omega)))
 have rR:=(row_new' (w.alloc (.cells #[.slice a ss.length c,.slice a' ws.length c'] 26)) #[.slice none 0 0,.slice none 0 0] 26 (w.heap.size+1) (by simp)).below hb1
 have r0:=rR.cell 0 _ rfl
 have r1:=rR.cell 1 _ rfl
 obtain ⟨fr0,fr1⟩:=rR.z2
 clear rR hb1
 go_wp2
 exact bodyPost_ret (v:=diskV none 0 0 none 0 0) (by simp [results,Try.results63,go_sem,r0,r1]) rfl ⟨rfl,(HB1.out.setCell (by show w.heap.size<=w.heap.size+1;omega) _).setCell (by show w.heap.size<=w.heap.size+1;omega) _⟩
def plSS (zs:List Int) (ss:List ByteArray) (ws:List (Int×ByteArray)):List ByteArray:=if diskOk ss ws=true then secs (lays zs 0 (hsOf ws) (ss.map nums)) else []
theorem pl_i_any (a:Option Addr) (ss:List ByteArray) (c:Nat) (a':Option Addr) (ws:List (Int×ByteArray)) (c':Nat) (f:Option Addr) (zs:List Int) (cf:Nat) (w:World) (h:Strs w a ss) (h':Wrs w a' ws) (hz:Ints w f zs) (hlz:zs.length<=1048576) (hl:ss.length<=1048576) (hl':ws.length<=1048576) (hs:∀ s∈ss,s.size<=1048576) (hs':∀ x∈ws,x.2.size<=1048576) :
  Calls Try.prog 10 #[diskV a ss.length c a' ws.length c',.slice f zs.length cf] w fun e w'=>∃ a1 c1 a1' c1',e=.returned (diskV a1 (plSS zs ss ws).length c1 a1' 0 c1')/\OwnS w' a1 ((plSS zs ss ws).map Value.string)/\(∀ g,blk a1 (plSS zs ss ws).length=some g->w.heap.size<=g)/\Below w.heap.size w w':=by
 by_cases hok:diskOk ss ws=true
 ·have e1:plSS zs ss ws=secs (lays zs 0 (hsOf ws) (ss.map nums)):=by simp [plSS,hok]
  have e2:(plSS zs ss ws).length=ss.length:=by rw [e1];simp [secs,lays_length]
  refine (pl_i a ss c a' ws c' f zs cf w h h' hz hlz hok).mono ?_
  rintro e w' ⟨a1,c1,a1',c1',rfl,ho,hg,hb⟩
  rw [e2]
  exact ⟨a1,c1,a1',c1',rfl,by rw [e1];exact ho.s,hg,hb⟩
 ·have e1:plSS zs ss ws=[]:=by simp [plSS,hok]
  rw [e1]
  refine (pl_i_no a ss c a' ws c' _ w h h' hl hl' hs hs' (by simpa using hok)).mono ?_
  rintro e w' ⟨rfl,hb⟩
  exact ⟨none,0,none,0,rfl,.inl rfl,(fun g hg=>by cases hg),hb⟩
theorem pl_s_any (a:Option Addr) (ss:List ByteArray) (c:Nat) (a':Option Addr) (ws:List (Int×ByteArray)) (c':Nat) (f:Option Addr) (zs:List Int) (cf:Nat) (w:World) (h:Strs w a ss) (h':Wrs w a' ws) (hz:Ints w f zs) (hlz:zs.length<=1048576) (hl:ss.length<=1048576) (hl':ws.length<=1048576) (hs:∀ s∈ss,s.size<=1048576) (hs':∀ x∈ws,x.2.size<=1048576) :
  Calls Try.prog 63 #[diskV a ss.length c a' ws.length c',.slice f zs.length cf] w fun e w'=>∃ a1 c1 a1' c1',e=.returned (diskV a1 (plSS zs ss ws).length c1 a1' 0 c1')/\OwnS w' a1 ((plSS zs ss ws).map Value.string)/\(∀ g,blk a1 (plSS zs ss ws).length=some g->w.heap.size<=g)/\Below w.heap.size w w':=by
 by_cases hok:diskOk ss ws=true
 ·have e1:plSS zs ss ws=secs (lays zs 0 (hsOf ws) (ss.map nums)):=by simp [plSS,hok]
  have e2:(plSS zs ss ws).length=ss.length:=by rw [e1];simp [secs,lays_length]
  refine (pl_s a ss c a' ws c' f zs cf w h h' hz hlz hok).mono ?_
  rintro e w' ⟨a1,c1,a1',c1',rfl,ho,hg,hb⟩
  rw [e2]
  exact ⟨a1,c1,a1',c1',rfl,by rw [e1];exact ho.s,hg,hb⟩
 ·have e1:plSS zs ss ws=[]:=by simp [plSS,hok]
  rw [e1]
  refine (pl_s_no a ss c a' ws c' _ w h h' hl hl' hs hs' (by simpa using hok)).mono ?_
  rintro e w' ⟨rfl,hb⟩
  exact ⟨none,0,none,0,rfl,.inl rfl,(fun g hg=>by cases hg),hb⟩
end Go.Proofs.Ythdilmkbnpmdaaa
