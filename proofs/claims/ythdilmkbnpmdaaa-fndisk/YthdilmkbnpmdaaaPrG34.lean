import Derived.Test.YthdilmkbnpmdaaaPrPk
import Derived.Test.YthdilmkbnpmdaaaPrG52
import Derived.ChangeSlices
import Derived.OpenShut
set_option maxHeartbeats 32000000
set_option maxRecDepth 8000
set_option linter.unusedVariables false
set_option linter.unusedSimpArgs false
namespace Go.Proofs.Ythdilmkbnpmdaaa
open Go.RowKit
theorem Rdr.set {w:World} {R:Nat} {a:Option Addr} {n c:Nat} {p:Int} (h:Rdr w R a n c p) (q:Int) (q0:0<=q) (q1:q<=100000000):Rdr (w.setCell ⟨R,1,none⟩ (.int .i64 q)) R a n c q:=by
 obtain ⟨g,o,ha,hx⟩:=h.bytes
 refine ⟨(World.cell?_setCell_other w ⟨R,1,none⟩ ⟨R,0,none⟩ _ (fun e=>absurd (congrArg Addr.off e) (by show ¬ (1=0);decide))).trans h.b,World.cell?_setCell_same w _ _ h.pc,by rw [World.frozen?_setCell];exact h.f,⟨g,o,ha,fun i hi=>?_⟩,q0,q1,h.n1⟩
 obtain ⟨hgR,x,hc,hx0,hx1⟩:=hx i hi
 exact ⟨hgR,x,(World.cell?_setCell_far _ _ _ _ (fun e=>hgR e.symm)).trans hc,hx0,hx1⟩
theorem Rdr.drew {w:World} {R:Nat} {a:Option Addr} {n c:Nat} {p:Int} (h:Rdr w R a n c p):Rdr w.drew R a n c p:=⟨h.b,h.pc,h.f,h.bytes,h.p0,h.p1,h.n1⟩
theorem grown_self (w:World) (R:Nat) (v:Value):w.grownBy (w.setCell ⟨R,1,none⟩ v) (some R) :=
 ⟨rfl,rfl,rfl,by rw [World.size_setCell];exact Nat.le_refl _,fun i hi hr=>Below.heap_setCell _ _ _ _ (fun e=>hr (congrArg some e))⟩
theorem pick_r (R:Nat) (a:Option Addr) (n c:Nat) (p m:Int) (w:World) (h:Rdr w R a n c p) (hp:p<100000000):Calls Try.prog 15 #[.pointer (some ⟨R,0,none⟩),.int .i64 m] w fun e w'=>(∃ v,e=.returned (.int .i64 v)/\0<=v/\(v=0\/v<m))/\Rdr w' R a n c (p+1)/\w.grownBy w' (some R):=by
 have p0:=h.p0
 refine (pick_s R a n c p m w h).mono fun e w' hh=>?_
 obtain ⟨hv,rfl | rfl⟩:=hh
 ·exact ⟨hv,h.set (p+1) (by omega) (by omega),grown_self w R _⟩
 ·refine ⟨hv,(h.set (p+1) (by omega) (by omega)).drew,?_⟩
  have hg:=grown_self w R (.int .i64 (p+1))
  exact ⟨hg.os,hg.tape,hg.output,hg.size,hg.block⟩
def Bys (w:World) (a:Option Addr) (n:Nat):Prop:=∃ g o,(n=0\/a=some ⟨g,o,none⟩)/\∀ i,i<n->g<w.heap.size/\∃ x:Int,w.cell? ⟨g,o+i,none⟩=some (.int .u8 x)/\0<=x/\x<=255
theorem Bys.below {w w':World} {a:Option Addr} {n:Nat} (h:Bys w a n) (hb:Below w.heap.size w w'):Bys w' a n:=by
 obtain ⟨g,o,ha,hx⟩:=h
 refine ⟨g,o,ha,fun i hi=>?_⟩
 obtain ⟨hg,x,hc,h0,h1⟩:=hx i hi
 exact ⟨Nat.lt_of_lt_of_le hg hb.size,x,(hb.cell (p:=⟨g,o+i,none⟩) hg).trans hc,h0,h1⟩
theorem Bys.rdr {w:World} {a:Option Addr} {n m:Nat} (h:Bys w a n) (hm:m<=n) (h2:m<=2000) (c:Nat) (t:TypeId):Rdr (w.alloc (.cells #[.slice a m c,.int .i64 0] t)) w.heap.size a m c 0:=by
 obtain ⟨g,o,ha,hx⟩:=h
 refine ⟨by simp,by simp,?_,⟨g,o,?_,fun i hi=>?_⟩,by omega,by omega,h2⟩
 ·rw [frozen?_alloc_cells]
  have e:w.heap[w.heap.size]?=none:=by simp
  simp [World.frozen?,e]
 ·rcases ha with h | h
  ·exact .inl (by omega)
  ·exact .inr h
 ·obtain ⟨hg,x,hc,h0,h1⟩:=hx i (by omega)
  exact ⟨by omega,x,(World.cell?_alloc_past _ _ _ (by exact hg)).trans hc,h0,h1⟩
theorem lt_of_cell {w:World} {g i:Nat} {v:Value} (h:w.cell? ⟨g,i,none⟩=some v):g<w.heap.size:=by
 rcases Nat.lt_or_ge g w.heap.size with hl | hl
 ·exact hl
 ·exfalso
  have:w.heap[g]?=none:=Array.getElem?_eq_none hl
  simp [World.cell?,this] at h
theorem Rdr.below {w w':World} {R:Nat} {a:Option Addr} {n c:Nat} {p:Int} (h:Rdr w R a n c p) (hb:Below w.heap.size w w'):Rdr w' R a n c p:=by
 obtain ⟨g,o,ha,hx⟩:=h.bytes
 have hR:=lt_of_cell h.pc
 refine ⟨(hb.cell (p:=⟨R,0,none⟩) hR).trans h.b,(hb.cell (p:=⟨R,1,none⟩) hR).trans h.pc,(hb.frozen (p:=⟨R,1,none⟩) hR).trans h.f,⟨g,o,ha,fun i hi=>?_⟩,h.p0,h.p1,h.n1⟩
 obtain ⟨hgR,x,hc,hx0,hx1⟩:=hx i hi
 exact ⟨hgR,x,(hb.cell (p:=⟨g,o+i,none⟩) (lt_of_cell hc)).trans hc,hx0,hx1⟩
theorem cell_grown {w w':World} {R b i:Nat} {v:Value} (hg:w.grownBy w' (some R)) (hne:b≠R) (h:w.cell? ⟨b,i,none⟩=some v):w'.cell? ⟨b,i,none⟩=some v :=
 (World.cell?_of_block (a:=⟨b,i,none⟩) (hg.block b (lt_of_cell h) (fun e=>hne (by injection e)))).trans h
theorem many_b0 (s:ByteArray) (n:Int) (hs:s.size<=64) (hn:n<=1000):Hid (s.size*n.toNat+ByteArray.empty.size<=64000):=by
 show _<=_
 have h1:n.toNat<=1000:=by omega
 have h2:=Nat.mul_le_mul hs h1
 have h3:ByteArray.empty.size=0:=rfl
 omega
theorem many_r (s:ByteArray) (n:Int) (w:World) (hs:s.size<=64) (hn:n<=1000):Calls Try.prog 31 #[.string s,.int .i64 n] w fun e w'=>(∃ t:ByteArray,e=.returned (.string t)/\t.size<=64000)/\Below w.heap.size w w':=by
 go_enter Try.func31,Try.ntmps31
 go_wp2
 go_loop [0,1,5] (fun sv nv ov=>∃ (t u:ByteArray) (m:Int),sv=.string t/\nv=.int .i64 m/\ov=.string u/\m<=1000/\Hid (t.size*m.toNat+u.size<=64000)/\t.size<=128000) (fun _ nv _=>(intOf nv).toNat)
 case atStart=>exact ⟨s,ByteArray.empty,n,rfl,rfl,rfl,hn,many_b0 s n hs hn,by omega⟩
 case round =>
  obtain ⟨t,u,m,rfl,rfl,rfl,hm,HB,ht⟩:=hrel
  by_cases h0:0<m
  ·obtain ⟨q,r,hq,hr⟩:∃ q r:Nat,m.toNat=2*q+r/\r<2:=⟨m.toNat / 2,m.toNat % 2,by omega,by omega⟩
   have hmq:m=2*(q:Int)+(r:Int):=by omega
   have hb:=HB.out
   rw [hq,Nat.mul_add] at hb
   have e2:t.size*(2*q)=2*(t.size*q):=by rw [Nat.mul_left_comm]
   rw [e2] at hb
   obtain ⟨P,hP⟩:∃ P,t.size*q=P:=⟨_,rfl⟩
   rw [hP] at hb
   have htb:t.size<=64000:=by
    rcases Nat.eq_zero_or_pos r with h | h
    ·subst h
     have hq1:1<=q:=by omega
     have:t.size<=t.size*q:=Nat.le_mul_of_pos_right _ hq1
     omega
    ·have:t.size*1<=t.size*r:=Nat.mul_le_mul_left _ h
     omega
   have z1:¬ (9223372036854775807<t.size+t.size):=by omega
   have hd:m.tdiv 2=(q:Int):=by rw [Int.tdiv_eq_ediv_of_nonneg (by omega)];omega
   have hd':m / 2=(q:Int):=by omega
   rcases Nat.eq_zero_or_pos r with h | h
   ·subst h
    have hr0:m % 2=0:=by omega
    have hr1:¬ (m % 2=1):=by omega
    have hr2:¬ (m.tmod 2=1):=by rw [Int.tmod_eq_emod_of_nonneg (by omega)];omega
    have HN:Hid ((t++t).size*((q:Int)).toNat+u.size<=64000):=by
     show _<=_
     rw [Int.toNat_natCast,ByteArray.size_append,Nat.add_mul,hP]
     omega
    clear HB hb hq
    go_wp2
    exact ⟨⟨_,_,_,rfl,rfl,rfl,by omega,HN.out,by rw [ByteArray.size_append];omega⟩,by simp [intOf];omega⟩
   ·have hr1:r=1:=by omega
    subst hr1
    have hr1:m % 2=1:=by omega
    have hr2:m.tmod 2=1:=by rw [Int.tmod_eq_emod_of_nonneg (by omega)];omega
    have z2:¬ (9223372036854775807<u.size+t.size):=by omega
    have HN:Hid ((t++t).size*((q:Int)).toNat+(u++t).size<=64000):=by
     show _<=_
     rw [Int.toNat_natCast,ByteArray.size_append,ByteArray.size_append,Nat.add_mul,hP]
     omega
    clear HB hb hq
    go_wp2
    exact ⟨⟨_,_,_,rfl,rfl,rfl,by omega,(by rw [show ((2*(q:Int)+1) / 2)=(q:Int) by omega];exact HN.out),by rw [ByteArray.size_append];omega⟩,by simp [intOf];omega⟩
  ·go_wp2
   go_ret
   exact ⟨⟨u,rfl,by have:=HB.out;omega⟩,Below.refl _ _⟩
def RdTo (W:World) (R:Nat) (a:Option Addr) (n c:Nat) (p:Int) (d:Int) (w:World):Prop:=(∃ q,p<=q/\q<=p+d/\Rdr w R a n c q)/\W.grownBy w (some R)
theorem ext1 (t b:ByteArray) {k:Int} (h:(t.size:Int)+k<=4):((t++b.extract 0 1).size:Int)+(k-1)<=4:=by
 rw [ByteArray.size_append]
 have:(b.extract 0 1).size<=1:=by simp only [ByteArray.size_extract];omega
 omega
theorem text_r (R:Nat) (a:Option Addr) (n c:Nat) (p:Int) (w:World) (h:Rdr w R a n c p) (hp:p<99999000):Calls Try.prog 32 #[.pointer (some ⟨R,0,none⟩)] w fun e w'=>(∃ t:ByteArray,e=.returned (.string t)/\t.size<=64000)/\RdTo w R a n c p 10 w':=by
 have hR:=lt_of_cell h.pc
 have p0:=h.p0
 go_enter Try.func32,Try.ntmps32
 go_wp2_with fail
 refine (pick_r R a n c p 8 _ h (by omega)).mono ?_
 rintro e w1 ⟨⟨v,rfl,v0,v1⟩,hr,hg⟩
 by_cases e0:v=0
 ·subst e0
  go_wp2
  go_ret
  exact ⟨⟨_,rfl,by decide⟩,⟨p+1,by omega,by omega,hr⟩,hg⟩
 by_cases e1:v=1
 ·subst e1
  go_wp2
  go_ret
  exact ⟨⟨_,rfl,by decide⟩,⟨p+1,by omega,by omega,hr⟩,hg⟩
 by_cases e2:v=2
 ·subst e2
  go_wp2_with fail
  refine (pick_r R a n c (p+1) 21 _ hr (by omega)).mono ?_
  rintro e w2 ⟨⟨u,rfl,u0,u1⟩,hr2,hg2⟩
  have hu:IntKind.i64.wrap (5+u)=5+u:=wrap_i64_id _ (by omega) (by omega)
  go_wp2_with fail
  refine (many_r _ (5+u) _ (by decide) (by omega)).mono ?_
  rintro e w3 ⟨⟨t,rfl,ht⟩,hb3⟩
  go_wp2
  go_ret
  exact ⟨⟨t,rfl,ht⟩,⟨p+1+1,by omega,by omega,hr2.below hb3⟩,grown_trans (grown_trans hg hg2) (grown_of_below _ hb3)⟩
 by_cases e3:v=3
 ·subst e3
  go_wp2
  go_ret
  exact ⟨⟨_,rfl,by decide⟩,⟨p+1,by omega,by omega,hr⟩,hg⟩
 go_wp2_with fail
 refine (pick_r R a n c (p+1) 4 _ hr (by omega)).mono ?_
 rintro e w2 ⟨⟨u,rfl,u0,u1⟩,hr2,hg2⟩
 have hu:IntKind.i64.wrap (1+u)=1+u:=wrap_i64_id _ (by omega) (by omega)
 have HR2:=hid hr2
 have HG2:=hid (grown_trans hg hg2)
 clear hr hg hr2 hg2 h
 go_wp2
 go_loopw [3,4] (fun ov nv wr=>∃ (t:ByteArray) (k q:Int),ov=.string t/\nv=.int .i64 k/\0<=k/\k<=4/\(t.size:Int)+k<=4/\p<=q/\q+k<=p+6/\Rdr wr R a n c q/\w.grownBy wr (some R)) (fun _ nv _=>(intOf nv).toNat)
 case atStart=>exact ⟨⟨#[]⟩,1+u,p+1+1,rfl,rfl,by omega,by omega,by show (0:Int)+(1+u)<=4;omega,by omega,by omega,HR2.out,HG2.out⟩
 case round =>
  obtain ⟨t,k,q,rfl,rfl,k0,k1,htk,q0,q1,hrd,hgr⟩:=hrel
  by_cases hk:0<k
  ·have HG:=hid hgr
   clear hgr
   go_wp2_with fail
   refine (pick_r R a n c q 4 _ hrd (by omega)).mono ?_
   rintro e w3 ⟨⟨x,rfl,x0,x1⟩,hr3,hg3⟩
   have HR3:=hid hr3
   have HG3:=hid (grown_trans HG.out hg3)
   clear hr3 hg3 hrd HG
   have hkw:IntKind.i64.wrap (k-1)=k-1:=wrap_i64_id _ (by omega) (by omega)
   have hts:t.size<=4:=by omega
   have z1:¬ (9223372036854775807<t.size+1):=by omega
   have hx:x=0\/x=1\/x=2\/x=3:=by omega
   clear x0 x1
   rcases hx with rfl | rfl | rfl | rfl
   all_goals go_wp2
   all_goals go_roundw
   all_goals first
    | exact ⟨_,k-1,q+1,rfl,rfl,by omega,by omega,ext1 _ _ (by omega),by omega,by omega,HR3.out,HG3.out⟩
    | (simp [intOf];omega)
  ·go_wp2
   go_ret
   exact ⟨⟨t,rfl,by omega⟩,⟨q,by omega,by omega,hrd⟩,hgr⟩
theorem below_nw (w:World) (o:Obj):Below w.heap.size w (w.alloc o):=(Below.refl _ _).alloc (Nat.le_refl _) _
theorem grown_setN {a b:World} {r:Option Nat} (h:a.grownBy b r) (p:Addr) (hp:a.heap.size<=p.block) (v:Value):a.grownBy (b.setCell p v) r :=
 ⟨h.os,h.tape,h.output,by rw [World.size_setCell];exact h.size,fun i hi hr=>(Below.heap_setCell _ _ _ _ (fun e=>by omega)).trans (h.block i hi hr)⟩
theorem Rdr.keep {w w':World} {R N:Nat} {a:Option Addr} {n c:Nat} {p:Int} (h:Rdr w R a n c p) (hN:R<N) (hg:∀ g o,a=some ⟨g,o,none⟩->0<n->g<N) (hb:Below N w w'):Rdr w' R a n c p:=by
 obtain ⟨g,o,ha,hx⟩:=h.bytes
 refine ⟨(hb.cell (p:=⟨R,0,none⟩) hN).trans h.b,(hb.cell (p:=⟨R,1,none⟩) hN).trans h.pc,(hb.frozen (p:=⟨R,1,none⟩) hN).trans h.f,⟨g,o,ha,fun i hi=>?_⟩,h.p0,h.p1,h.n1⟩
 obtain ⟨hgR,x,hc,hx0,hx1⟩:=hx i hi
 exact ⟨hgR,x,(hb.cell (p:=⟨g,o+i,none⟩) (hg g o (ha.resolve_left (by omega)) (by omega))).trans hc,hx0,hx1⟩
theorem Rdr.lts {w:World} {R:Nat} {a:Option Addr} {n c:Nat} {p:Int} (h:Rdr w R a n c p):R<w.heap.size/\∀ g o,a=some ⟨g,o,none⟩->0<n->g<w.heap.size:=by
 refine ⟨lt_of_cell h.pc,fun g o ha hn=>?_⟩
 obtain ⟨g',o',ha',hx⟩:=h.bytes
 have e:=ha'.resolve_left (by omega)
 rw [ha] at e
 injection e with e
 injection e with e1 e2
 subst e1
 obtain ⟨_,x,hc,_⟩:=hx 0 hn
 exact lt_of_cell hc
def chsLe (rs:List (ByteArray×ByteArray×Bool)) (k v:Nat):Prop:=∀ x∈rs,x.1.size<=k/\x.2.1.size<=v
theorem owns_slice {w:World} {B:Nat} {e:TypeId} {k:Nat} {y:Value} {m:Nat} {cs:List Value} (h:w.ownsRow B e k y m cs):∃ ya yc,y=.slice ya m yc:=by
 rcases owns_forms h with ⟨h1,h2⟩ | ⟨g,cap,h1,_⟩
 ·exact ⟨none,0,by rw [h1,h2]⟩
 ·exact ⟨_,cap,h1⟩
structure BdS (w0 w:World) (e:TypeId) (k:Nat) (R:Nat) (a:Option Addr) (n c:Nat) (q:Int) (y:Value) (m:Nat) (cs:List Value):Prop where
 rd:Rdr w R a n c q
 own:w.ownsRow w0.heap.size e k y m cs
 gr:w0.grownBy w (some R)
 lR:R<w0.heap.size
 ga:∀ g o,a=some ⟨g,o,none⟩->0<n->g<w0.heap.size
theorem BdS.pick {w0 w w':World} {e:TypeId} {k:Nat} {R:Nat} {a:Option Addr} {n c:Nat} {q q':Int} {y:Value} {m:Nat} {cs:List Value} (h:BdS w0 w e k R a n c q y m cs) (hr:Rdr w' R a n c q') (hg:w.grownBy w' (some R)):BdS w0 w' e k R a n c q' y m cs :=
 ⟨hr,h.own.kept hg (.inr (fun e=>by have:=(h.own.lt _ e).1;have:=h.lR;omega)),grown_trans h.gr hg,h.lR,h.ga⟩
theorem BdS.below {w0 w w':World} {e:TypeId} {k:Nat} {R:Nat} {a:Option Addr} {n c:Nat} {q:Int} {y:Value} {m:Nat} {cs:List Value} (h:BdS w0 w e k R a n c q y m cs) (hb:Below w.heap.size w w'):BdS w0 w' e k R a n c q y m cs :=
 ⟨h.rd.below hb,owns_below h.own hb,grown_trans h.gr (grown_of_below _ hb),h.lR,h.ga⟩
theorem BdS.drew {w0 w:World} {e:TypeId} {k:Nat} {R:Nat} {a:Option Addr} {n c:Nat} {q:Int} {y:Value} {m:Nat} {cs:List Value} (h:BdS w0 w e k R a n c q y m cs):BdS w0 w.drew e k R a n c q y m cs:=h.below (Below.refl _ _).drew
theorem BdS.lt {w0 w:World} {e:TypeId} {k:Nat} {R:Nat} {a:Option Addr} {n c:Nat} {q:Int} {y:Value} {m:Nat} {cs:List Value} (h:BdS w0 w e k R a n c q y m cs):w0.heap.size<=w.heap.size:=h.gr.size
theorem BdS.set {w0 w:World} {e:TypeId} {k:Nat} {R:Nat} {a:Option Addr} {n c:Nat} {q:Int} {y:Value} {m:Nat} {cs:List Value} (h:BdS w0 w e k R a n c q y m cs) (X i:Nat) (hX:w0.heap.size<=X) (hy:y.ownBlock≠some X) (v:Value):BdS w0 (w.setCell ⟨X,i,none⟩ v) e k R a n c q y m cs:=by
 have hl:=h.lR
 refine ⟨h.rd.keep (N:=w0.heap.size) hl h.ga ((Below.refl _ _).setCell hX _),ownsRow_setCell_other h.own hy v,grown_setN h.gr _ hX _,hl,h.ga⟩
theorem BdS.push {w0 w w':World} {e:TypeId} {k:Nat} {R:Nat} {a:Option Addr} {n c:Nat} {q:Int} {y y':Value} {m m':Nat} {cs cs':List Value} (h:BdS w0 w e k R a n c q y m cs) (hown:w'.ownsRow w0.heap.size e k y' m' cs') (hg:w.grownBy w' y.ownBlock):BdS w0 w' e k R a n c q y' m' cs':=by
 have hb:Below w0.heap.size w w':=grown_below hg h.lt (fun g e=>(h.own.lt _ e).1)
 exact ⟨h.rd.keep (N:=w0.heap.size) h.lR h.ga hb,hown,⟨hg.os.trans h.gr.os,hg.tape.trans h.gr.tape,hg.output.trans h.gr.output,Nat.le_trans h.gr.size hg.size,fun i hi hr=>(hb.block i hi).trans (h.gr.block i hi hr)⟩,h.lR,h.ga⟩
structure BdX (w0 w:World) (e:TypeId) (k:Nat) (R:Nat) (a:Option Addr) (n c:Nat) (q:Int) (y:Value) (m:Nat) (cs:List Value) (X:Nat) (xs:List Value):Prop where
 s:BdS w0 w e k R a n c q y m cs
 row:Row w X xs
 xo:y.ownBlock≠some X
 xb:w0.heap.size<=X
theorem BdX.ne {w0 w:World} {e:TypeId} {k:Nat} {R:Nat} {a:Option Addr} {n c:Nat} {q:Int} {y:Value} {m:Nat} {cs:List Value} {X:Nat} {xs:List Value} (h:BdX w0 w e k R a n c q y m cs X xs):X≠R:=by have:=h.xb;have:=h.s.lR;omega
theorem BdX.pick {w0 w w':World} {e:TypeId} {k:Nat} {R:Nat} {a:Option Addr} {n c:Nat} {q q':Int} {y:Value} {m:Nat} {cs:List Value} {X:Nat} {xs:List Value} (h:BdX w0 w e k R a n c q y m cs X xs) (hr:Rdr w' R a n c q') (hg:w.grownBy w' (some R)):BdX w0 w' e k R a n c q' y m cs X xs :=
 ⟨h.s.pick hr hg,h.row.grown hg (fun e=>h.ne (by injection e)),h.xo,h.xb⟩
theorem BdX.below {w0 w w':World} {e:TypeId} {k:Nat} {R:Nat} {a:Option Addr} {n c:Nat} {q:Int} {y:Value} {m:Nat} {cs:List Value} {X:Nat} {xs:List Value} (h:BdX w0 w e k R a n c q y m cs X xs) (hb:Below w.heap.size w w'):BdX w0 w' e k R a n c q y m cs X xs :=
 ⟨h.s.below hb,h.row.below hb,h.xo,h.xb⟩
theorem BdX.drew {w0 w:World} {e:TypeId} {k:Nat} {R:Nat} {a:Option Addr} {n c:Nat} {q:Int} {y:Value} {m:Nat} {cs:List Value} {X:Nat} {xs:List Value} (h:BdX w0 w e k R a n c q y m cs X xs):BdX w0 w.drew e k R a n c q y m cs X xs:=h.below (Below.refl _ _).drew
theorem BdX.set {w0 w:World} {e:TypeId} {k:Nat} {R:Nat} {a:Option Addr} {n c:Nat} {q:Int} {y:Value} {m:Nat} {cs:List Value} {X:Nat} {xs:List Value} (h:BdX w0 w e k R a n c q y m cs X xs) (i:Nat) (hi:i<xs.length) (v:Value):BdX w0 (w.setCell ⟨X,i,none⟩ v) e k R a n c q y m cs X (xs.set i v) :=
 ⟨h.s.set X i h.xb h.xo v,h.row.set i hi v,h.xo,h.xb⟩
theorem BdS.box {w0 w:World} {e:TypeId} {k:Nat} {R:Nat} {a:Option Addr} {n c:Nat} {q:Int} {y:Value} {m:Nat} {cs:List Value} (h:BdS w0 w e k R a n c q y m cs) (A:Array Value) (t:TypeId):BdX w0 (w.alloc (.cells A t)) e k R a n c q y m cs w.heap.size A.toList :=
 ⟨h.below (below_nw _ _),row_new _ _ _,fun e=>by have:=(h.own.lt _ e).2;omega,h.lt⟩
theorem news_at (w:World) (cs:Array Value) (t:TypeId):∀ j u,cs.toList[j]?=some u->(w.alloc (.cells cs t)).cell? ((⟨w.heap.size,0,none⟩:Addr).add j)=some u:=World.news_of_block (heap_alloc_new w (.cells cs t))
theorem info_chB:(Try.prog.info? 101).map (fun i=>(i.zero,i.size,i.bytes))=some (some (.agg #[.string ByteArray.empty,.string ByteArray.empty,.bool false]),3,40):=by kernel_rfl
theorem info_partsB {P:Program} {e:TypeId} {z:Value} {size bytes:Nat} (h:(P.info? e).map (fun i=>(i.zero,i.size,i.bytes))=some (some z,size,bytes)):∃ i,P.info? e=some i/\i.zero=some z/\i.size=size/\i.bytes=bytes:=by
 cases h1:P.info? e with
 | none=>rw [h1] at h;cases h
 | some i=>rw [h1] at h;simp at h;exact ⟨i,rfl,h.1,h.2.1,h.2.2⟩
theorem oneCB (k v:ByteArray) (g:Bool):∀ u∈[Value.string k,.string v,.bool g],u.oneCell'=true:=by
 intro u hu
 simp only [List.mem_cons,List.not_mem_nil,or_false] at hu
 rcases hu with rfl | rfl | rfl<;>rfl
theorem chcells_snocB (o:List (ByteArray×ByteArray×Bool)) (c:ByteArray×ByteArray×Bool):chcells (o++[c])=chcells o++[.string c.1,.string c.2.1,.bool c.2.2]:=by rw [chcells_append];rfl
theorem batch_r (R:Nat) (a:Option Addr) (n c:Nat) (p:Int) (w:World) (h:Rdr w R a n c p) (hp:p<99990000):Calls Try.prog 48 #[.pointer (some ⟨R,0,none⟩)] w fun e w'=>(∃ v rs,e=.returned v/\w'.ownsRow w.heap.size 101 3 v rs.length (chcells rs)/\(1<=rs.length/\rs.length<=20)/\chsLe rs 3 100)/\RdTo w R a n c p 600 w':=by
 have p0:=h.p0
 obtain ⟨i0,hi0,hz0,hz1,hz2⟩:=info_partsB info_chB
 have HI:=hid (And.intro hi0 (And.intro hz0 (And.intro hz1 hz2)))
 clear hi0 hz0 hz1 hz2
 have D0:BdS w (w.alloc (.cells #[] 101)) 101 3 R a n c p (.slice (some ⟨w.heap.size,0,none⟩) 0 0) 0 [] :=
  ⟨h.below (below_nw _ _),World.ownsRow_lit _ #[] 0 (Nat.le_refl _) (by simp) (by simp),grown_of_below _ (below_nw _ _),h.lts.1,h.lts.2⟩
 clear h
 go_enter Try.func48,Try.ntmps48
 go_wp2_with fail
 refine (pick_r R a n c p 4 _ D0.rd (by omega)).mono ?_
 rintro e w1 ⟨⟨v,rfl,v0,v1⟩,hr1,hg1⟩
 have D1:=D0.pick hr1 hg1
 have hv:IntKind.i64.wrap (1+v)=1+v:=wrap_i64_id _ (by omega) (by omega)
 clear D0 hr1 hg1
 go_wp2_with fail
 refine (pick_r R a n c (p+1) 10 _ D1.rd (by omega)).mono ?_
 rintro e w2 ⟨⟨u,rfl,u0,u1⟩,hr2,hg2⟩
 have D2:=D1.pick hr2 hg2
 clear D1 hr2 hg2
 go_upto_if 13 with fail
 go_cut [4] from 11 to 16 (fun nv wx=>∃ (N q:Int),nv=.int .i64 N/\1<=N/\N<=20/\p<=q/\q<=p+3/\BdS w wx 101 3 R a n c q (.slice (some ⟨w.heap.size,0,none⟩) 0 0) 0 [])
 case first =>
  by_cases hu:u=0
  ·subst hu
   go_wp2_with fail
   refine (pick_r R a n c (p+1+1) 2 _ D2.rd (by omega)).mono ?_
   rintro e w3 ⟨⟨z,rfl,z0,z1⟩,hr3,hg3⟩
   have D3:=D2.pick hr3 hg3
   have hz:IntKind.i64.wrap (20-z)=20-z:=wrap_i64_id _ (by omega) (by omega)
   clear D2 hr3 hg3
   go_wp2_with fail
   go_meet
   exact ⟨20-z,p+1+1+1,rfl,by omega,by omega,by omega,by omega,D3⟩
  ·go_wp2_with fail
   go_meet
   exact ⟨1+v,p+1+1,rfl,by omega,by omega,by omega,by omega,D2⟩
 case rest =>
 obtain ⟨N,q,rfl,N0,N1,hq0,hq1,D3⟩:=hcut
 clear D2 u0 u1 hv v0 v1
 go_wp2
 go_loopw [3,5] (fun y iv wr=>∃ (rs:List (ByteArray×ByteArray×Bool)) (q:Int) (Y:Value),Y=y/\iv=.int .i64 (rs.length:Int)/\(rs.length:Int)<=N/\p<=q/\q<=p+3+20*(rs.length:Int)/\chsLe rs 3 100/\BdS w wr 101 3 R a n c q y rs.length (chcells rs)) (fun _ iv _=>(N-intOf iv).toNat)
 case atStart=>exact ⟨[],q,_,rfl,rfl,by simp;omega,by omega,by simp;omega,(fun x hx=>by simp at hx),D3⟩
 case round =>
  obtain ⟨rs,q,y,rfl,rfl,hl,q0,q1,hrs,DR⟩:=hrel
  have HRS:=hid hrs
  clear hrs
  have hrl:rs.length<=20:=by omega
  by_cases hlt:(rs.length:Int)<N
  ·have hNN:¬ N<=(rs.length:Int):=by omega
   obtain ⟨ya,yc,rfl⟩:=owns_slice DR.own
   have hw1:IntKind.i64.wrap ((rs.length:Int)+1)=(rs.length:Int)+1:=wrap_i64_id _ (by omega) (by omega)
   go_upto_region 8 with fail
   go_cut [6] from 17 to 58 (fun xv wx=>∃ (X:Nat) (KY:ByteArray) (gn:Bool),xv=.pointer (some ⟨X,0,none⟩)/\KY.size=2/\BdX w wx 101 3 R a n c (q+1+1) (.slice ya rs.length yc) rs.length (chcells rs) X [.string KY,.string ⟨#[]⟩,.bool gn])
   case first =>
    refine wp_region_held_drew (S:=fun w'=>True) (by kernel_rfl) (trivial) (fun hHe=>?_)
    refine TY 0 (.pointer (some ⟨R,0,none⟩)) rfl hHe ?_
    simp only [PS]
    refine TY 5 (.pointer (some ⟨R,0,none⟩)) rfl hHe ?_
    simp only [PS]
    refine wpAnyH_ready (rs:=[1,9]) (by kernel_rfl) (by simp) ?_
    refine AllReadyH.cons rfl (fun K hK=>?_) (AllReadyH.cons rfl (fun K hK=>?_) AllReadyH.nil)
    ·refine step_call (by rfl) 15 #[.pointer (some ⟨R,0,none⟩),.int .i64 8] (by go_simp) (pick_r R a n c q 8 _ DR.drew.rd (by omega)) ?_
     rintro e w4 ⟨⟨x',rfl,x0,x1⟩,hr4,hg4⟩
     refine ⟨_,rfl,?_⟩
     have F1:=DR.drew.pick hr4 hg4
     clear hr4 hg4
     obtain ⟨x,rfl⟩:∃ k:Nat,x'=(k:Int):=⟨x'.toNat,by omega⟩
     have hx8:(x:Int)<=8:=by omega
     have hx8n:x<8:=by omega
     clear x0 x1
     have hT8:((⟨#[97,98,99,100,101,102,103,104]⟩:ByteArray).extract x 8).size=8-x:=by simp only [ByteArray.size_extract];show min 8 8-x=8-x;omega
     have hT8i:(1:Int)<=(((8-x:Nat)):Int):=by omega
     obtain ⟨k1,e_k1⟩:∃ z,((⟨#[97,98,99,100,101,102,103,104]⟩:ByteArray).extract x 8).extract 0 1=z:=⟨_,rfl⟩
     have hk1:k1.size=1:=by rw [<-e_k1];simp only [ByteArray.size_extract];show min 1 (min 8 8-x)-0=1;omega
     obtain ⟨KY,e_KY⟩:∃ z,(⟨#[107]⟩:ByteArray)++k1=z:=⟨_,rfl⟩
     have hKY:KY.size=2:=by rw [<-e_KY,ByteArray.size_append];show 1+k1.size=2;omega
     have zk1:¬ (9223372036854775807<1+k1.size):=by omega
     refine hK.out _ _ hHe (fun _=>?_)
     clear hK K
     try simp only [PS]
     refine TY 2 (.string ((⟨#[97,98,99,100,101,102,103,104]⟩:ByteArray).extract x 8)) rfl hHe ?_
     simp only [PS]
     refine TY 3 (.string k1) rfl hHe ?_
     simp only [PS]
     refine TY 4 (.string KY) rfl hHe ?_
     simp only [PS]
     refine wpAnyH_ready (rs:=[6,9]) (by kernel_rfl) (by simp) ?_
     refine AllReadyH.cons rfl (fun K hK=>?_) (AllReadyH.cons rfl (fun K hK=>?_) AllReadyH.nil)
     ·refine step_call (by rfl) 15 #[.pointer (some ⟨R,0,none⟩),.int .i64 4] (by go_simp) (pick_r R a n c (q+1) 4 _ F1.rd (by omega)) ?_
      rintro e w5 ⟨⟨u',rfl,u0,u1⟩,hr5,hg5⟩
      refine ⟨_,rfl,?_⟩
      have F6:=F1.pick hr5 hg5
      clear hr5 hg5
      obtain ⟨gn,hgn⟩:∃ g:Bool,(u' == 0)=g:=⟨_,rfl⟩
      have hgn2:decide (u'=0)=gn:=by rw [<-hgn];rfl
      refine hK.out _ _ hHe (fun _=>?_)
      clear hK K
      try simp only [PS]
      refine TY 7 (.bool gn) rfl hHe ?_
      simp only [PS]
      refine TY 8 (.agg #[.string KY,.string ⟨#[]⟩,.bool gn]) rfl hHe ?_
      simp only [PS]
      refine RD 9 rfl (fun K hK=>?_)
      go_simp
      have F9:=(F6.box #[.string ⟨#[]⟩,.string ⟨#[]⟩,.bool false] 101)
      obtain ⟨X,e_X⟩:∃ z,z=w5.heap.size:=⟨_,rfl⟩
      obtain ⟨wx,e_wx⟩:∃ z,z=(w5.alloc (.cells #[.string ⟨#[]⟩,.string ⟨#[]⟩,.bool false] 101)):=⟨_,rfl⟩
      rw [<-e_wx,<-e_X] at F9
      rw [<-e_wx,<-e_X]
      clear e_wx e_X
      refine hK.out _ _ hHe (fun _=>?_)
      clear hK K
      try simp only [PS]
      refine RD 10 rfl (fun K hK=>?_)
      have G8:=F9
      obtain ⟨l0,l1,l2⟩:=G8.row.k3
      obtain ⟨lf0,lf1,lf2⟩:=G8.row.z3
      have ll:=G8.row.lt
      go_simp
      refine hK.out _ _ hHe (fun _=>?_)
      clear hK K
      try simp only [PS]
      refine DN ?_
      have G9:BdX w (((wx.setCell ⟨X,0,none⟩ (.string KY)).setCell ⟨X,1,none⟩ (.string ⟨#[]⟩)).setCell ⟨X,2,none⟩ (.bool gn)) 101 3 R a n c (q+1+1) (.slice ya rs.length yc) rs.length (chcells rs) X [.string KY,.string ⟨#[]⟩,.bool gn]:=((G8.set 0 (by simp) (.string KY)).set 1 (by simp) (.string ⟨#[]⟩)).set 2 (by simp) (.bool gn)
      go_wp2_with fail
      go_meet
      exact ⟨X,KY,gn,rfl,hKY,G9⟩
     ·go_simp
      have F9:=(F1.box #[.string ⟨#[]⟩,.string ⟨#[]⟩,.bool false] 101)
      obtain ⟨X,e_X⟩:∃ z,z=w4.heap.size:=⟨_,rfl⟩
      obtain ⟨wx,e_wx⟩:∃ z,z=(w4.alloc (.cells #[.string ⟨#[]⟩,.string ⟨#[]⟩,.bool false] 101)):=⟨_,rfl⟩
      rw [<-e_wx,<-e_X] at F9
      rw [<-e_wx,<-e_X]
      clear e_wx e_X
      refine hK.out _ _ hHe (fun _=>?_)
      clear hK K
      try simp only [PS]
      refine RD 6 rfl (fun K hK=>?_)
      refine step_call (by rfl) 15 #[.pointer (some ⟨R,0,none⟩),.int .i64 4] (by go_simp) (pick_r R a n c (q+1) 4 _ F9.s.rd (by omega)) ?_
      rintro e w5 ⟨⟨u',rfl,u0,u1⟩,hr5,hg5⟩
      refine ⟨_,rfl,?_⟩
      have F6:=F9.pick hr5 hg5
      clear hr5 hg5
      obtain ⟨gn,hgn⟩:∃ g:Bool,(u' == 0)=g:=⟨_,rfl⟩
      have hgn2:decide (u'=0)=gn:=by rw [<-hgn];rfl
      refine hK.out _ _ hHe (fun _=>?_)
      clear hK K
      try simp only [PS]
      refine TY 7 (.bool gn) rfl hHe ?_
      simp only [PS]
      refine TY 8 (.agg #[.string KY,.string ⟨#[]⟩,.bool gn]) rfl hHe ?_
      simp only [PS]
      refine RD 10 rfl (fun K hK=>?_)
      have G8:=F6
      obtain ⟨l0,l1,l2⟩:=G8.row.k3
      obtain ⟨lf0,lf1,lf2⟩:=G8.row.z3
      have ll:=G8.row.lt
      go_simp
      refine hK.out _ _ hHe (fun _=>?_)
      clear hK K
      try simp only [PS]
      refine DN ?_
      have G9:BdX w (((w5.setCell ⟨X,0,none⟩ (.string KY)).setCell ⟨X,1,none⟩ (.string ⟨#[]⟩)).setCell ⟨X,2,none⟩ (.bool gn)) 101 3 R a n c (q+1+1) (.slice ya rs.length yc) rs.length (chcells rs) X [.string KY,.string ⟨#[]⟩,.bool gn]:=((G8.set 0 (by simp) (.string KY)).set 1 (by simp) (.string ⟨#[]⟩)).set 2 (by simp) (.bool gn)
      go_wp2_with fail
      go_meet
      exact ⟨X,KY,gn,rfl,hKY,G9⟩
    ·go_simp
     have F9:=(DR.box #[.string ⟨#[]⟩,.string ⟨#[]⟩,.bool false] 101).drew
     obtain ⟨X,e_X⟩:∃ z,z=wr.heap.size:=⟨_,rfl⟩
     obtain ⟨wx,e_wx⟩:∃ z,z=(wr.alloc (.cells #[.string ⟨#[]⟩,.string ⟨#[]⟩,.bool false] 101)).drew:=⟨_,rfl⟩
     rw [<-e_wx,<-e_X] at F9
     rw [<-e_wx,<-e_X]
     clear e_wx e_X
     refine hK.out _ _ hHe (fun _=>?_)
     clear hK K
     try simp only [PS]
     refine RD 1 rfl (fun K hK=>?_)
     refine step_call (by rfl) 15 #[.pointer (some ⟨R,0,none⟩),.int .i64 8] (by go_simp) (pick_r R a n c q 8 _ F9.s.rd (by omega)) ?_
     rintro e w4 ⟨⟨x',rfl,x0,x1⟩,hr4,hg4⟩
     refine ⟨_,rfl,?_⟩
     have F1:=F9.pick hr4 hg4
     clear hr4 hg4
     obtain ⟨x,rfl⟩:∃ k:Nat,x'=(k:Int):=⟨x'.toNat,by omega⟩
     have hx8:(x:Int)<=8:=by omega
     have hx8n:x<8:=by omega
     clear x0 x1
     have hT8:((⟨#[97,98,99,100,101,102,103,104]⟩:ByteArray).extract x 8).size=8-x:=by simp only [ByteArray.size_extract];show min 8 8-x=8-x;omega
     have hT8i:(1:Int)<=(((8-x:Nat)):Int):=by omega
     obtain ⟨k1,e_k1⟩:∃ z,((⟨#[97,98,99,100,101,102,103,104]⟩:ByteArray).extract x 8).extract 0 1=z:=⟨_,rfl⟩
     have hk1:k1.size=1:=by rw [<-e_k1];simp only [ByteArray.size_extract];show min 1 (min 8 8-x)-0=1;omega
     obtain ⟨KY,e_KY⟩:∃ z,(⟨#[107]⟩:ByteArray)++k1=z:=⟨_,rfl⟩
     have hKY:KY.size=2:=by rw [<-e_KY,ByteArray.size_append];show 1+k1.size=2;omega
     have zk1:¬ (9223372036854775807<1+k1.size):=by omega
     refine hK.out _ _ hHe (fun _=>?_)
     clear hK K
     try simp only [PS]
     refine TY 2 (.string ((⟨#[97,98,99,100,101,102,103,104]⟩:ByteArray).extract x 8)) rfl hHe ?_
     simp only [PS]
     refine TY 3 (.string k1) rfl hHe ?_
     simp only [PS]
     refine TY 4 (.string KY) rfl hHe ?_
     simp only [PS]
     refine RD 6 rfl (fun K hK=>?_)
     refine step_call (by rfl) 15 #[.pointer (some ⟨R,0,none⟩),.int .i64 4] (by go_simp) (pick_r R a n c (q+1) 4 _ F1.s.rd (by omega)) ?_
     rintro e w5 ⟨⟨u',rfl,u0,u1⟩,hr5,hg5⟩
     refine ⟨_,rfl,?_⟩
     have F6:=F1.pick hr5 hg5
     clear hr5 hg5
     obtain ⟨gn,hgn⟩:∃ g:Bool,(u' == 0)=g:=⟨_,rfl⟩
     have hgn2:decide (u'=0)=gn:=by rw [<-hgn];rfl
     refine hK.out _ _ hHe (fun _=>?_)
     clear hK K
     try simp only [PS]
     refine TY 7 (.bool gn) rfl hHe ?_
     simp only [PS]
     refine TY 8 (.agg #[.string KY,.string ⟨#[]⟩,.bool gn]) rfl hHe ?_
     simp only [PS]
     refine RD 10 rfl (fun K hK=>?_)
     have G8:=F6
     obtain ⟨l0,l1,l2⟩:=G8.row.k3
     obtain ⟨lf0,lf1,lf2⟩:=G8.row.z3
     have ll:=G8.row.lt
     go_simp
     refine hK.out _ _ hHe (fun _=>?_)
     clear hK K
     try simp only [PS]
     refine DN ?_
     have G9:BdX w (((w5.setCell ⟨X,0,none⟩ (.string KY)).setCell ⟨X,1,none⟩ (.string ⟨#[]⟩)).setCell ⟨X,2,none⟩ (.bool gn)) 101 3 R a n c (q+1+1) (.slice ya rs.length yc) rs.length (chcells rs) X [.string KY,.string ⟨#[]⟩,.bool gn]:=((G8.set 0 (by simp) (.string KY)).set 1 (by simp) (.string ⟨#[]⟩)).set 2 (by simp) (.bool gn)
     go_wp2_with fail
     go_meet
     exact ⟨X,KY,gn,rfl,hKY,G9⟩
   case rest =>
   obtain ⟨X,KY,gn,rfl,hKY,G9⟩:=hcut
   clear DR
   go_upto_if 32 with fail
   go_cut [] from 17 to 58 (fun wx=>∃ (K2:ByteArray) (q2:Int),K2.size<=3/\q<=q2/\q2<=q+3/\BdX w wx 101 3 R a n c q2 (.slice ya rs.length yc) rs.length (chcells rs) X [.string K2,.string ⟨#[]⟩,.bool gn])
   case first =>
    by_cases hN8:8<N
    ·go_upto_region 10 with fail
     refine wp_region_held_drew (S:=fun w'=>True) (by kernel_rfl) (trivial) (fun hHe=>?_)
     refine TY 0 (.pointer (some ⟨X,0,none⟩)) rfl hHe ?_
     simp only [PS]
     refine TY 2 (.pointer (some ⟨R,0,none⟩)) rfl hHe ?_
     simp only [PS]
     refine wpAnyH_ready (rs:=[1,3]) (by kernel_rfl) (by simp) ?_
     refine AllReadyH.cons rfl (fun K hK=>?_) (AllReadyH.cons rfl (fun K hK=>?_) AllReadyH.nil)
     ·have l0:=G9.drew.row.cell 0 _ rfl
      go_simp
      refine hK.out _ _ hHe (fun _=>?_)
      clear hK K
      try simp only [PS]
      refine RD 3 rfl (fun K hK=>?_)
      refine step_call (by rfl) 15 #[.pointer (some ⟨R,0,none⟩),.int .i64 3] (by go_simp) (pick_r R a n c (q+1+1) 3 _ G9.drew.s.rd (by omega)) ?_
      rintro e w6 ⟨⟨z',rfl,z0,z1⟩,hr6,hg6⟩
      refine ⟨_,rfl,?_⟩
      have E6:=G9.drew.pick hr6 hg6
      clear hr6 hg6
      obtain ⟨z,rfl⟩:∃ k:Nat,z'=(k:Int):=⟨z'.toNat,by omega⟩
      have hz3:(z:Int)<=3:=by omega
      have hz3n:z<3:=by omega
      clear z0 z1
      have hT3:((⟨#[120,121,122]⟩:ByteArray).extract z 3).size=3-z:=by simp only [ByteArray.size_extract];show min 3 3-z=3-z;omega
      have hT3i:(1:Int)<=(((3-z:Nat)):Int):=by omega
      obtain ⟨k2,e_k2⟩:∃ x,((⟨#[120,121,122]⟩:ByteArray).extract z 3).extract 0 1=x:=⟨_,rfl⟩
      have hk2:k2.size=1:=by rw [<-e_k2];simp only [ByteArray.size_extract];show min 1 (min 3 3-z)-0=1;omega
      have zk:¬ (9223372036854775807<KY.size+k2.size):=by omega
      refine hK.out _ _ hHe (fun _=>?_)
      clear hK K
      try simp only [PS]
      refine TY 4 (.string ((⟨#[120,121,122]⟩:ByteArray).extract z 3)) rfl hHe ?_
      simp only [PS]
      refine TY 5 (.string k2) rfl hHe ?_
      simp only [PS]
      refine TY 6 (.string (KY++k2)) rfl hHe ?_
      simp only [PS]
      refine TY 7 (.pointer (some ⟨X,0,none⟩)) rfl hHe ?_
      simp only [PS]
      refine RD 8 rfl (fun K hK=>?_)
      have l0:=E6.row.cell 0 _ rfl
      have lf:=E6.row.froz 0 (by simp)
      have ll:=E6.row.lt
      go_simp
      refine hK.out _ _ hHe (fun _=>?_)
      clear hK K
      try simp only [PS]
      refine DN ?_
      have E7:BdX w (w6.setCell ⟨X,0,none⟩ (.string (KY++k2))) 101 3 R a n c (q+1+1+1) (.slice ya rs.length yc) rs.length (chcells rs) X [.string (KY++k2),.string ⟨#[]⟩,.bool gn]:=E6.set 0 (by simp) (.string (KY++k2))
      go_wp2_with fail
      go_meet
      exact ⟨KY++k2,q+1+1+1,by rw [ByteArray.size_append];omega,by omega,by omega,E7⟩
     ·refine step_call (by rfl) 15 #[.pointer (some ⟨R,0,none⟩),.int .i64 3] (by go_simp) (pick_r R a n c (q+1+1) 3 _ G9.drew.s.rd (by omega)) ?_
      rintro e w6 ⟨⟨z',rfl,z0,z1⟩,hr6,hg6⟩
      refine ⟨_,rfl,?_⟩
      have E6:=G9.drew.pick hr6 hg6
      clear hr6 hg6
      obtain ⟨z,rfl⟩:∃ k:Nat,z'=(k:Int):=⟨z'.toNat,by omega⟩
      have hz3:(z:Int)<=3:=by omega
      have hz3n:z<3:=by omega
      clear z0 z1
      have hT3:((⟨#[120,121,122]⟩:ByteArray).extract z 3).size=3-z:=by simp only [ByteArray.size_extract];show min 3 3-z=3-z;omega
      have hT3i:(1:Int)<=(((3-z:Nat)):Int):=by omega
      obtain ⟨k2,e_k2⟩:∃ x,((⟨#[120,121,122]⟩:ByteArray).extract z 3).extract 0 1=x:=⟨_,rfl⟩
      have hk2:k2.size=1:=by rw [<-e_k2];simp only [ByteArray.size_extract];show min 1 (min 3 3-z)-0=1;omega
      have zk:¬ (9223372036854775807<KY.size+k2.size):=by omega
      refine hK.out _ _ hHe (fun _=>?_)
      clear hK K
      try simp only [PS]
      refine TY 4 (.string ((⟨#[120,121,122]⟩:ByteArray).extract z 3)) rfl hHe ?_
      simp only [PS]
      refine TY 5 (.string k2) rfl hHe ?_
      simp only [PS]
      refine RD 1 rfl (fun K hK=>?_)
      have l0:=E6.row.cell 0 _ rfl
      go_simp
      refine hK.out _ _ hHe (fun _=>?_)
      clear hK K
      try simp only [PS]
      refine TY 6 (.string (KY++k2)) rfl hHe ?_
      simp only [PS]
      refine TY 7 (.pointer (some ⟨X,0,none⟩)) rfl hHe ?_
      simp only [PS]
      refine RD 8 rfl (fun K hK=>?_)
      have l0:=E6.row.cell 0 _ rfl
      have lf:=E6.row.froz 0 (by simp)
      have ll:=E6.row.lt
      go_simp
      refine hK.out _ _ hHe (fun _=>?_)
      clear hK K
      try simp only [PS]
      refine DN ?_
      have E7:BdX w (w6.setCell ⟨X,0,none⟩ (.string (KY++k2))) 101 3 R a n c (q+1+1+1) (.slice ya rs.length yc) rs.length (chcells rs) X [.string (KY++k2),.string ⟨#[]⟩,.bool gn]:=E6.set 0 (by simp) (.string (KY++k2))
      go_wp2_with fail
      go_meet
      exact ⟨KY++k2,q+1+1+1,by rw [ByteArray.size_append];omega,by omega,by omega,E7⟩
    ·go_wp2_with fail
     go_meet
     exact ⟨KY,q+1+1,by omega,by omega,by omega,G9⟩
   case rest =>
   obtain ⟨K2,q2,hK2,q20,q21,G10⟩:=hcut
   obtain ⟨m0,m1,m2⟩:=G10.row.k3
   have ml:=G10.row.lt
   go_upto_if 43 with fail
   clear m0 m1 m2 ml
   go_cut [] from 17 to 58 (fun wx=>∃ (t:ByteArray) (q3:Int),t.size<=64000/\q<=q3/\q3<=q+15/\BdX w wx 101 3 R a n c q3 (.slice ya rs.length yc) rs.length (chcells rs) X [.string K2,.string t,.bool gn])
   case first =>
    cases gn with
    | true =>
     go_wp2_with fail
     go_meet
     exact ⟨⟨#[]⟩,q2,by decide,by omega,by omega,G10⟩
    | false =>
     go_wp2_with fail
     refine (text_r R a n c q2 _ G10.s.rd (by omega)).mono ?_
     rintro e w7 ⟨⟨t,rfl,ht⟩,⟨q7,q70,q71,hr7⟩,hg7⟩
     have D7:=G10.pick hr7 hg7
     clear hr7 hg7
     obtain ⟨m0,m1,m2⟩:=D7.row.k3
     have mf:=D7.row.froz 1 (by simp)
     have ml:=D7.row.lt
     have D8:BdX w (w7.setCell ⟨X,1,none⟩ (.string t)) 101 3 R a n c q7 (.slice ya rs.length yc) rs.length (chcells rs) X [.string K2,.string t,.bool false]:=D7.set 1 (by simp) (.string t)
     go_wp2_with fail
     go_meet
     exact ⟨t,q7,ht,by omega,by omega,D8⟩
   case rest =>
   obtain ⟨t,q3,ht,q30,q31,G11⟩:=hcut
   obtain ⟨m0,m1,m2⟩:=G11.row.k3
   have mf:=G11.row.froz 1 (by simp)
   have ml:=G11.row.lt
   go_upto_if 50 with fail
   go_cut [] from 17 to 58 (fun wx=>∃ (t:ByteArray),t.size<=100/\BdX w wx 101 3 R a n c q3 (.slice ya rs.length yc) rs.length (chcells rs) X [.string K2,.string t,.bool gn])
   case first =>
    by_cases ht1:t.size<=100
    ·have ht2:¬ (100<(t.size:Int)):=by omega
     go_wp2_with fail
     go_meet
     exact ⟨t,ht1,G11⟩
    ·have ht2:100<(t.size:Int):=by omega
     have ht3:(100:Int)<=(t.size:Int):=by omega
     have D9':BdX w (_) 101 3 R a n c q3 (.slice ya rs.length yc) rs.length (chcells rs) X [.string K2,.string (t.extract 0 100),.bool gn]:=G11.set 1 (by simp) (.string (t.extract 0 100))
     go_wp2_with fail
     go_meet
     exact ⟨t.extract 0 100,by simp only [ByteArray.size_extract];omega,D9'⟩
   case rest =>
   clear m0 m1 m2 mf ml G11
   obtain ⟨t9,ht9,G12⟩:=hcut
   obtain ⟨x0,x1,x2⟩:=G12.row.k3
   have xl:=G12.row.lt
   have D9:=G12.s.below (below_nw _ (.cells #[.string K2,.string t9,.bool gn] 101))
   have HO9:=hid D9.own
   have hy0:=G12.s.lt
   go_wp2_with (first | (at_builtin;refine WAL _ rfl _ _ 93 rfl w.heap.size Try.underlying93 HI.out rfl (by omega) _ rs.length _ rfl HO9.out ⟨wc.heap.size,0,none⟩ 1 1 [.string K2,.string t9,.bool gn] rfl rfl (news_at _ _ _) (oneCB _ _ _) (by simp;omega) (wc.heap.size+1) (by simp) ?_;intro g cap w10 hown10 hgrow10 hat10 hlt10;have D10:=D9.push hown10 hgrow10;clear hown10 hgrow10 hat10))
   go_roundw
   case rel =>
    refine ⟨rs++[(K2,t9,gn)],q3,_,rfl,by simp,by simp;omega,by omega,by simp;omega,?_,?_⟩
    ·intro x hx
     rcases List.mem_append.1 hx with hx | hx
     ·exact HRS.out x hx
     ·simp at hx;subst hx;exact ⟨hK2,ht9⟩
    ·rw [chcells_snocB,List.length_append];exact D10
   all_goals (simp [intOf];omega)
  ·go_wp2
   go_ret
   exact ⟨⟨_,rfl,rs,DR.own,⟨by omega,hrl⟩,HRS.out⟩,⟨q,q0,by omega,DR.rd⟩,DR.gr⟩
theorem width_r (R:Nat) (a:Option Addr) (n c:Nat) (p:Int) (w:World) (h:Rdr w R a n c p) (hp:p<100000000):Calls Try.prog 45 #[.pointer (some ⟨R,0,none⟩)] w fun e w'=>(∃ v,e=.returned (.int .i64 v)/\1<=v/\v<=8)/\Rdr w' R a n c (p+1)/\w.grownBy w' (some R):=by
 have hR:=lt_of_cell h.pc
 go_enter Try.func45,Try.ntmps45
 go_wp2_with fail
 refine (pick_r R a n c p 6 _ (h.below ((Below.refl _ _).alloc (Nat.le_refl _) _)) hp).mono ?_
 rintro e w1 ⟨⟨v,rfl,v0,v1⟩,hr,hg⟩
 have d0:=cell_grown (b:=w.heap.size) (i:=0) hg (by omega) (v:=.int .i64 8) (by simp)
 have d1:=cell_grown (b:=w.heap.size) (i:=1) hg (by omega) (v:=.int .i64 8) (by simp)
 have d2:=cell_grown (b:=w.heap.size) (i:=2) hg (by omega) (v:=.int .i64 4) (by simp)
 have d3:=cell_grown (b:=w.heap.size) (i:=3) hg (by omega) (v:=.int .i64 2) (by simp)
 have d4:=cell_grown (b:=w.heap.size) (i:=4) hg (by omega) (v:=.int .i64 1) (by simp)
 have d5:=cell_grown (b:=w.heap.size) (i:=5) hg (by omega) (v:=.int .i64 1) (by simp)
 have HG:=hid (grown_trans (grown_of_below (some R) ((Below.refl _ _).alloc (Nat.le_refl _) (.cells #[.int .i64 8,.int .i64 8,.int .i64 4,.int .i64 2,.int .i64 1,.int .i64 1] 3))) hg)
 have HR:=hid hr
 clear hg hr
 have hv:v=0\/v=1\/v=2\/v=3\/v=4\/v=5:=by omega
 clear v0 v1
 rcases hv with rfl | rfl | rfl | rfl | rfl | rfl<;>(go_wp2;go_ret;exact ⟨⟨_,rfl,by omega,by omega⟩,HR.out,HG.out⟩)
theorem many_x (s:ByteArray) (n:Int) (w:World) (K:Nat) (hK:s.size*n.toNat=K) (hs:K<=64000) (hs2:s.size<=64000) (hn:n<=1000):Calls Try.prog 31 #[.string s,.int .i64 n] w fun e w'=>(∃ t:ByteArray,e=.returned (.string t)/\t.size=K)/\Below w.heap.size w w':=by
 go_enter Try.func31,Try.ntmps31
 go_wp2
 go_loop [0,1,5] (fun sv nv ov=>∃ (t u:ByteArray) (m:Int),sv=.string t/\nv=.int .i64 m/\ov=.string u/\m<=1000/\Hid (t.size*m.toNat+u.size=K)/\t.size<=128000) (fun _ nv _=>(intOf nv).toNat)
 case atStart=>exact ⟨s,ByteArray.empty,n,rfl,rfl,rfl,hn,by show _=_;rw [hK];rfl,by omega⟩
 case round =>
  obtain ⟨t,u,m,rfl,rfl,rfl,hm,HB,ht⟩:=hrel
  by_cases h0:0<m
  ·obtain ⟨q,r,hq,hr⟩:∃ q r:Nat,m.toNat=2*q+r/\r<2:=⟨m.toNat / 2,m.toNat % 2,by omega,by omega⟩
   have hmq:m=2*(q:Int)+(r:Int):=by omega
   have hb:=HB.out
   rw [hq,Nat.mul_add] at hb
   have e2:t.size*(2*q)=2*(t.size*q):=by rw [Nat.mul_left_comm]
   rw [e2] at hb
   obtain ⟨P,hP⟩:∃ P,t.size*q=P:=⟨_,rfl⟩
   rw [hP] at hb
   have htb:t.size<=64000:=by
    rcases Nat.eq_zero_or_pos r with h | h
    ·subst h
     have hq1:1<=q:=by omega
     have:t.size<=t.size*q:=Nat.le_mul_of_pos_right _ hq1
     omega
    ·have:t.size*1<=t.size*r:=Nat.mul_le_mul_left _ h
     omega
   have z1:¬ (9223372036854775807<t.size+t.size):=by omega
   have hd:m.tdiv 2=(q:Int):=by rw [Int.tdiv_eq_ediv_of_nonneg (by omega)];omega
   have hd':m / 2=(q:Int):=by omega
   rcases Nat.eq_zero_or_pos r with h | h
   ·subst h
    have hr0:m % 2=0:=by omega
    have hr1:¬ (m % 2=1):=by omega
    have hr2:¬ (m.tmod 2=1):=by rw [Int.tmod_eq_emod_of_nonneg (by omega)];omega
    have HN:Hid ((t++t).size*((q:Int)).toNat+u.size=K):=by
     show _=_
     rw [Int.toNat_natCast,ByteArray.size_append,Nat.add_mul,hP]
     omega
    clear HB hb hq
    go_wp2
    exact ⟨⟨_,_,_,rfl,rfl,rfl,by omega,HN.out,by rw [ByteArray.size_append];omega⟩,by simp [intOf];omega⟩
   ·have hr1:r=1:=by omega
    subst hr1
    have hr1:m % 2=1:=by omega
    have hr2:m.tmod 2=1:=by rw [Int.tmod_eq_emod_of_nonneg (by omega)];omega
    have z2:¬ (9223372036854775807<u.size+t.size):=by omega
    have HN:Hid ((t++t).size*((q:Int)).toNat+(u++t).size=K):=by
     show _=_
     rw [Int.toNat_natCast,ByteArray.size_append,ByteArray.size_append,Nat.add_mul,hP]
     omega
    clear HB hb hq
    go_wp2
    exact ⟨⟨_,_,_,rfl,rfl,rfl,by omega,(by rw [show ((2*(q:Int)+1) / 2)=(q:Int) by omega];exact HN.out),by rw [ByteArray.size_append];omega⟩,by simp [intOf];omega⟩
  ·go_wp2
   go_ret
   exact ⟨⟨u,rfl,by have:=HB.out;rw [show m.toNat=0 by omega,Nat.mul_zero,Nat.zero_add] at this;exact this⟩,Below.refl _ _⟩
theorem text_x (R:Nat) (a:Option Addr) (n c:Nat) (p:Int) (w:World) (h:Rdr w R a n c p) (hp:p<99999000):Calls Try.prog 32 #[.pointer (some ⟨R,0,none⟩)] w fun e w'=>(∃ t:ByteArray,e=.returned (.string t)/\t.size<=100)/\RdTo w R a n c p 10 w':=by
 have hR:=lt_of_cell h.pc
 have p0:=h.p0
 go_enter Try.func32,Try.ntmps32
 go_wp2_with fail
 refine (pick_r R a n c p 8 _ h (by omega)).mono ?_
 rintro e w1 ⟨⟨v,rfl,v0,v1⟩,hr,hg⟩
 by_cases e0:v=0
 ·subst e0
  go_wp2
  go_ret
  exact ⟨⟨_,rfl,by decide⟩,⟨p+1,by omega,by omega,hr⟩,hg⟩
 by_cases e1:v=1
 ·subst e1
  go_wp2
  go_ret
  exact ⟨⟨_,rfl,by decide⟩,⟨p+1,by omega,by omega,hr⟩,hg⟩
 by_cases e2:v=2
 ·subst e2
  go_wp2_with fail
  refine (pick_r R a n c (p+1) 21 _ hr (by omega)).mono ?_
  rintro e w2 ⟨⟨u,rfl,u0,u1⟩,hr2,hg2⟩
  have hu:IntKind.i64.wrap (5+u)=5+u:=wrap_i64_id _ (by omega) (by omega)
  go_wp2_with fail
  refine (many_x _ (5+u) _ _ rfl (by show 4*_<=_;omega) (by show 4<=_;omega) (by omega)).mono ?_
  rintro e w3 ⟨⟨t,rfl,ht⟩,hb3⟩
  replace ht:t.size<=100:=by rw [ht];show 4*_<=_;omega
  go_wp2
  go_ret
  exact ⟨⟨t,rfl,ht⟩,⟨p+1+1,by omega,by omega,hr2.below hb3⟩,grown_trans (grown_trans hg hg2) (grown_of_below _ hb3)⟩
 by_cases e3:v=3
 ·subst e3
  go_wp2
  go_ret
  exact ⟨⟨_,rfl,by decide⟩,⟨p+1,by omega,by omega,hr⟩,hg⟩
 go_wp2_with fail
 refine (pick_r R a n c (p+1) 4 _ hr (by omega)).mono ?_
 rintro e w2 ⟨⟨u,rfl,u0,u1⟩,hr2,hg2⟩
 have hu:IntKind.i64.wrap (1+u)=1+u:=wrap_i64_id _ (by omega) (by omega)
 have HR2:=hid hr2
 have HG2:=hid (grown_trans hg hg2)
 clear hr hg hr2 hg2 h
 go_wp2
 go_loopw [3,4] (fun ov nv wr=>∃ (t:ByteArray) (k q:Int),ov=.string t/\nv=.int .i64 k/\0<=k/\k<=4/\(t.size:Int)+k<=4/\p<=q/\q+k<=p+6/\Rdr wr R a n c q/\w.grownBy wr (some R)) (fun _ nv _=>(intOf nv).toNat)
 case atStart=>exact ⟨⟨#[]⟩,1+u,p+1+1,rfl,rfl,by omega,by omega,by show (0:Int)+(1+u)<=4;omega,by omega,by omega,HR2.out,HG2.out⟩
 case round =>
  obtain ⟨t,k,q,rfl,rfl,k0,k1,htk,q0,q1,hrd,hgr⟩:=hrel
  by_cases hk:0<k
  ·have HG:=hid hgr
   clear hgr
   go_wp2_with fail
   refine (pick_r R a n c q 4 _ hrd (by omega)).mono ?_
   rintro e w3 ⟨⟨x,rfl,x0,x1⟩,hr3,hg3⟩
   have HR3:=hid hr3
   have HG3:=hid (grown_trans HG.out hg3)
   clear hr3 hg3 hrd HG
   have hkw:IntKind.i64.wrap (k-1)=k-1:=wrap_i64_id _ (by omega) (by omega)
   have hts:t.size<=4:=by omega
   have z1:¬ (9223372036854775807<t.size+1):=by omega
   have hx:x=0\/x=1\/x=2\/x=3:=by omega
   clear x0 x1
   rcases hx with rfl | rfl | rfl | rfl
   all_goals go_wp2
   all_goals go_roundw
   all_goals first
    | exact ⟨_,k-1,q+1,rfl,rfl,by omega,by omega,ext1 _ _ (by omega),by omega,by omega,HR3.out,HG3.out⟩
    | (simp [intOf];omega)
  ·go_wp2
   go_ret
   exact ⟨⟨t,rfl,by omega⟩,⟨q,by omega,by omega,hrd⟩,hgr⟩
end Go.Proofs.Ythdilmkbnpmdaaa
namespace Go.Proofs.Ythdilmkbnpmdaaa
open Go.RowKit Go.ChangeShapes Go.WideShapes Go.Deep
section
variable {H:Type} {enc:TypeId×Value->H} {P:Program} {w:World} {base:Nat} {spare:Nat->Bool} {held:Bool}
theorem bys_of_trod {t e:TypeId} {fuel:Nat} {v:Value} {x:DataW H×List MemPlace} (ht:P.underlying t=some (.slice e)) (he:P.underlying e=some (.int .u8)) (hc:P.cellsOf e=1)
  (h:DataW.trod enc P w base spare held fuel t [v]=some x):∃ a n c,v=.slice a n c/\Bys w a n/\n<=c/\n<=maxLen:=by
 rcases open_ints ht he hc h with ⟨hcs,_⟩ | ⟨a,len,cap,zs,hcs,_,hl,hm,hz,_,hcell,hwz⟩
 ·simp at hcs
  exact ⟨none,0,0,by simpa using hcs,⟨0,0,.inl rfl,fun i hi=>absurd hi (by omega)⟩,Nat.le_refl _,Nat.zero_le _⟩
 ·simp at hcs
  have hlen:len<=zs.length:=by rw [hz];split<;>omega
  refine ⟨some a,len,cap,hcs,?_,hl,by omega⟩
  by_cases h0:len=0
  ·subst h0
   exact ⟨0,0,.inl rfl,fun i hi=>absurd hi (by omega)⟩
  ·obtain ⟨b,o,rfl⟩:=add_none (hcell 0 (by omega)) ⟨_,hcell 0 (by omega)⟩
   have hb:=World.block_lt_of_cell? w _ (hcell 0 (by omega))
   rw [add_mk] at hb
   refine ⟨b,o,.inr rfl,fun i hi=>⟨hb,zs.getD i 0,?_,?_⟩⟩
   ·have:=hcell i (by omega)
    rwa [add_mk] at this
   ·rw [List.getD_eq_getElem?_getD]
    exact range_u8 hwz i
end
end Go.Proofs.Ythdilmkbnpmdaaa
