import Derived.Test.YtcdojnnkjeakmaaGreatDoorPrPk
import Derived.Test.YtcdojnnkjeakmaaGreatDoorPrG53
import Derived.Deep.Cut
import Derived.Deep.CutRange
import Derived.ChangeSlices
import Derived.OpenShut
set_option maxHeartbeats 32000000
set_option maxRecDepth 8000
set_option linter.unusedVariables false
set_option linter.unusedSimpArgs false
namespace Go.Proofs.YtcdojnnkjeakmaaGreatDoor
open Go.RowKit
theorem Rdr.set {w:World} {R:Nat} {a:Option Addr} {n c:Nat} {p:Int} (h:Rdr w R a n c p) (q:Int) (q0:0<=q) (q1:q<=100000000):Rdr (w.setCell ⟨R,1,none⟩ (.int .i64 q)) R a n c q:=by
 obtain ⟨g,o,ha,hx⟩:=h.bytes;refine ⟨(World.cell?_setCell_other w ⟨R,1,none⟩ ⟨R,0,none⟩ _ (fun e=>absurd (congrArg Addr.off e) (by show ¬ (1=0);decide))).trans h.b,World.cell?_setCell_same w _ _ h.pc,by rw [World.frozen?_setCell];exact h.f,⟨g,o,ha,fun i hi=>?_⟩,q0,q1,h.n1⟩;obtain ⟨aA,x,hc,aB,aC⟩:=hx i hi;exact ⟨aA,x,(World.cell?_setCell_far _ _ _ _ (fun e=>aA e.symm)).trans hc,aB,aC⟩
theorem Rdr.drew {w:World} {R:Nat} {a:Option Addr} {n c:Nat} {p:Int} (h:Rdr w R a n c p):Rdr w.drew R a n c p:=⟨h.b,h.pc,h.f,h.bytes,h.p0,h.p1,h.n1⟩
theorem vph (w:World) (R:Nat) (v:Value):w.grownBy (w.setCell ⟨R,1,none⟩ v) (some R) :=
 ⟨rfl,rfl,rfl,by rw [World.size_setCell];exact Nat.le_refl _,fun i hi hr=>Below.heap_setCell _ _ _ _ (fun e=>hr (congrArg some e))⟩
theorem ZfV (R:Nat) (a:Option Addr) (n c:Nat) (p m:Int) (w:World) (h:Rdr w R a n c p) (hp:p<100000000):Calls Tryz.prog 15 #[.pointer (some ⟨R,0,none⟩),.int .i64 m] w fun e w'=>(∃ v,e=.returned (.int .i64 v)/\0<=v/\(v=0\/v<m))/\Rdr w' R a n c (p+1)/\w.grownBy w' (some R):=by
 have p0:=h.p0
 refine (xEt R a n c p m w h).mono fun e w' hh=>?_
 obtain ⟨hv,rfl | rfl⟩:=hh
 ·exact ⟨hv,h.set (p+1) (by omega) (by omega),vph w R _⟩
 ·refine ⟨hv,(h.set (p+1) (by omega) (by omega)).drew,?_⟩
  have hg:=vph w R (.int .i64 (p+1));exact ⟨hg.os,hg.tape,hg.output,hg.size,hg.block⟩
def Bys (w:World) (a:Option Addr) (n:Nat):Prop:=∃ g o,(n=0\/a=some ⟨g,o,none⟩)/\∀ i,i<n->g<w.heap.size/\∃ x:Int,w.cell? ⟨g,o+i,none⟩=some (.int .u8 x)/\0<=x/\x<=255
theorem Bys.below {w w':World} {a:Option Addr} {n:Nat} (h:Bys w a n) (hb:Below w.heap.size w w'):Bys w' a n:=by
 obtain ⟨g,o,ha,hx⟩:=h;refine ⟨g,o,ha,fun i hi=>?_⟩;obtain ⟨hg,x,hc,h0,h1⟩:=hx i hi;exact ⟨Nat.lt_of_lt_of_le hg hb.size,x,(hb.cell (p:=⟨g,o+i,none⟩) hg).trans hc,h0,h1⟩
theorem Bys.rdr {w:World} {a:Option Addr} {n m:Nat} (h:Bys w a n) (hm:m<=n) (h2:m<=2000) (c:Nat) (t:TypeId):Rdr (w.alloc (.cells #[.slice a m c,.int .i64 0] t)) w.heap.size a m c 0:=by
 obtain ⟨g,o,ha,hx⟩:=h;refine ⟨by simp,by simp,?_,⟨g,o,?_,fun i hi=>?_⟩,by omega,by omega,h2⟩
 ·rw [frozen?_alloc_cells]
  have e:w.heap[w.heap.size]?=none:=by simp
  simp [World.frozen?,e]
 ·rcases ha with h | h
  ·exact .inl (by omega)
  ·exact .inr h
 ·obtain ⟨hg,x,hc,h0,h1⟩:=hx i (by omega)
  exact ⟨by omega,x,(World.cell?_alloc_past _ _ _ (by exact hg)).trans hc,h0,h1⟩
theorem ykG {w:World} {g i:Nat} {v:Value} (h:w.cell? ⟨g,i,none⟩=some v):g<w.heap.size:=by
 rcases Nat.lt_or_ge g w.heap.size with hl | hl
 ·exact hl
 ·exfalso
  have:w.heap[g]?=none:=Array.getElem?_eq_none hl;simp [World.cell?,this] at h
theorem Rdr.below {w w':World} {R:Nat} {a:Option Addr} {n c:Nat} {p:Int} (h:Rdr w R a n c p) (hb:Below w.heap.size w w'):Rdr w' R a n c p:=by
 obtain ⟨g,o,ha,hx⟩:=h.bytes;have hR:=ykG h.pc;refine ⟨(hb.cell (p:=⟨R,0,none⟩) hR).trans h.b,(hb.cell (p:=⟨R,1,none⟩) hR).trans h.pc,(hb.frozen (p:=⟨R,1,none⟩) hR).trans h.f,⟨g,o,ha,fun i hi=>?_⟩,h.p0,h.p1,h.n1⟩;obtain ⟨aA,x,hc,aB,aC⟩:=hx i hi;exact ⟨aA,x,(hb.cell (p:=⟨g,o+i,none⟩) (ykG hc)).trans hc,aB,aC⟩
theorem Q24 {w w':World} {R b i:Nat} {v:Value} (hg:w.grownBy w' (some R)) (aA:b≠R) (h:w.cell? ⟨b,i,none⟩=some v):w'.cell? ⟨b,i,none⟩=some v :=
 (World.cell?_of_block (a:=⟨b,i,none⟩) (hg.block b (ykG h) (fun e=>aA (by injection e)))).trans h
theorem kOQ (s:ByteArray) (n:Int) (hs:s.size<=64) (hn:n<=1000):Hid (s.size*n.toNat+ByteArray.empty.size<=64000):=by
 show _<=_;have h1:n.toNat<=1000:=by omega
 have h2:=Nat.mul_le_mul hs h1;have h3:ByteArray.empty.size=0:=rfl;omega
theorem quU (s:ByteArray) (n:Int) (w:World) (hs:s.size<=64) (hn:n<=1000):Calls Tryz.prog 60 #[.string s,.int .i64 n] w fun e w'=>(∃ t:ByteArray,e=.returned (.string t)/\t.size<=64000)/\Below w.heap.size w w':=by
 go_enter Tryz.func60,Tryz.ntmps60;go_wp2;go_loop [0,1,5] (fun sv nv ov=>∃ (t u:ByteArray) (m:Int),sv=.string t/\nv=.int .i64 m/\ov=.string u/\m<=1000/\Hid (t.size*m.toNat+u.size<=64000)/\t.size<=128000) (fun _ nv _=>(intOf nv).toNat)
 case atStart=>exact ⟨s,ByteArray.empty,n,rfl,rfl,rfl,hn,kOQ s n hs hn,by omega⟩
 case round =>
  obtain ⟨t,u,m,rfl,rfl,rfl,hm,HB,ht⟩:=hrel
  by_cases h0:0<m
  ·obtain ⟨q,r,hq,hr⟩:∃ q r:Nat,m.toNat=2*q+r/\r<2:=⟨m.toNat / 2,m.toNat % 2,by omega,by omega⟩
   have aG:m=2*(q:Int)+(r:Int):=by omega
   have hb:=HB.out;rw [hq,Nat.mul_add] at hb;have e2:t.size*(2*q)=2*(t.size*q):=by rw [Nat.mul_left_comm]
   rw [e2] at hb;obtain ⟨P,hP⟩:∃ P,t.size*q=P:=⟨_,rfl⟩;rw [hP] at hb
   have aD:t.size<=64000:=by
    rcases Nat.eq_zero_or_pos r with h | h
    ·subst h
     have aC:1<=q:=by omega
     have:t.size<=t.size*q:=Nat.le_mul_of_pos_right _ aC;omega
    ·have:t.size*1<=t.size*r:=Nat.mul_le_mul_left _ h
     omega
   have z1:¬ (9223372036854775807<t.size+t.size):=by omega
   have hd:m.tdiv 2=(q:Int):=by rw [Int.tdiv_eq_ediv_of_nonneg (by omega)];omega
   have aE:m / 2=(q:Int):=by omega
   rcases Nat.eq_zero_or_pos r with h | h
   ·subst h
    have aF:m % 2=0:=by omega
    have aA:¬ (m % 2=1):=by omega
    have aB:¬ (m.tmod 2=1):=by rw [Int.tmod_eq_emod_of_nonneg (by omega)];omega
    have HN:Hid ((t++t).size*((q:Int)).toNat+u.size<=64000):=by
     show _<=_;rw [Int.toNat_natCast,ByteArray.size_append,Nat.add_mul,hP];omega
    clear HB hb hq;go_wp2;exact ⟨⟨_,_,_,rfl,rfl,rfl,by omega,HN.out,by rw [ByteArray.size_append];omega⟩,by simp [intOf];omega⟩
   ·have aA:r=1:=by omega
    subst aA;have aA:m % 2=1:=by omega
    have aB:m.tmod 2=1:=by rw [Int.tmod_eq_emod_of_nonneg (by omega)];omega
    have z2:¬ (9223372036854775807<u.size+t.size):=by omega
    have HN:Hid ((t++t).size*((q:Int)).toNat+(u++t).size<=64000):=by
     show _<=_;rw [Int.toNat_natCast,ByteArray.size_append,ByteArray.size_append,Nat.add_mul,hP];omega
    clear HB hb hq;go_wp2;exact ⟨⟨_,_,_,rfl,rfl,rfl,by omega,(by rw [show ((2*(q:Int)+1) / 2)=(q:Int) by omega];exact HN.out),by rw [ByteArray.size_append];omega⟩,by simp [intOf];omega⟩
  ·go_wp2
   go_ret;exact ⟨⟨u,rfl,by have:=HB.out;omega⟩,Below.refl _ _⟩
def Zlg (W:World) (R:Nat) (a:Option Addr) (n c:Nat) (p:Int) (d:Int) (w:World):Prop:=(∃ q,p<=q/\q<=p+d/\Rdr w R a n c q)/\W.grownBy w (some R)
theorem zoj (t b:ByteArray) {k:Int} (h:(t.size:Int)+k<=4):((t++b.extract 0 1).size:Int)+(k-1)<=4:=by
 rw [ByteArray.size_append];have:(b.extract 0 1).size<=1:=by simp only [ByteArray.size_extract];omega
 omega
theorem xAH (R:Nat) (a:Option Addr) (n c:Nat) (p:Int) (w:World) (h:Rdr w R a n c p) (hp:p<99999000):Calls Tryz.prog 84 #[.pointer (some ⟨R,0,none⟩)] w fun e w'=>(∃ t:ByteArray,e=.returned (.string t)/\t.size<=64000)/\Zlg w R a n c p 10 w':=by
 have hR:=ykG h.pc;have p0:=h.p0;go_enter Tryz.func84,Tryz.ntmps84;go_wp2_with fail;refine (ZfV R a n c p 8 _ h (by omega)).mono ?_;rintro e w1 ⟨⟨v,rfl,v0,v1⟩,hr,hg⟩
 by_cases e0:v=0
 ·subst e0
  go_wp2;go_ret;exact ⟨⟨_,rfl,by decide⟩,⟨p+1,by omega,by omega,hr⟩,hg⟩
 by_cases e1:v=1
 ·subst e1
  go_wp2;go_ret;exact ⟨⟨_,rfl,by decide⟩,⟨p+1,by omega,by omega,hr⟩,hg⟩
 by_cases e2:v=2
 ·subst e2
  go_wp2_with fail;refine (ZfV R a n c (p+1) 21 _ hr (by omega)).mono ?_;rintro e w2 ⟨⟨u,rfl,u0,u1⟩,aB,aA⟩;have hu:IntKind.i64.wrap (5+u)=5+u:=vRg _ (by omega) (by omega);go_wp2_with fail;refine (quU _ (5+u) _ (by decide) (by omega)).mono ?_;rintro e w3 ⟨⟨t,rfl,ht⟩,aE⟩;go_wp2;go_ret;exact ⟨⟨t,rfl,ht⟩,⟨p+1+1,by omega,by omega,aB.below aE⟩,ZpU (ZpU hg aA) (Qbp _ aE)⟩
 by_cases e3:v=3
 ·subst e3
  go_wp2;go_ret;exact ⟨⟨_,rfl,by decide⟩,⟨p+1,by omega,by omega,hr⟩,hg⟩
 go_wp2_with fail;refine (ZfV R a n c (p+1) 4 _ hr (by omega)).mono ?_;rintro e w2 ⟨⟨u,rfl,u0,u1⟩,aB,aA⟩;have hu:IntKind.i64.wrap (1+u)=1+u:=vRg _ (by omega) (by omega);have aJ:=hid aB;have aI:=hid (ZpU hg aA);clear hr hg aB aA h;go_wp2;go_loopw [3,4] (fun ov nv wr=>∃ (t:ByteArray) (k q:Int),ov=.string t/\nv=.int .i64 k/\0<=k/\k<=4/\(t.size:Int)+k<=4/\p<=q/\q+k<=p+6/\Rdr wr R a n c q/\w.grownBy wr (some R)) (fun _ nv _=>(intOf nv).toNat)
 case atStart=>exact ⟨⟨#[]⟩,1+u,p+1+1,rfl,rfl,by omega,by omega,by show (0:Int)+(1+u)<=4;omega,by omega,by omega,aJ.out,aI.out⟩
 case round =>
  obtain ⟨t,k,q,rfl,rfl,k0,k1,aN,q0,q1,aD,aC⟩:=hrel
  by_cases hk:0<k
  ·have HG:=hid aC
   clear aC;go_wp2_with fail;refine (ZfV R a n c q 4 _ aD (by omega)).mono ?_;rintro e w3 ⟨⟨x,rfl,x0,x1⟩,aG,aF⟩;have aH:=hid aG;have aK:=hid (ZpU HG.out aF);clear aG aF aD HG;have aL:IntKind.i64.wrap (k-1)=k-1:=vRg _ (by omega) (by omega);have aM:t.size<=4:=by omega
   have z1:¬ (9223372036854775807<t.size+1):=by omega
   have hx:x=0\/x=1\/x=2\/x=3:=by omega
   clear x0 x1;rcases hx with rfl | rfl | rfl | rfl
   all_goals go_wp2
   all_goals go_roundw
   all_goals first
    | exact ⟨_,k-1,q+1,rfl,rfl,by omega,by omega,zoj _ _ (by omega),by omega,by omega,aH.out,aK.out⟩
    | (simp [intOf];omega)
  ·go_wp2
   go_ret;exact ⟨⟨t,rfl,by omega⟩,⟨q,by omega,by omega,aD⟩,aC⟩
def nth (l:List Int) (n:Nat):Int:=l.getD n 0
theorem Row.nth {w:World} {g:Nat} {l:List Int} (h:Row w g (l.map (Value.int .i64))) {n:Nat} (hn:n<l.length):w.cell? ⟨g,n,none⟩=some (.int .i64 (nth l n)) :=
 h.cell n _ (by simp [Go.Proofs.YtcdojnnkjeakmaaGreatDoor.nth,List.getD,hn])
theorem quc (w:World) (o:Obj):Below w.heap.size w (w.alloc o):=(Below.refl _ _).alloc (Nat.le_refl _) _
theorem JFC {a b:World} {r:Option Nat} (h:a.grownBy b r) (p:Addr) (hp:a.heap.size<=p.block) (v:Value):a.grownBy (b.setCell p v) r :=
 ⟨h.os,h.tape,h.output,by rw [World.size_setCell];exact h.size,fun i hi hr=>(Below.heap_setCell _ _ _ _ (fun e=>by omega)).trans (h.block i hi hr)⟩
theorem Rdr.keep {w w':World} {R N:Nat} {a:Option Addr} {n c:Nat} {p:Int} (h:Rdr w R a n c p) (hN:R<N) (hg:∀ g o,a=some ⟨g,o,none⟩->0<n->g<N) (hb:Below N w w'):Rdr w' R a n c p:=by
 obtain ⟨g,o,ha,hx⟩:=h.bytes;refine ⟨(hb.cell (p:=⟨R,0,none⟩) hN).trans h.b,(hb.cell (p:=⟨R,1,none⟩) hN).trans h.pc,(hb.frozen (p:=⟨R,1,none⟩) hN).trans h.f,⟨g,o,ha,fun i hi=>?_⟩,h.p0,h.p1,h.n1⟩;obtain ⟨aA,x,hc,aB,aC⟩:=hx i hi;exact ⟨aA,x,(hb.cell (p:=⟨g,o+i,none⟩) (hg g o (ha.resolve_left (by omega)) (by omega))).trans hc,aB,aC⟩
theorem Rdr.lts {w:World} {R:Nat} {a:Option Addr} {n c:Nat} {p:Int} (h:Rdr w R a n c p):R<w.heap.size/\∀ g o,a=some ⟨g,o,none⟩->0<n->g<w.heap.size:=by
 refine ⟨ykG h.pc,fun g o ha hn=>?_⟩;obtain ⟨g',o',aA,hx⟩:=h.bytes;have e:=aA.resolve_left (by omega);rw [ha] at e;injection e with e;injection e with e1 e2;subst e1;obtain ⟨_,x,hc,_⟩:=hx 0 hn;exact ykG hc
def v3r (rs:List (ByteArray×ByteArray×Bool)) (k v:Nat):Prop:=∀ x∈rs,x.1.size<=k/\x.2.1.size<=v
theorem q6I {w:World} {B:Nat} {e:TypeId} {k:Nat} {y:Value} {m:Nat} {cs:List Value} (h:w.ownsRow B e k y m cs):∃ ya yc,y=.slice ya m yc:=by
 rcases yUO h with ⟨h1,h2⟩ | ⟨g,cap,h1,_⟩
 ·exact ⟨none,0,by rw [h1,h2]⟩
 ·exact ⟨_,cap,h1⟩
structure BdS (w0 w:World) (e:TypeId) (k:Nat) (R:Nat) (a:Option Addr) (n c:Nat) (q:Int) (y:Value) (m:Nat) (cs:List Value):Prop where
 rd:Rdr w R a n c q
 own:w.ownsRow w0.heap.size e k y m cs
 gr:w0.grownBy w (some R)
 lR:R<w0.heap.size
 ga:∀ g o,a=some ⟨g,o,none⟩->0<n->g<w0.heap.size
theorem BdS.pick {w0 w w':World} {e:TypeId} {k:Nat} {R:Nat} {a:Option Addr} {n c:Nat} {q q':Int} {y:Value} {m:Nat} {cs:List Value} (h:BdS w0 w e k R a n c q y m cs) (hr:Rdr w' R a n c q') (hg:w.grownBy w' (some R)):BdS w0 w' e k R a n c q' y m cs :=
 ⟨hr,h.own.kept hg (.inr (fun e=>by have:=(h.own.lt _ e).1;have:=h.lR;omega)),ZpU h.gr hg,h.lR,h.ga⟩
theorem BdS.below {w0 w w':World} {e:TypeId} {k:Nat} {R:Nat} {a:Option Addr} {n c:Nat} {q:Int} {y:Value} {m:Nat} {cs:List Value} (h:BdS w0 w e k R a n c q y m cs) (hb:Below w.heap.size w w'):BdS w0 w' e k R a n c q y m cs :=
 ⟨h.rd.below hb,jcb h.own hb,ZpU h.gr (Qbp _ hb),h.lR,h.ga⟩
theorem BdS.drew {w0 w:World} {e:TypeId} {k:Nat} {R:Nat} {a:Option Addr} {n c:Nat} {q:Int} {y:Value} {m:Nat} {cs:List Value} (h:BdS w0 w e k R a n c q y m cs):BdS w0 w.drew e k R a n c q y m cs:=h.below (Below.refl _ _).drew
theorem BdS.lt {w0 w:World} {e:TypeId} {k:Nat} {R:Nat} {a:Option Addr} {n c:Nat} {q:Int} {y:Value} {m:Nat} {cs:List Value} (h:BdS w0 w e k R a n c q y m cs):w0.heap.size<=w.heap.size:=h.gr.size
theorem BdS.set {w0 w:World} {e:TypeId} {k:Nat} {R:Nat} {a:Option Addr} {n c:Nat} {q:Int} {y:Value} {m:Nat} {cs:List Value} (h:BdS w0 w e k R a n c q y m cs) (X i:Nat) (hX:w0.heap.size<=X) (hy:y.ownBlock≠some X) (v:Value):BdS w0 (w.setCell ⟨X,i,none⟩ v) e k R a n c q y m cs:=by
 have hl:=h.lR;refine ⟨h.rd.keep (N:=w0.heap.size) hl h.ga ((Below.refl _ _).setCell hX _),ownsRow_setCell_other h.own hy v,JFC h.gr _ hX _,hl,h.ga⟩
theorem BdS.push {w0 w w':World} {e:TypeId} {k:Nat} {R:Nat} {a:Option Addr} {n c:Nat} {q:Int} {y y':Value} {m m':Nat} {cs aB:List Value} (h:BdS w0 w e k R a n c q y m cs) (aA:w'.ownsRow w0.heap.size e k y' m' aB) (hg:w.grownBy w' y.ownBlock):BdS w0 w' e k R a n c q y' m' aB:=by
 have hb:Below w0.heap.size w w':=jJX hg h.lt (fun g e=>(h.own.lt _ e).1);exact ⟨h.rd.keep (N:=w0.heap.size) h.lR h.ga hb,aA,⟨hg.os.trans h.gr.os,hg.tape.trans h.gr.tape,hg.output.trans h.gr.output,Nat.le_trans h.gr.size hg.size,fun i hi hr=>(hb.block i hi).trans (h.gr.block i hi hr)⟩,h.lR,h.ga⟩
structure BdX (w0 w:World) (e:TypeId) (k:Nat) (R:Nat) (a:Option Addr) (n c:Nat) (q:Int) (y:Value) (m:Nat) (cs:List Value) (X:Nat) (xs:List Value):Prop where
 s:BdS w0 w e k R a n c q y m cs
 row:Row w X xs
 xo:y.ownBlock≠some X
 xb:w0.heap.size<=X
theorem BdX.ne {w0 w:World} {e:TypeId} {k:Nat} {R:Nat} {a:Option Addr} {n c:Nat} {q:Int} {y:Value} {m:Nat} {cs:List Value} {X:Nat} {xs:List Value} (h:BdX w0 w e k R a n c q y m cs X xs):X≠R:=by have:=h.xb;have:=h.s.lR;omega
theorem BdX.pick {w0 w w':World} {e:TypeId} {k:Nat} {R:Nat} {a:Option Addr} {n c:Nat} {q q':Int} {y:Value} {m:Nat} {cs:List Value} {X:Nat} {xs:List Value} (h:BdX w0 w e k R a n c q y m cs X xs) (hr:Rdr w' R a n c q') (hg:w.grownBy w' (some R)):BdX w0 w' e k R a n c q' y m cs X xs :=
 ⟨h.s.pick hr hg,h.row.grown hg (fun e=>h.ne (by injection e)),h.xo,h.xb⟩
theorem BdX.below {w0 w w':World} {e:TypeId} {k:Nat} {R:Nat} {a:Option Addr} {n c:Nat} {q:Int} {y:Value} {m:Nat} {cs:List Value} {X:Nat} {xs:List Value} (h:BdX w0 w e k R a n c q y m cs X xs) (hb:Below w.heap.size w w'):BdX w0 w' e k R a n c q y m cs X xs :=
 ⟨h.s.below hb,h.row.below hb,h.xo,h.xb⟩
theorem BdX.drew {w0 w:World} {e:TypeId} {k:Nat} {R:Nat} {a:Option Addr} {n c:Nat} {q:Int} {y:Value} {m:Nat} {cs:List Value} {X:Nat} {xs:List Value} (h:BdX w0 w e k R a n c q y m cs X xs):BdX w0 w.drew e k R a n c q y m cs X xs:=h.below (Below.refl _ _).drew
theorem BdX.set {w0 w:World} {e:TypeId} {k:Nat} {R:Nat} {a:Option Addr} {n c:Nat} {q:Int} {y:Value} {m:Nat} {cs:List Value} {X:Nat} {xs:List Value} (h:BdX w0 w e k R a n c q y m cs X xs) (i:Nat) (hi:i<xs.length) (v:Value):BdX w0 (w.setCell ⟨X,i,none⟩ v) e k R a n c q y m cs X (xs.set i v) :=
 ⟨h.s.set X i h.xb h.xo v,h.row.set i hi v,h.xo,h.xb⟩
theorem BdS.box {w0 w:World} {e:TypeId} {k:Nat} {R:Nat} {a:Option Addr} {n c:Nat} {q:Int} {y:Value} {m:Nat} {cs:List Value} (h:BdS w0 w e k R a n c q y m cs) (A:Array Value) (t:TypeId):BdX w0 (w.alloc (.cells A t)) e k R a n c q y m cs w.heap.size A.toList :=
 ⟨h.below (quc _ _),xER _ _ _,fun e=>by have:=(h.own.lt _ e).2;omega,h.lt⟩
theorem y1U (w:World) (cs:Array Value) (t:TypeId):∀ j u,cs.toList[j]?=some u->(w.alloc (.cells cs t)).cell? ((⟨w.heap.size,0,none⟩:Addr).add j)=some u:=World.news_of_block (heap_alloc_new w (.cells cs t))
theorem q1U:(Tryz.prog.info? 117).map (fun i=>(i.zero,i.size,i.bytes))=some (some (.agg #[.string ByteArray.empty,.string ByteArray.empty,.bool false]),3,40):=by kernel_rfl
theorem yWN {P:Program} {e:TypeId} {z:Value} {size aA:Nat} (h:(P.info? e).map (fun i=>(i.zero,i.size,i.bytes))=some (some z,size,aA)):∃ i,P.info? e=some i/\i.zero=some z/\i.size=size/\i.bytes=aA:=by
 cases h1:P.info? e with
 | none=>rw [h1] at h;cases h
 | some i=>rw [h1] at h;simp at h;exact ⟨i,rfl,h.1,h.2.1,h.2.2⟩
theorem Qn2 (k v:ByteArray) (g:Bool):∀ u∈[Value.string k,.string v,.bool g],u.oneCell'=true:=by
 intro u hu;simp only [List.mem_cons,List.not_mem_nil,or_false] at hu;rcases hu with rfl | rfl | rfl<;>rfl
theorem vYx (o:List (ByteArray×ByteArray×Bool)) (c:ByteArray×ByteArray×Bool):jlM (o++[c])=jlM o++[.string c.1,.string c.2.1,.bool c.2.2]:=by rw [xam];rfl
theorem J88 (R:Nat) (a:Option Addr) (n c:Nat) (p:Int) (w:World) (h:Rdr w R a n c p) (hp:p<99990000):Calls Tryz.prog 66 #[.pointer (some ⟨R,0,none⟩)] w fun e w'=>(∃ v rs,e=.returned v/\w'.ownsRow w.heap.size 117 3 v rs.length (jlM rs)/\(1<=rs.length/\rs.length<=20)/\v3r rs 3 100)/\Zlg w R a n c p 600 w':=by
 have p0:=h.p0;obtain ⟨i0,bC,bY,cH,aZ⟩:=yWN q1U;have HI:=hid (And.intro bC (And.intro bY (And.intro cH aZ)));clear bC bY cH aZ
 have D0:BdS w (w.alloc (.cells #[] 117)) 117 3 R a n c p (.slice (some ⟨w.heap.size,0,none⟩) 0 0) 0 [] :=
  ⟨h.below (quc _ _),World.ownsRow_lit _ #[] 0 (Nat.le_refl _) (by simp) (by simp),Qbp _ (quc _ _),h.lts.1,h.lts.2⟩
 clear h;go_enter Tryz.func66,Tryz.ntmps66;go_wp2_with fail;refine (ZfV R a n c p 4 _ D0.rd (by omega)).mono ?_;rintro e w1 ⟨⟨v,rfl,v0,v1⟩,cC,bW⟩;have D1:=D0.pick cC bW;have hv:IntKind.i64.wrap (1+v)=1+v:=vRg _ (by omega) (by omega);clear D0 cC bW;go_wp2_with fail;refine (ZfV R a n c (p+1) 10 _ D1.rd (by omega)).mono ?_;rintro e w2 ⟨⟨u,rfl,u0,u1⟩,bH,bU⟩;have D2:=D1.pick bH bU;clear D1 bH bU;go_upto_if 13 with fail;go_cut [4] from 11 to 16 (fun nv wx=>∃ (N q:Int),nv=.int .i64 N/\1<=N/\N<=20/\p<=q/\q<=p+3/\BdS w wx 117 3 R a n c q (.slice (some ⟨w.heap.size,0,none⟩) 0 0) 0 [])
 case first =>
  by_cases hu:u=0
  ·subst hu
   go_wp2_with fail;refine (ZfV R a n c (p+1+1) 2 _ D2.rd (by omega)).mono ?_;rintro e w3 ⟨⟨z,rfl,z0,z1⟩,bZ,bJ⟩;have D3:=D2.pick bZ bJ;have hz:IntKind.i64.wrap (20-z)=20-z:=vRg _ (by omega) (by omega);clear D2 bZ bJ;go_wp2_with fail;go_meet;exact ⟨20-z,p+1+1+1,rfl,by omega,by omega,by omega,by omega,D3⟩
  ·go_wp2_with fail
   go_meet;exact ⟨1+v,p+1+1,rfl,by omega,by omega,by omega,by omega,D2⟩
 case rest =>
 obtain ⟨N,q,rfl,N0,N1,dV,dY,D3⟩:=hcut;clear D2 u0 u1 hv v0 v1;go_wp2;go_loopw [3,5] (fun y iv wr=>∃ (rs:List (ByteArray×ByteArray×Bool)) (q:Int) (Y:Value),Y=y/\iv=.int .i64 (rs.length:Int)/\(rs.length:Int)<=N/\p<=q/\q<=p+3+20*(rs.length:Int)/\v3r rs 3 100/\BdS w wr 117 3 R a n c q y rs.length (jlM rs)) (fun _ iv _=>(N-intOf iv).toNat)
 case atStart=>exact ⟨[],q,_,rfl,rfl,by simp;omega,by omega,by simp;omega,(fun x hx=>by simp at hx),D3⟩
 case round =>
  obtain ⟨rs,q,y,rfl,rfl,hl,q0,q1,bG,DR⟩:=hrel;have bV:=hid bG;clear bG;have cM:rs.length<=20:=by omega
  by_cases dQ:(rs.length:Int)<N
  ·have dU:¬ N<=(rs.length:Int):=by omega
   obtain ⟨ya,yc,rfl⟩:=q6I DR.own;have dM:IntKind.i64.wrap ((rs.length:Int)+1)=(rs.length:Int)+1:=vRg _ (by omega) (by omega);go_upto_region 8 with fail;go_cut [6] from 17 to 58 (fun xv wx=>∃ (X:Nat) (KY:ByteArray) (gn:Bool),xv=.pointer (some ⟨X,0,none⟩)/\KY.size=2/\BdX w wx 117 3 R a n c (q+1+1) (.slice ya rs.length yc) rs.length (jlM rs) X [.string KY,.string ⟨#[]⟩,.bool gn])
   case first =>
    refine wp_region_held_drew (S:=fun w'=>True) (by kernel_rfl) (trivial) (fun aA=>?_);refine TY 0 (.pointer (some ⟨R,0,none⟩)) rfl aA (TY 5 (.pointer (some ⟨R,0,none⟩)) rfl aA ?_);simp only [PS];refine wpAnyH_ready (rs:=[1,9]) (by kernel_rfl) (by simp) ?_;refine AllReadyH.cons rfl (fun K hK=>?_) (AllReadyH.cons rfl (fun K hK=>?_) AllReadyH.nil)
    ·refine XRf (by rfl) _ _ (by go_simp) (ZfV R a n c q 8 _ DR.drew.rd (by omega)) ?_
     rintro e w4 ⟨⟨x',rfl,x0,x1⟩,aQ,aN⟩;refine ⟨_,rfl,?_⟩;have F1:=DR.drew.pick aQ aN;clear aQ aN;obtain ⟨x,rfl⟩:∃ k:Nat,x'=(k:Int):=⟨x'.toNat,by omega⟩;have cT:(x:Int)<=8:=by omega
     have aY:x<8:=by omega
     clear x0 x1;have cW:((⟨#[97,98,99,100,101,102,103,104]⟩:ByteArray).extract x 8).size=8-x:=by simp only [ByteArray.size_extract];show min 8 8-x=8-x;omega
     have aV:(1:Int)<=(((8-x:Nat)):Int):=by omega
     obtain ⟨k1,aH⟩:∃ z,((⟨#[97,98,99,100,101,102,103,104]⟩:ByteArray).extract x 8).extract 0 1=z:=⟨_,rfl⟩;have cK:k1.size=1:=by rw [<-aH];simp only [ByteArray.size_extract];show min 1 (min 8 8-x)-0=1;omega
     obtain ⟨KY,aI⟩:∃ z,(⟨#[107]⟩:ByteArray)++k1=z:=⟨_,rfl⟩;have aL:KY.size=2:=by rw [<-aI,ByteArray.size_append];show 1+k1.size=2;omega
     have cO:¬ (9223372036854775807<1+k1.size):=by omega
     refine hK.out _ _ aA (fun _=>?_);clear hK K
     try simp only [PS]
     refine TY 2 (.string ((⟨#[97,98,99,100,101,102,103,104]⟩:ByteArray).extract x 8)) rfl aA (TY 3 (.string k1) rfl aA (TY 4 (.string KY) rfl aA ?_));simp only [PS];refine wpAnyH_ready (rs:=[6,9]) (by kernel_rfl) (by simp) ?_;refine AllReadyH.cons rfl (fun K hK=>?_) (AllReadyH.cons rfl (fun K hK=>?_) AllReadyH.nil)
     ·refine XRf (by rfl) _ _ (by go_simp) (ZfV R a n c (q+1) 4 _ F1.rd (by omega)) ?_
      rintro e w5 ⟨⟨u',rfl,u0,u1⟩,aG,aF⟩;refine ⟨_,rfl,?_⟩;have F6:=F1.pick aG aF;clear aG aF;obtain ⟨gn,aS⟩:∃ g:Bool,(u' == 0)=g:=⟨_,rfl⟩;have aT:decide (u'=0)=gn:=by rw [<-aS];rfl
      refine hK.out _ _ aA (fun _=>?_);clear hK K
      try simp only [PS]
      refine TY 7 (.bool gn) rfl aA (TY 8 (.agg #[.string KY,.string ⟨#[]⟩,.bool gn]) rfl aA ?_);simp only [PS];refine RD 9 rfl (fun K hK=>?_);go_simp;have F9:=(F6.box #[.string ⟨#[]⟩,.string ⟨#[]⟩,.bool false] 117);obtain ⟨X,aE⟩:∃ z,z=w5.heap.size:=⟨_,rfl⟩;obtain ⟨wx,aB⟩:∃ z,z=(w5.alloc (.cells #[.string ⟨#[]⟩,.string ⟨#[]⟩,.bool false] 117)):=⟨_,rfl⟩;rw [<-aB,<-aE] at F9;rw [<-aB,<-aE];clear aB aE;refine hK.out _ _ aA (fun _=>?_);clear hK K
      try simp only [PS]
      refine RD 10 rfl (fun K hK=>?_);have G8:=F9;obtain ⟨l0,l1,l2⟩:=G8.row.k3;obtain ⟨cF,b7,bI⟩:=G8.row.z3;have ll:=G8.row.lt;go_simp;refine hK.out _ _ aA (fun _=>?_);clear hK K
      try simp only [PS]
      refine DN ?_;have G9:BdX w (((wx.setCell ⟨X,0,none⟩ (.string KY)).setCell ⟨X,1,none⟩ (.string ⟨#[]⟩)).setCell ⟨X,2,none⟩ (.bool gn)) 117 3 R a n c (q+1+1) (.slice ya rs.length yc) rs.length (jlM rs) X [.string KY,.string ⟨#[]⟩,.bool gn]:=((G8.set 0 (by simp) (.string KY)).set 1 (by simp) (.string ⟨#[]⟩)).set 2 (by simp) (.bool gn);go_wp2_with fail;go_meet;exact ⟨X,KY,gn,rfl,aL,G9⟩
     ·go_simp
      have F9:=(F1.box #[.string ⟨#[]⟩,.string ⟨#[]⟩,.bool false] 117);obtain ⟨X,aE⟩:∃ z,z=w4.heap.size:=⟨_,rfl⟩;obtain ⟨wx,aB⟩:∃ z,z=(w4.alloc (.cells #[.string ⟨#[]⟩,.string ⟨#[]⟩,.bool false] 117)):=⟨_,rfl⟩;rw [<-aB,<-aE] at F9;rw [<-aB,<-aE];clear aB aE;refine hK.out _ _ aA (fun _=>?_);clear hK K
      try simp only [PS]
      refine RD 6 rfl (fun K hK=>?_);refine XRf (by rfl) _ _ (by go_simp) (ZfV R a n c (q+1) 4 _ F9.s.rd (by omega)) ?_;rintro e w5 ⟨⟨u',rfl,u0,u1⟩,aG,aF⟩;refine ⟨_,rfl,?_⟩;have F6:=F9.pick aG aF;clear aG aF;obtain ⟨gn,aS⟩:∃ g:Bool,(u' == 0)=g:=⟨_,rfl⟩;have aT:decide (u'=0)=gn:=by rw [<-aS];rfl
      refine hK.out _ _ aA (fun _=>?_);clear hK K
      try simp only [PS]
      refine TY 7 (.bool gn) rfl aA (TY 8 (.agg #[.string KY,.string ⟨#[]⟩,.bool gn]) rfl aA ?_);simp only [PS];refine RD 10 rfl (fun K hK=>?_);have G8:=F6;obtain ⟨l0,l1,l2⟩:=G8.row.k3;obtain ⟨cF,b7,bI⟩:=G8.row.z3;have ll:=G8.row.lt;go_simp;refine hK.out _ _ aA (fun _=>?_);clear hK K
      try simp only [PS]
      refine DN ?_;have G9:BdX w (((w5.setCell ⟨X,0,none⟩ (.string KY)).setCell ⟨X,1,none⟩ (.string ⟨#[]⟩)).setCell ⟨X,2,none⟩ (.bool gn)) 117 3 R a n c (q+1+1) (.slice ya rs.length yc) rs.length (jlM rs) X [.string KY,.string ⟨#[]⟩,.bool gn]:=((G8.set 0 (by simp) (.string KY)).set 1 (by simp) (.string ⟨#[]⟩)).set 2 (by simp) (.bool gn);go_wp2_with fail;go_meet;exact ⟨X,KY,gn,rfl,aL,G9⟩
    ·go_simp
     have F9:=(DR.box #[.string ⟨#[]⟩,.string ⟨#[]⟩,.bool false] 117).drew;obtain ⟨X,aE⟩:∃ z,z=wr.heap.size:=⟨_,rfl⟩;obtain ⟨wx,aB⟩:∃ z,z=(wr.alloc (.cells #[.string ⟨#[]⟩,.string ⟨#[]⟩,.bool false] 117)).drew:=⟨_,rfl⟩;rw [<-aB,<-aE] at F9;rw [<-aB,<-aE];clear aB aE;refine hK.out _ _ aA (fun _=>?_);clear hK K
     try simp only [PS]
     refine RD 1 rfl (fun K hK=>?_);refine XRf (by rfl) _ _ (by go_simp) (ZfV R a n c q 8 _ F9.s.rd (by omega)) ?_;rintro e w4 ⟨⟨x',rfl,x0,x1⟩,aQ,aN⟩;refine ⟨_,rfl,?_⟩;have F1:=F9.pick aQ aN;clear aQ aN;obtain ⟨x,rfl⟩:∃ k:Nat,x'=(k:Int):=⟨x'.toNat,by omega⟩;have cT:(x:Int)<=8:=by omega
     have aY:x<8:=by omega
     clear x0 x1;have cW:((⟨#[97,98,99,100,101,102,103,104]⟩:ByteArray).extract x 8).size=8-x:=by simp only [ByteArray.size_extract];show min 8 8-x=8-x;omega
     have aV:(1:Int)<=(((8-x:Nat)):Int):=by omega
     obtain ⟨k1,aH⟩:∃ z,((⟨#[97,98,99,100,101,102,103,104]⟩:ByteArray).extract x 8).extract 0 1=z:=⟨_,rfl⟩;have cK:k1.size=1:=by rw [<-aH];simp only [ByteArray.size_extract];show min 1 (min 8 8-x)-0=1;omega
     obtain ⟨KY,aI⟩:∃ z,(⟨#[107]⟩:ByteArray)++k1=z:=⟨_,rfl⟩;have aL:KY.size=2:=by rw [<-aI,ByteArray.size_append];show 1+k1.size=2;omega
     have cO:¬ (9223372036854775807<1+k1.size):=by omega
     refine hK.out _ _ aA (fun _=>?_);clear hK K
     try simp only [PS]
     refine TY 2 (.string ((⟨#[97,98,99,100,101,102,103,104]⟩:ByteArray).extract x 8)) rfl aA (TY 3 (.string k1) rfl aA (TY 4 (.string KY) rfl aA ?_));simp only [PS];refine RD 6 rfl (fun K hK=>?_);refine XRf (by rfl) _ _ (by go_simp) (ZfV R a n c (q+1) 4 _ F1.s.rd (by omega)) ?_;rintro e w5 ⟨⟨u',rfl,u0,u1⟩,aG,aF⟩;refine ⟨_,rfl,?_⟩;have F6:=F1.pick aG aF;clear aG aF;obtain ⟨gn,aS⟩:∃ g:Bool,(u' == 0)=g:=⟨_,rfl⟩;have aT:decide (u'=0)=gn:=by rw [<-aS];rfl
     refine hK.out _ _ aA (fun _=>?_);clear hK K
     try simp only [PS]
     refine TY 7 (.bool gn) rfl aA (TY 8 (.agg #[.string KY,.string ⟨#[]⟩,.bool gn]) rfl aA ?_);simp only [PS];refine RD 10 rfl (fun K hK=>?_);have G8:=F6;obtain ⟨l0,l1,l2⟩:=G8.row.k3;obtain ⟨cF,b7,bI⟩:=G8.row.z3;have ll:=G8.row.lt;go_simp;refine hK.out _ _ aA (fun _=>?_);clear hK K
     try simp only [PS]
     refine DN ?_;have G9:BdX w (((w5.setCell ⟨X,0,none⟩ (.string KY)).setCell ⟨X,1,none⟩ (.string ⟨#[]⟩)).setCell ⟨X,2,none⟩ (.bool gn)) 117 3 R a n c (q+1+1) (.slice ya rs.length yc) rs.length (jlM rs) X [.string KY,.string ⟨#[]⟩,.bool gn]:=((G8.set 0 (by simp) (.string KY)).set 1 (by simp) (.string ⟨#[]⟩)).set 2 (by simp) (.bool gn);go_wp2_with fail;go_meet;exact ⟨X,KY,gn,rfl,aL,G9⟩
   case rest =>
   obtain ⟨X,KY,gn,rfl,aL,G9⟩:=hcut;clear DR;go_upto_if 32 with fail;go_cut [] from 17 to 58 (fun wx=>∃ (K2:ByteArray) (q2:Int),K2.size<=3/\q<=q2/\q2<=q+3/\BdX w wx 117 3 R a n c q2 (.slice ya rs.length yc) rs.length (jlM rs) X [.string K2,.string ⟨#[]⟩,.bool gn])
   case first =>
    by_cases dL:8<N
    ·go_upto_region 10 with fail
     refine wp_region_held_drew (S:=fun w'=>True) (by kernel_rfl) (trivial) (fun aA=>?_);refine TY 0 (.pointer (some ⟨X,0,none⟩)) rfl aA (TY 2 (.pointer (some ⟨R,0,none⟩)) rfl aA ?_);simp only [PS];refine wpAnyH_ready (rs:=[1,3]) (by kernel_rfl) (by simp) ?_;refine AllReadyH.cons rfl (fun K hK=>?_) (AllReadyH.cons rfl (fun K hK=>?_) AllReadyH.nil)
     ·have l0:=G9.drew.row.cell 0 _ rfl
      go_simp;refine hK.out _ _ aA (fun _=>?_);clear hK K
      try simp only [PS]
      refine RD 3 rfl (fun K hK=>?_);refine XRf (by rfl) _ _ (by go_simp) (ZfV R a n c (q+1+1) 3 _ G9.drew.s.rd (by omega)) ?_;rintro e w6 ⟨⟨z',rfl,z0,z1⟩,aR,aP⟩;refine ⟨_,rfl,?_⟩;have E6:=G9.drew.pick aR aP;clear aR aP;obtain ⟨z,rfl⟩:∃ k:Nat,z'=(k:Int):=⟨z'.toNat,by omega⟩;have cS:(z:Int)<=3:=by omega
      have aW:z<3:=by omega
      clear z0 z1;have cJ:((⟨#[120,121,122]⟩:ByteArray).extract z 3).size=3-z:=by simp only [ByteArray.size_extract];show min 3 3-z=3-z;omega
      have aX:(1:Int)<=(((3-z:Nat)):Int):=by omega
      obtain ⟨k2,aJ⟩:∃ x,((⟨#[120,121,122]⟩:ByteArray).extract z 3).extract 0 1=x:=⟨_,rfl⟩;have cY:k2.size=1:=by rw [<-aJ];simp only [ByteArray.size_extract];show min 1 (min 3 3-z)-0=1;omega
      have zk:¬ (9223372036854775807<KY.size+k2.size):=by omega
      refine hK.out _ _ aA (fun _=>?_);clear hK K
      try simp only [PS]
      refine TY 4 (.string ((⟨#[120,121,122]⟩:ByteArray).extract z 3)) rfl aA (TY 5 (.string k2) rfl aA (TY 6 (.string (KY++k2)) rfl aA (TY 7 (.pointer (some ⟨X,0,none⟩)) rfl aA ?_)));simp only [PS];refine RD 8 rfl (fun K hK=>?_);have l0:=E6.row.cell 0 _ rfl;have lf:=E6.row.froz 0 (by simp);have ll:=E6.row.lt;go_simp;refine hK.out _ _ aA (fun _=>?_);clear hK K
      try simp only [PS]
      refine DN ?_;have E7:BdX w (w6.setCell ⟨X,0,none⟩ (.string (KY++k2))) 117 3 R a n c (q+1+1+1) (.slice ya rs.length yc) rs.length (jlM rs) X [.string (KY++k2),.string ⟨#[]⟩,.bool gn]:=E6.set 0 (by simp) (.string (KY++k2));go_wp2_with fail;go_meet;exact ⟨KY++k2,q+1+1+1,by rw [ByteArray.size_append];omega,by omega,by omega,E7⟩
     ·refine XRf (by rfl) _ _ (by go_simp) (ZfV R a n c (q+1+1) 3 _ G9.drew.s.rd (by omega)) ?_
      rintro e w6 ⟨⟨z',rfl,z0,z1⟩,aR,aP⟩;refine ⟨_,rfl,?_⟩;have E6:=G9.drew.pick aR aP;clear aR aP;obtain ⟨z,rfl⟩:∃ k:Nat,z'=(k:Int):=⟨z'.toNat,by omega⟩;have cS:(z:Int)<=3:=by omega
      have aW:z<3:=by omega
      clear z0 z1;have cJ:((⟨#[120,121,122]⟩:ByteArray).extract z 3).size=3-z:=by simp only [ByteArray.size_extract];show min 3 3-z=3-z;omega
      have aX:(1:Int)<=(((3-z:Nat)):Int):=by omega
      obtain ⟨k2,aJ⟩:∃ x,((⟨#[120,121,122]⟩:ByteArray).extract z 3).extract 0 1=x:=⟨_,rfl⟩;have cY:k2.size=1:=by rw [<-aJ];simp only [ByteArray.size_extract];show min 1 (min 3 3-z)-0=1;omega
      have zk:¬ (9223372036854775807<KY.size+k2.size):=by omega
      refine hK.out _ _ aA (fun _=>?_);clear hK K
      try simp only [PS]
      refine TY 4 (.string ((⟨#[120,121,122]⟩:ByteArray).extract z 3)) rfl aA (TY 5 (.string k2) rfl aA ?_);simp only [PS];refine RD 1 rfl (fun K hK=>?_);have l0:=E6.row.cell 0 _ rfl;go_simp;refine hK.out _ _ aA (fun _=>?_);clear hK K
      try simp only [PS]
      refine TY 6 (.string (KY++k2)) rfl aA (TY 7 (.pointer (some ⟨X,0,none⟩)) rfl aA ?_);simp only [PS];refine RD 8 rfl (fun K hK=>?_);have l0:=E6.row.cell 0 _ rfl;have lf:=E6.row.froz 0 (by simp);have ll:=E6.row.lt;go_simp;refine hK.out _ _ aA (fun _=>?_);clear hK K
      try simp only [PS]
      refine DN ?_;have E7:BdX w (w6.setCell ⟨X,0,none⟩ (.string (KY++k2))) 117 3 R a n c (q+1+1+1) (.slice ya rs.length yc) rs.length (jlM rs) X [.string (KY++k2),.string ⟨#[]⟩,.bool gn]:=E6.set 0 (by simp) (.string (KY++k2));go_wp2_with fail;go_meet;exact ⟨KY++k2,q+1+1+1,by rw [ByteArray.size_append];omega,by omega,by omega,E7⟩
    ·go_wp2_with fail
     go_meet;exact ⟨KY,q+1+1,by omega,by omega,by omega,G9⟩
   case rest =>
   obtain ⟨K2,q2,cU,dO,dR,aM⟩:=hcut;obtain ⟨m0,m1,m2⟩:=aM.row.k3;have ml:=aM.row.lt;go_upto_if 43 with fail;clear m0 m1 m2 ml;go_cut [] from 17 to 58 (fun wx=>∃ (t:ByteArray) (q3:Int),t.size<=64000/\q<=q3/\q3<=q+15/\BdX w wx 117 3 R a n c q3 (.slice ya rs.length yc) rs.length (jlM rs) X [.string K2,.string t,.bool gn])
   case first =>
    cases gn with
    | true =>
     go_wp2_with fail;go_meet;exact ⟨⟨#[]⟩,q2,by decide,by omega,by omega,aM⟩
    | false =>
     go_wp2_with fail;refine (xAH R a n c q2 _ aM.s.rd (by omega)).mono ?_;rintro e w7 ⟨⟨t,rfl,ht⟩,⟨q7,dJ,dI,bQ⟩,cE⟩;have D7:=aM.pick bQ cE;clear bQ cE;obtain ⟨m0,m1,m2⟩:=D7.row.k3;have mf:=D7.row.froz 1 (by simp);have ml:=D7.row.lt;have D8:BdX w (w7.setCell ⟨X,1,none⟩ (.string t)) 117 3 R a n c q7 (.slice ya rs.length yc) rs.length (jlM rs) X [.string K2,.string t,.bool false]:=D7.set 1 (by simp) (.string t);go_wp2_with fail;go_meet;exact ⟨t,q7,ht,by omega,by omega,D8⟩
   case rest =>
   obtain ⟨t,q3,ht,dK,dE,aK⟩:=hcut;obtain ⟨m0,m1,m2⟩:=aK.row.k3;have mf:=aK.row.froz 1 (by simp);have ml:=aK.row.lt;go_upto_if 50 with fail;go_cut [] from 17 to 58 (fun wx=>∃ (t:ByteArray),t.size<=100/\BdX w wx 117 3 R a n c q3 (.slice ya rs.length yc) rs.length (jlM rs) X [.string K2,.string t,.bool gn])
   case first =>
    by_cases cL:t.size<=100
    ·have cI:¬ (100<(t.size:Int)):=by omega
     go_wp2_with fail;go_meet;exact ⟨t,cL,aK⟩
    ·have cI:100<(t.size:Int):=by omega
     have dH:(100:Int)<=(t.size:Int):=by omega
     have cP:BdX w (_) 117 3 R a n c q3 (.slice ya rs.length yc) rs.length (jlM rs) X [.string K2,.string (t.extract 0 100),.bool gn]:=aK.set 1 (by simp) (.string (t.extract 0 100));go_wp2_with fail;go_meet;exact ⟨t.extract 0 100,by simp only [ByteArray.size_extract];omega,cP⟩
   case rest =>
   clear m0 m1 m2 mf ml aK;obtain ⟨t9,cQ,aU⟩:=hcut;obtain ⟨x0,x1,x2⟩:=aU.row.k3;have xl:=aU.row.lt;have D9:=aU.s.below (quc _ (.cells #[.string K2,.string t9,.bool gn] 117));have cV:=hid D9.own;have dN:=aU.s.lt
   go_wp2_with (first | (at_builtin;refine WAL _ rfl _ _ 91 rfl w.heap.size Tryz.underlying91 HI.out rfl (by omega) _ rs.length _ rfl cV.out ⟨wc.heap.size,0,none⟩ 1 1 [.string K2,.string t9,.bool gn] rfl rfl (y1U _ _ _) (Qn2 _ _ _) (by simp;omega) (wc.heap.size+1) (by simp) ?_;intro g cap cZ aD aC aO b8;have cN:=D9.push aD aC;clear aD aC aO))
   go_roundw
   case rel =>
    refine ⟨rs++[(K2,t9,gn)],q3,_,rfl,by simp,by simp;omega,by omega,by simp;omega,?_,?_⟩
    ·intro x hx
     rcases List.mem_append.1 hx with hx | hx
     ·exact bV.out x hx
     ·simp at hx;subst hx;exact ⟨cU,cQ⟩
    ·rw [vYx,List.length_append];exact cN
   all_goals (simp [intOf];omega)
  ·go_wp2
   go_ret;exact ⟨⟨_,rfl,rs,DR.own,⟨by omega,cM⟩,bV.out⟩,⟨q,q0,by omega,DR.rd⟩,DR.gr⟩
theorem jmi (R:Nat) (a:Option Addr) (n c:Nat) (p:Int) (w:World) (h:Rdr w R a n c p) (hp:p<100000000):Calls Tryz.prog 14 #[.pointer (some ⟨R,0,none⟩)] w fun e w'=>(∃ v,e=.returned (.int .i64 v)/\1<=v/\v<=8)/\Rdr w' R a n c (p+1)/\w.grownBy w' (some R):=by
 have hR:=ykG h.pc;go_enter Tryz.func14,Tryz.ntmps14;go_wp2_with fail;refine (ZfV R a n c p 6 _ (h.below ((Below.refl _ _).alloc (Nat.le_refl _) _)) hp).mono ?_;rintro e w1 ⟨⟨v,rfl,v0,v1⟩,hr,hg⟩;have d0:=Q24 (b:=w.heap.size) (i:=0) hg (by omega) (v:=.int .i64 8) (by simp);have d1:=Q24 (b:=w.heap.size) (i:=1) hg (by omega) (v:=.int .i64 8) (by simp);have d2:=Q24 (b:=w.heap.size) (i:=2) hg (by omega) (v:=.int .i64 4) (by simp);have d3:=Q24 (b:=w.heap.size) (i:=3) hg (by omega) (v:=.int .i64 2) (by simp);have d4:=Q24 (b:=w.heap.size) (i:=4) hg (by omega) (v:=.int .i64 1) (by simp);have d5:=Q24 (b:=w.heap.size) (i:=5) hg (by omega) (v:=.int .i64 1) (by simp);have HG:=hid (ZpU (Qbp (some R) ((Below.refl _ _).alloc (Nat.le_refl _) (.cells #[.int .i64 8,.int .i64 8,.int .i64 4,.int .i64 2,.int .i64 1,.int .i64 1] 3))) hg);have HR:=hid hr;clear hg hr;have hv:v=0\/v=1\/v=2\/v=3\/v=4\/v=5:=by omega
 clear v0 v1;rcases hv with rfl | rfl | rfl | rfl | rfl | rfl<;>(go_wp2;go_ret;exact ⟨⟨_,rfl,by omega,by omega⟩,HR.out,HG.out⟩)
end Go.Proofs.YtcdojnnkjeakmaaGreatDoor
namespace Go.Proofs.YtcdojnnkjeakmaaGreatDoor
open Go.RowKit Go.ChangeShapes Go.WideShapes Go.Deep
section
variable {H:Type} {enc:TypeId×Value->H} {P:Program} {w:World} {base:Nat} {spare:Nat->Bool} {XbJ:Bool}
theorem ZXg {t e:TypeId} {aC:Nat} {v:Value} {x:DataW H×List MemPlace} (ht:P.underlying t=some (.slice e)) (he:P.underlying e=some (.int .u8)) (hc:P.cellsOf e=1)
  (h:DataW.trod enc P w base spare XbJ aC t [v]=some x):∃ a n c,v=.slice a n c/\Bys w a n/\n<=c/\n<=maxLen:=by
 rcases open_ints ht he hc h with ⟨aB,_⟩ | ⟨a,aD,cap,zs,aB,_,hl,hm,hz,_,aA,aF⟩
 ·simp at aB
  exact ⟨none,0,0,by simpa using aB,⟨0,0,.inl rfl,fun i hi=>absurd hi (by omega)⟩,Nat.le_refl _,Nat.zero_le _⟩
 ·simp at aB
  have aE:aD<=zs.length:=by rw [hz];split<;>omega
  refine ⟨some a,aD,cap,aB,?_,hl,by omega⟩
  by_cases h0:aD=0
  ·subst h0
   exact ⟨0,0,.inl rfl,fun i hi=>absurd hi (by omega)⟩
  ·obtain ⟨b,o,rfl⟩:=zMd (aA 0 (by omega)) ⟨_,aA 0 (by omega)⟩
   have hb:=World.block_lt_of_cell? w _ (aA 0 (by omega));rw [y6U] at hb;refine ⟨b,o,.inr rfl,fun i hi=>⟨hb,zs.getD i 0,?_,?_⟩⟩
   ·have:=aA i (by omega)
    rwa [y6U] at this
   ·rw [List.getD_eq_getElem?_getD]
    exact range_u8 aF i
end
end Go.Proofs.YtcdojnnkjeakmaaGreatDoor
