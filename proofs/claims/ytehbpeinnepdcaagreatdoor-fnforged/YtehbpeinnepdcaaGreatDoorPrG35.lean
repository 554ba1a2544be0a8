import Derived.Test.YtehbpeinnepdcaaGreatDoorPrG43
import Derived.Test.YtehbpeinnepdcaaGreatDoorPrG42
import Derived.Deep.LoopGhost
import Derived.SliceStrings
import Derived.Deep.SlicePairs
import Derived.ProofKit
import Derived.ChangeOld
import Derived.ChangeSlices
import Derived.OpenShut
set_option maxHeartbeats 32000000
set_option maxRecDepth 8000
set_option linter.unusedVariables false
set_option linter.unusedSimpArgs false
namespace Go.Proofs.YtehbpeinnepdcaaGreatDoor
open Go.RowKit
theorem Rdr.set {w:World} {R:Nat} {a:Option Addr} {n c:Nat} {p:Int} (h:Rdr w R a n c p) (q:Int) (q0:0<=q) (q1:q<=100000000):Rdr (w.setCell ⟨R,1,none⟩ (.int .i64 q)) R a n c q:=by
 obtain ⟨g,o,ha,hx⟩:=h.bytes;refine ⟨(World.cell?_setCell_other w ⟨R,1,none⟩ ⟨R,0,none⟩ _ (fun e=>absurd (congrArg Addr.off e) (by show ¬ (1=0);decide))).trans h.b,World.cell?_setCell_same w _ _ h.pc,by rw [World.frozen?_setCell];exact h.f,⟨g,o,ha,fun i hi=>?_⟩,q0,q1,h.n1⟩;obtain ⟨aA,x,hc,aB,aC⟩:=hx i hi;exact ⟨aA,x,(World.cell?_setCell_far _ _ _ _ (fun e=>aA e.symm)).trans hc,aB,aC⟩
theorem Rdr.drew {w:World} {R:Nat} {a:Option Addr} {n c:Nat} {p:Int} (h:Rdr w R a n c p):Rdr w.drew R a n c p:=⟨h.b,h.pc,h.f,h.bytes,h.p0,h.p1,h.n1⟩
theorem vph (w:World) (R:Nat) (v:Value):w.grownBy (w.setCell ⟨R,1,none⟩ v) (some R) :=
 ⟨rfl,rfl,rfl,by rw [World.size_setCell];exact Nat.le_refl _,fun i hi hr=>Below.heap_setCell _ _ _ _ (fun e=>hr (congrArg some e))⟩
theorem ZfV (R:Nat) (a:Option Addr) (n c:Nat) (p m:Int) (w:World) (h:Rdr w R a n c p) (hp:p<100000000):Calls Tryz.prog 11 #[.pointer (some ⟨R,0,none⟩),.int .i64 m] w fun e w'=>(∃ v,e=.returned (.int .i64 v)/\0<=v/\(v=0\/v<m))/\Rdr w' R a n c (p+1)/\w.grownBy w' (some R):=by
 have p0:=h.p0
 refine (xEt R a n c p m w h).mono fun e w' hh=>?_
 obtain ⟨hv,rfl | rfl⟩:=hh
 ·exact ⟨hv,h.set (p+1) (by omega) (by omega),vph w R _⟩
 ·refine ⟨hv,(h.set (p+1) (by omega) (by omega)).drew,?_⟩
  have hg:=vph w R (.int .i64 (p+1));exact ⟨hg.os,hg.tape,hg.output,hg.size,hg.block⟩
def Bys (w:World) (a:Option Addr) (n:Nat):Prop:=∃ g o,(n=0\/a=some ⟨g,o,none⟩)/\∀ i,i<n->g<w.heap.size/\∃ x:Int,w.cell? ⟨g,o+i,none⟩=some (.int .u8 x)/\0<=x/\x<=255
theorem Bys.below {w w':World} {a:Option Addr} {n:Nat} (h:Bys w a n) (hb:Below w.heap.size w w'):Bys w' a n:=by
 obtain ⟨g,o,ha,hx⟩:=h;refine ⟨g,o,ha,fun i hi=>?_⟩;obtain ⟨hg,x,hc,h0,h1⟩:=hx i hi;exact ⟨Nat.lt_of_lt_of_le hg hb.size,x,(hb.cell (p:=⟨g,o+i,none⟩) hg).trans hc,h0,h1⟩
theorem Bys.rdr {w:World} {a:Option Addr} {n m:Nat} (h:Bys w a n) (hm:m<=n) (h2:m<=2000) (c:Nat) (t:TypeId):Rdr (w.alloc (.cells #[.slice a m c,.int .i64 0] t)) w.heap.size a m c 0:=by
 obtain ⟨g,o,ha,hx⟩:=h;refine ⟨by simp,by simp,?_,⟨g,o,?_,fun i hi=>?_⟩,by omega,by omega,h2⟩
 ·rw [frozen?_alloc_cells]
  have e:w.heap[w.heap.size]?=none:=by simp
  simp [World.frozen?,e]
 ·rcases ha with h | h
  ·exact .inl (by omega)
  ·exact .inr h
 ·obtain ⟨hg,x,hc,h0,h1⟩:=hx i (by omega)
  exact ⟨by omega,x,(World.cell?_alloc_past _ _ _ (by exact hg)).trans hc,h0,h1⟩
theorem qSd (a:Option Addr) (n c:Nat) (w:World) (h:Bys w a n) (hn:n<=1048576) (hc:n<=c):Calls Tryz.prog 9 #[.slice a n c] w fun e w'=>e=.returned (.pointer (some ⟨w.heap.size,0,none⟩))/\(∃ m c',Rdr w' w.heap.size a m c' 0)/\Below w.heap.size w w':=by
 by_cases h2:n<=2000
 ·have aA:(n:Int)<=2000:=by omega
  go_enter Tryz.func9,Tryz.ntmps9;go_wp2;go_ret;exact ⟨rfl,⟨n,c,h.rdr (Nat.le_refl _) h2 c _⟩,(Below.refl _ _).alloc (Nat.le_refl _) _⟩
 ·have aA:2000<(n:Int):=by omega
  have aB:(2000:Int)<=(c:Int):=by omega
  have HR:=hid (h.rdr (m:=2000) (by omega) (Nat.le_refl _) c 58);obtain ⟨g,o,ha,hx⟩:=h;obtain rfl:a=some ⟨g,o,none⟩:=ha.resolve_left (by omega);go_enter Tryz.func9,Tryz.ntmps9;go_wp2;go_ret;exact ⟨rfl,⟨2000,c,HR.out⟩,(Below.refl _ _).alloc (Nat.le_refl _) _⟩
theorem ykG {w:World} {g i:Nat} {v:Value} (h:w.cell? ⟨g,i,none⟩=some v):g<w.heap.size:=by
 rcases Nat.lt_or_ge g w.heap.size with hl | hl
 ·exact hl
 ·exfalso
  have:w.heap[g]?=none:=Array.getElem?_eq_none hl;simp [World.cell?,this] at h
theorem Rdr.below {w w':World} {R:Nat} {a:Option Addr} {n c:Nat} {p:Int} (h:Rdr w R a n c p) (hb:Below w.heap.size w w'):Rdr w' R a n c p:=by
 obtain ⟨g,o,ha,hx⟩:=h.bytes;have hR:=ykG h.pc;refine ⟨(hb.cell (p:=⟨R,0,none⟩) hR).trans h.b,(hb.cell (p:=⟨R,1,none⟩) hR).trans h.pc,(hb.frozen (p:=⟨R,1,none⟩) hR).trans h.f,⟨g,o,ha,fun i hi=>?_⟩,h.p0,h.p1,h.n1⟩;obtain ⟨aA,x,hc,aB,aC⟩:=hx i hi;exact ⟨aA,x,(hb.cell (p:=⟨g,o+i,none⟩) (ykG hc)).trans hc,aB,aC⟩
theorem Q24 {w w':World} {R b i:Nat} {v:Value} (hg:w.grownBy w' (some R)) (aA:b≠R) (h:w.cell? ⟨b,i,none⟩=some v):w'.cell? ⟨b,i,none⟩=some v :=
 (World.cell?_of_block (a:=⟨b,i,none⟩) (hg.block b (ykG h) (fun e=>aA (by injection e)))).trans h
theorem kOQ (s:ByteArray) (n:Int) (hs:s.size<=64) (hn:n<=1000):Hid (s.size*n.toNat+ByteArray.empty.size<=64000):=by
 show _<=_;have h1:n.toNat<=1000:=by omega
 have h2:=Nat.mul_le_mul hs h1;have h3:ByteArray.empty.size=0:=rfl;omega
theorem quU (s:ByteArray) (n:Int) (w:World) (hs:s.size<=64) (hn:n<=1000):Calls Tryz.prog 71 #[.string s,.int .i64 n] w fun e w'=>(∃ t:ByteArray,e=.returned (.string t)/\t.size<=64000)/\Below w.heap.size w w':=by
 go_enter Tryz.func71,Tryz.ntmps71;go_wp2;go_loop [0,1,5] (fun sv nv ov=>∃ (t u:ByteArray) (m:Int),sv=.string t/\nv=.int .i64 m/\ov=.string u/\m<=1000/\Hid (t.size*m.toNat+u.size<=64000)/\t.size<=128000) (fun _ nv _=>(intOf nv).toNat)
 case atStart=>exact ⟨s,ByteArray.empty,n,rfl,rfl,rfl,hn,kOQ s n hs hn,by omega⟩
 case round =>
  obtain ⟨t,u,m,rfl,rfl,rfl,hm,HB,ht⟩:=hrel
  by_cases h0:0<m
  ·obtain ⟨q,r,hq,hr⟩:∃ q r:Nat,m.toNat=2*q+r/\r<2:=⟨m.toNat / 2,m.toNat % 2,by omega,by omega⟩
   have aE:m=2*(q:Int)+(r:Int):=by omega
   have hb:=HB.out;rw [hq,Nat.mul_add] at hb;have e2:t.size*(2*q)=2*(t.size*q):=by rw [Nat.mul_left_comm]
   rw [e2] at hb;obtain ⟨P,hP⟩:∃ P,t.size*q=P:=⟨_,rfl⟩;rw [hP] at hb
   have aG:t.size<=64000:=by
    rcases Nat.eq_zero_or_pos r with h | h
    ·subst h
     have aB:1<=q:=by omega
     have:t.size<=t.size*q:=Nat.le_mul_of_pos_right _ aB;omega
    ·have:t.size*1<=t.size*r:=Nat.mul_le_mul_left _ h
     omega
   have z1:¬ (9223372036854775807<t.size+t.size):=by omega
   have hd:m.tdiv 2=(q:Int):=by rw [Int.tdiv_eq_ediv_of_nonneg (by omega)];omega
   have aD:m / 2=(q:Int):=by omega
   rcases Nat.eq_zero_or_pos r with h | h
   ·subst h
    have aF:m % 2=0:=by omega
    have aA:¬ (m % 2=1):=by omega
    have aC:¬ (m.tmod 2=1):=by rw [Int.tmod_eq_emod_of_nonneg (by omega)];omega
    have HN:Hid ((t++t).size*((q:Int)).toNat+u.size<=64000):=by
     show _<=_;rw [Int.toNat_natCast,ByteArray.size_append,Nat.add_mul,hP];omega
    clear HB hb hq;go_wp2;exact ⟨⟨_,_,_,rfl,rfl,rfl,by omega,HN.out,by rw [ByteArray.size_append];omega⟩,by simp [intOf];omega⟩
   ·have aA:r=1:=by omega
    subst aA;have aA:m % 2=1:=by omega
    have aC:m.tmod 2=1:=by rw [Int.tmod_eq_emod_of_nonneg (by omega)];omega
    have z2:¬ (9223372036854775807<u.size+t.size):=by omega
    have HN:Hid ((t++t).size*((q:Int)).toNat+(u++t).size<=64000):=by
     show _<=_;rw [Int.toNat_natCast,ByteArray.size_append,ByteArray.size_append,Nat.add_mul,hP];omega
    clear HB hb hq;go_wp2;exact ⟨⟨_,_,_,rfl,rfl,rfl,by omega,(by rw [show ((2*(q:Int)+1) / 2)=(q:Int) by omega];exact HN.out),by rw [ByteArray.size_append];omega⟩,by simp [intOf];omega⟩
  ·go_wp2
   go_ret;exact ⟨⟨u,rfl,by have:=HB.out;omega⟩,Below.refl _ _⟩
def Zlg (W:World) (R:Nat) (a:Option Addr) (n c:Nat) (p:Int) (d:Int) (w:World):Prop:=(∃ q,p<=q/\q<=p+d/\Rdr w R a n c q)/\W.grownBy w (some R)
theorem zoj (t b:ByteArray) {k:Int} (h:(t.size:Int)+k<=4):((t++b.extract 0 1).size:Int)+(k-1)<=4:=by
 rw [ByteArray.size_append];have:(b.extract 0 1).size<=1:=by simp only [ByteArray.size_extract];omega
 omega
theorem xAH (R:Nat) (a:Option Addr) (n c:Nat) (p:Int) (w:World) (h:Rdr w R a n c p) (hp:p<99999000):Calls Tryz.prog 80 #[.pointer (some ⟨R,0,none⟩)] w fun e w'=>(∃ t:ByteArray,e=.returned (.string t)/\t.size<=64000)/\Zlg w R a n c p 10 w':=by
 have hR:=ykG h.pc;have p0:=h.p0;go_enter Tryz.func80,Tryz.ntmps80;go_wp2_with fail;refine (ZfV R a n c p 8 _ h (by omega)).mono ?_;rintro e w1 ⟨⟨v,rfl,v0,v1⟩,hr,hg⟩
 by_cases e0:v=0
 ·subst e0
  go_wp2;go_ret;exact ⟨⟨_,rfl,by decide⟩,⟨p+1,by omega,by omega,hr⟩,hg⟩
 by_cases e1:v=1
 ·subst e1
  go_wp2;go_ret;exact ⟨⟨_,rfl,by decide⟩,⟨p+1,by omega,by omega,hr⟩,hg⟩
 by_cases e2:v=2
 ·subst e2
  go_wp2_with fail;refine (ZfV R a n c (p+1) 21 _ hr (by omega)).mono ?_;rintro e w2 ⟨⟨u,rfl,u0,u1⟩,aB,aA⟩;have hu:IntKind.i64.wrap (5+u)=5+u:=vRg _ (by omega) (by omega);go_wp2_with fail;refine (quU _ (5+u) _ (by decide) (by omega)).mono ?_;rintro e w3 ⟨⟨t,rfl,ht⟩,aE⟩;go_wp2;go_ret;exact ⟨⟨t,rfl,ht⟩,⟨p+1+1,by omega,by omega,aB.below aE⟩,ZpU (ZpU hg aA) (Qbp _ aE)⟩
 by_cases e3:v=3
 ·subst e3
  go_wp2;go_ret;exact ⟨⟨_,rfl,by decide⟩,⟨p+1,by omega,by omega,hr⟩,hg⟩
 go_wp2_with fail;refine (ZfV R a n c (p+1) 4 _ hr (by omega)).mono ?_;rintro e w2 ⟨⟨u,rfl,u0,u1⟩,aB,aA⟩;have hu:IntKind.i64.wrap (1+u)=1+u:=vRg _ (by omega) (by omega);have aJ:=hid aB;have aH:=hid (ZpU hg aA);clear hr hg aB aA h;go_wp2;go_loopw [3,4] (fun ov nv wr=>∃ (t:ByteArray) (k q:Int),ov=.string t/\nv=.int .i64 k/\0<=k/\k<=4/\(t.size:Int)+k<=4/\p<=q/\q+k<=p+6/\Rdr wr R a n c q/\w.grownBy wr (some R)) (fun _ nv _=>(intOf nv).toNat)
 case atStart=>exact ⟨⟨#[]⟩,1+u,p+1+1,rfl,rfl,by omega,by omega,by show (0:Int)+(1+u)<=4;omega,by omega,by omega,aJ.out,aH.out⟩
 case round =>
  obtain ⟨t,k,q,rfl,rfl,k0,k1,aM,q0,q1,aD,aC⟩:=hrel
  by_cases hk:0<k
  ·have HG:=hid aC
   clear aC;go_wp2_with fail;refine (ZfV R a n c q 4 _ aD (by omega)).mono ?_;rintro e w3 ⟨⟨x,rfl,x0,x1⟩,aG,aF⟩;have aK:=hid aG;have aI:=hid (ZpU HG.out aF);clear aG aF aD HG;have aL:IntKind.i64.wrap (k-1)=k-1:=vRg _ (by omega) (by omega);have aN:t.size<=4:=by omega
   have z1:¬ (9223372036854775807<t.size+1):=by omega
   have hx:x=0\/x=1\/x=2\/x=3:=by omega
   clear x0 x1;rcases hx with rfl | rfl | rfl | rfl
   all_goals go_wp2
   all_goals go_roundw
   all_goals first
    | exact ⟨_,k-1,q+1,rfl,rfl,by omega,by omega,zoj _ _ (by omega),by omega,by omega,aK.out,aI.out⟩
    | (simp [intOf];omega)
  ·go_wp2
   go_ret;exact ⟨⟨t,rfl,by omega⟩,⟨q,by omega,by omega,aD⟩,aC⟩
def nth (l:List Int) (n:Nat):Int:=l.getD n 0
theorem Row.nth {w:World} {g:Nat} {l:List Int} (h:Row w g (l.map (Value.int .i64))) {n:Nat} (hn:n<l.length):w.cell? ⟨g,n,none⟩=some (.int .i64 (nth l n)) :=
 h.cell n _ (by simp [Go.Proofs.YtehbpeinnepdcaaGreatDoor.nth,List.getD,hn])
theorem quc (w:World) (o:Obj):Below w.heap.size w (w.alloc o):=(Below.refl _ _).alloc (Nat.le_refl _) _
theorem JFC {a b:World} {r:Option Nat} (h:a.grownBy b r) (p:Addr) (hp:a.heap.size<=p.block) (v:Value):a.grownBy (b.setCell p v) r :=
 ⟨h.os,h.tape,h.output,by rw [World.size_setCell];exact h.size,fun i hi hr=>(Below.heap_setCell _ _ _ _ (fun e=>by omega)).trans (h.block i hi hr)⟩
theorem Rdr.keep {w w':World} {R N:Nat} {a:Option Addr} {n c:Nat} {p:Int} (h:Rdr w R a n c p) (hN:R<N) (hg:∀ g o,a=some ⟨g,o,none⟩->0<n->g<N) (hb:Below N w w'):Rdr w' R a n c p:=by
 obtain ⟨g,o,ha,hx⟩:=h.bytes;refine ⟨(hb.cell (p:=⟨R,0,none⟩) hN).trans h.b,(hb.cell (p:=⟨R,1,none⟩) hN).trans h.pc,(hb.frozen (p:=⟨R,1,none⟩) hN).trans h.f,⟨g,o,ha,fun i hi=>?_⟩,h.p0,h.p1,h.n1⟩;obtain ⟨aA,x,hc,aB,aC⟩:=hx i hi;exact ⟨aA,x,(hb.cell (p:=⟨g,o+i,none⟩) (hg g o (ha.resolve_left (by omega)) (by omega))).trans hc,aB,aC⟩
theorem Rdr.lts {w:World} {R:Nat} {a:Option Addr} {n c:Nat} {p:Int} (h:Rdr w R a n c p):R<w.heap.size/\∀ g o,a=some ⟨g,o,none⟩->0<n->g<w.heap.size:=by
 refine ⟨ykG h.pc,fun g o ha hn=>?_⟩;obtain ⟨g',o',aA,hx⟩:=h.bytes;have e:=aA.resolve_left (by omega);rw [ha] at e;injection e with e;injection e with e1 e2;subst e1;obtain ⟨_,x,hc,_⟩:=hx 0 hn;exact ykG hc
def chsLe (rs:List (ByteArray×ByteArray×Bool)) (k v:Nat):Prop:=∀ x∈rs,x.1.size<=k/\x.2.1.size<=v
theorem q6I {w:World} {B:Nat} {e:TypeId} {k:Nat} {y:Value} {m:Nat} {cs:List Value} (h:w.ownsRow B e k y m cs):∃ ya yc,y=.slice ya m yc:=by
 rcases yUO h with ⟨h1,h2⟩ | ⟨g,cap,h1,_⟩
 ·exact ⟨none,0,by rw [h1,h2]⟩
 ·exact ⟨_,cap,h1⟩
structure BdS (w0 w:World) (e:TypeId) (k:Nat) (R:Nat) (a:Option Addr) (n c:Nat) (q:Int) (y:Value) (m:Nat) (cs:List Value):Prop where
 rd:Rdr w R a n c q
 own:w.ownsRow w0.heap.size e k y m cs
 gr:w0.grownBy w (some R)
 lR:R<w0.heap.size
 ga:∀ g o,a=some ⟨g,o,none⟩->0<n->g<w0.heap.size
theorem BdS.pick {w0 w w':World} {e:TypeId} {k:Nat} {R:Nat} {a:Option Addr} {n c:Nat} {q q':Int} {y:Value} {m:Nat} {cs:List Value} (h:BdS w0 w e k R a n c q y m cs) (hr:Rdr w' R a n c q') (hg:w.grownBy w' (some R)):BdS w0 w' e k R a n c q' y m cs :=
 ⟨hr,h.own.kept hg (.inr (fun e=>by have:=(h.own.lt _ e).1;have:=h.lR;omega)),ZpU h.gr hg,h.lR,h.ga⟩
theorem BdS.below {w0 w w':World} {e:TypeId} {k:Nat} {R:Nat} {a:Option Addr} {n c:Nat} {q:Int} {y:Value} {m:Nat} {cs:List Value} (h:BdS w0 w e k R a n c q y m cs) (hb:Below w.heap.size w w'):BdS w0 w' e k R a n c q y m cs :=
 ⟨h.rd.below hb,jcb h.own hb,ZpU h.gr (Qbp _ hb),h.lR,h.ga⟩
theorem BdS.drew {w0 w:World} {e:TypeId} {k:Nat} {R:Nat} {a:Option Addr} {n c:Nat} {q:Int} {y:Value} {m:Nat} {cs:List Value} (h:BdS w0 w e k R a n c q y m cs):BdS w0 w.drew e k R a n c q y m cs:=h.below (Below.refl _ _).drew
theorem BdS.lt {w0 w:World} {e:TypeId} {k:Nat} {R:Nat} {a:Option Addr} {n c:Nat} {q:Int} {y:Value} {m:Nat} {cs:List Value} (h:BdS w0 w e k R a n c q y m cs):w0.heap.size<=w.heap.size:=h.gr.size
theorem BdS.set {w0 w:World} {e:TypeId} {k:Nat} {R:Nat} {a:Option Addr} {n c:Nat} {q:Int} {y:Value} {m:Nat} {cs:List Value} (h:BdS w0 w e k R a n c q y m cs) (X i:Nat) (hX:w0.heap.size<=X) (hy:y.ownBlock≠some X) (v:Value):BdS w0 (w.setCell ⟨X,i,none⟩ v) e k R a n c q y m cs:=by
 have hl:=h.lR;refine ⟨h.rd.keep (N:=w0.heap.size) hl h.ga ((Below.refl _ _).setCell hX _),ownsRow_setCell_other h.own hy v,JFC h.gr _ hX _,hl,h.ga⟩
theorem BdS.push {w0 w w':World} {e:TypeId} {k:Nat} {R:Nat} {a:Option Addr} {n c:Nat} {q:Int} {y y':Value} {m m':Nat} {cs aB:List Value} (h:BdS w0 w e k R a n c q y m cs) (aA:w'.ownsRow w0.heap.size e k y' m' aB) (hg:w.grownBy w' y.ownBlock):BdS w0 w' e k R a n c q y' m' aB:=by
 have hb:Below w0.heap.size w w':=jJX hg h.lt (fun g e=>(h.own.lt _ e).1);exact ⟨h.rd.keep (N:=w0.heap.size) h.lR h.ga hb,aA,⟨hg.os.trans h.gr.os,hg.tape.trans h.gr.tape,hg.output.trans h.gr.output,Nat.le_trans h.gr.size hg.size,fun i hi hr=>(hb.block i hi).trans (h.gr.block i hi hr)⟩,h.lR,h.ga⟩
structure BdX (w0 w:World) (e:TypeId) (k:Nat) (R:Nat) (a:Option Addr) (n c:Nat) (q:Int) (y:Value) (m:Nat) (cs:List Value) (X:Nat) (xs:List Value):Prop where
 s:BdS w0 w e k R a n c q y m cs
 row:Row w X xs
 xo:y.ownBlock≠some X
 xb:w0.heap.size<=X
theorem BdX.ne {w0 w:World} {e:TypeId} {k:Nat} {R:Nat} {a:Option Addr} {n c:Nat} {q:Int} {y:Value} {m:Nat} {cs:List Value} {X:Nat} {xs:List Value} (h:BdX w0 w e k R a n c q y m cs X xs):X≠R:=by have:=h.xb;have:=h.s.lR;omega
theorem BdX.pick {w0 w w':World} {e:TypeId} {k:Nat} {R:Nat} {a:Option Addr} {n c:Nat} {q q':Int} {y:Value} {m:Nat} {cs:List Value} {X:Nat} {xs:List Value} (h:BdX w0 w e k R a n c q y m cs X xs) (hr:Rdr w' R a n c q') (hg:w.grownBy w' (some R)):BdX w0 w' e k R a n c q' y m cs X xs :=
 ⟨h.s.pick hr hg,h.row.grown hg (fun e=>h.ne (by injection e)),h.xo,h.xb⟩
theorem BdX.below {w0 w w':World} {e:TypeId} {k:Nat} {R:Nat} {a:Option Addr} {n c:Nat} {q:Int} {y:Value} {m:Nat} {cs:List Value} {X:Nat} {xs:List Value} (h:BdX w0 w e k R a n c q y m cs X xs) (hb:Below w.heap.size w w'):BdX w0 w' e k R a n c q y m cs X xs :=
 ⟨h.s.below hb,h.row.below hb,h.xo,h.xb⟩
theorem BdX.drew {w0 w:World} {e:TypeId} {k:Nat} {R:Nat} {a:Option Addr} {n c:Nat} {q:Int} {y:Value} {m:Nat} {cs:List Value} {X:Nat} {xs:List Value} (h:BdX w0 w e k R a n c q y m cs X xs):BdX w0 w.drew e k R a n c q y m cs X xs:=h.below (Below.refl _ _).drew
theorem BdX.set {w0 w:World} {e:TypeId} {k:Nat} {R:Nat} {a:Option Addr} {n c:Nat} {q:Int} {y:Value} {m:Nat} {cs:List Value} {X:Nat} {xs:List Value} (h:BdX w0 w e k R a n c q y m cs X xs) (i:Nat) (hi:i<xs.length) (v:Value):BdX w0 (w.setCell ⟨X,i,none⟩ v) e k R a n c q y m cs X (xs.set i v) :=
 ⟨h.s.set X i h.xb h.xo v,h.row.set i hi v,h.xo,h.xb⟩
theorem BdS.box {w0 w:World} {e:TypeId} {k:Nat} {R:Nat} {a:Option Addr} {n c:Nat} {q:Int} {y:Value} {m:Nat} {cs:List Value} (h:BdS w0 w e k R a n c q y m cs) (A:Array Value) (t:TypeId):BdX w0 (w.alloc (.cells A t)) e k R a n c q y m cs w.heap.size A.toList :=
 ⟨h.below (quc _ _),xER _ _ _,fun e=>by have:=(h.own.lt _ e).2;omega,h.lt⟩
theorem y1U (w:World) (cs:Array Value) (t:TypeId):∀ j u,cs.toList[j]?=some u->(w.alloc (.cells cs t)).cell? ((⟨w.heap.size,0,none⟩:Addr).add j)=some u:=World.news_of_block (heap_alloc_new w (.cells cs t))
theorem q1U:(Tryz.prog.info? 121).map (fun i=>(i.zero,i.size,i.bytes))=some (some (.agg #[.string ByteArray.empty,.string ByteArray.empty,.bool false]),3,40):=by kernel_rfl
theorem yWN {P:Program} {e:TypeId} {z:Value} {size aA:Nat} (h:(P.info? e).map (fun i=>(i.zero,i.size,i.bytes))=some (some z,size,aA)):∃ i,P.info? e=some i/\i.zero=some z/\i.size=size/\i.bytes=aA:=by
 cases h1:P.info? e with
 | none=>rw [h1] at h;cases h
 | some i=>rw [h1] at h;simp at h;exact ⟨i,rfl,h.1,h.2.1,h.2.2⟩
theorem Qn2 (k v:ByteArray) (g:Bool):∀ u∈[Value.string k,.string v,.bool g],u.oneCell'=true:=by
 intro u hu;simp only [List.mem_cons,List.not_mem_nil,or_false] at hu;rcases hu with rfl | rfl | rfl<;>rfl
theorem vYx (o:List (ByteArray×ByteArray×Bool)) (c:ByteArray×ByteArray×Bool):jlM (o++[c])=jlM o++[.string c.1,.string c.2.1,.bool c.2.2]:=by rw [xam];rfl
theorem J88 (R:Nat) (a:Option Addr) (n c:Nat) (p:Int) (w:World) (h:Rdr w R a n c p) (hp:p<99990000):Calls Tryz.prog 78 #[.pointer (some ⟨R,0,none⟩)] w fun e w'=>(∃ v rs,e=.returned v/\w'.ownsRow w.heap.size 121 3 v rs.length (jlM rs)/\(1<=rs.length/\rs.length<=20)/\chsLe rs 3 100)/\Zlg w R a n c p 600 w':=by
 have p0:=h.p0;obtain ⟨i0,bI,b7,b8,cC⟩:=yWN q1U;have HI:=hid (And.intro bI (And.intro b7 (And.intro b8 cC)));clear bI b7 b8 cC
 have D0:BdS w (w.alloc (.cells #[] 121)) 121 3 R a n c p (.slice (some ⟨w.heap.size,0,none⟩) 0 0) 0 [] :=
  ⟨h.below (quc _ _),World.ownsRow_lit _ #[] 0 (Nat.le_refl _) (by simp) (by simp),Qbp _ (quc _ _),h.lts.1,h.lts.2⟩
 clear h;go_enter Tryz.func78,Tryz.ntmps78;go_wp2_with fail;refine (ZfV R a n c p 4 _ D0.rd (by omega)).mono ?_;rintro e w1 ⟨⟨v,rfl,v0,v1⟩,bQ,aY⟩;have D1:=D0.pick bQ aY;have hv:IntKind.i64.wrap (1+v)=1+v:=vRg _ (by omega) (by omega);clear D0 bQ aY;go_wp2_with fail;refine (ZfV R a n c (p+1) 10 _ D1.rd (by omega)).mono ?_;rintro e w2 ⟨⟨u,rfl,u0,u1⟩,bU,aZ⟩;have D2:=D1.pick bU aZ;clear D1 bU aZ;go_upto_if 13 with fail;go_cut [4] from 11 to 16 (fun nv wx=>∃ (N q:Int),nv=.int .i64 N/\1<=N/\N<=20/\p<=q/\q<=p+3/\BdS w wx 121 3 R a n c q (.slice (some ⟨w.heap.size,0,none⟩) 0 0) 0 [])
 case first =>
  by_cases hu:u=0
  ·subst hu
   go_wp2_with fail;refine (ZfV R a n c (p+1+1) 2 _ D2.rd (by omega)).mono ?_;rintro e w3 ⟨⟨z,rfl,z0,z1⟩,bV,bC⟩;have D3:=D2.pick bV bC;have hz:IntKind.i64.wrap (20-z)=20-z:=vRg _ (by omega) (by omega);clear D2 bV bC;go_wp2_with fail;go_meet;exact ⟨20-z,p+1+1+1,rfl,by omega,by omega,by omega,by omega,D3⟩
  ·go_wp2_with fail
   go_meet;exact ⟨1+v,p+1+1,rfl,by omega,by omega,by omega,by omega,D2⟩
 case rest =>
 obtain ⟨N,q,rfl,N0,N1,dJ,dK,D3⟩:=hcut;clear D2 u0 u1 hv v0 v1;go_wp2;go_loopw [3,5] (fun y iv wr=>∃ (rs:List (ByteArray×ByteArray×Bool)) (q:Int) (Y:Value),Y=y/\iv=.int .i64 (rs.length:Int)/\(rs.length:Int)<=N/\p<=q/\q<=p+3+20*(rs.length:Int)/\chsLe rs 3 100/\BdS w wr 121 3 R a n c q y rs.length (jlM rs)) (fun _ iv _=>(N-intOf iv).toNat)
 case atStart=>exact ⟨[],q,_,rfl,rfl,by simp;omega,by omega,by simp;omega,(fun x hx=>by simp at hx),D3⟩
 case round =>
  obtain ⟨rs,q,y,rfl,rfl,hl,q0,q1,bZ,DR⟩:=hrel;have aX:=hid bZ;clear bZ;have cP:rs.length<=20:=by omega
  by_cases dI:(rs.length:Int)<N
  ·have cZ:¬ N<=(rs.length:Int):=by omega
   obtain ⟨ya,yc,rfl⟩:=q6I DR.own;have dM:IntKind.i64.wrap ((rs.length:Int)+1)=(rs.length:Int)+1:=vRg _ (by omega) (by omega);go_upto_region 8 with fail;go_cut [6] from 17 to 58 (fun xv wx=>∃ (X:Nat) (KY:ByteArray) (gn:Bool),xv=.pointer (some ⟨X,0,none⟩)/\KY.size=2/\BdX w wx 121 3 R a n c (q+1+1) (.slice ya rs.length yc) rs.length (jlM rs) X [.string KY,.string ⟨#[]⟩,.bool gn])
   case first =>
    refine wp_region_held_drew (S:=fun w'=>True) (by kernel_rfl) (trivial) (fun aA=>?_);refine TY 0 (.pointer (some ⟨R,0,none⟩)) rfl aA (TY 5 (.pointer (some ⟨R,0,none⟩)) rfl aA ?_);simp only [PS];refine wpAnyH_ready (rs:=[1,9]) (by kernel_rfl) (by simp) ?_;refine AllReadyH.cons rfl (fun Kq aB=>?_) (AllReadyH.cons rfl (fun Kq aB=>?_) AllReadyH.nil)
    ·refine XRf (by rfl) _ _ (by go_simp) (ZfV R a n c q 8 _ DR.drew.rd (by omega)) ?_
     rintro e w4 ⟨⟨x',rfl,x0,x1⟩,aS,aP⟩;refine ⟨_,rfl,?_⟩;have F1:=DR.drew.pick aS aP;clear aS aP;obtain ⟨x,rfl⟩:∃ k:Nat,x'=(k:Int):=⟨x'.toNat,by omega⟩;have cU:(x:Int)<=8:=by omega
     have aW:x<8:=by omega
     clear x0 x1;have cN:((⟨#[97,98,99,100,101,102,103,104]⟩:ByteArray).extract x 8).size=8-x:=by simp only [ByteArray.size_extract];show min 8 8-x=8-x;omega
     have aV:(1:Int)<=(((8-x:Nat)):Int):=by omega
     obtain ⟨k1,aK⟩:∃ z,((⟨#[97,98,99,100,101,102,103,104]⟩:ByteArray).extract x 8).extract 0 1=z:=⟨_,rfl⟩;have cO:k1.size=1:=by rw [<-aK];simp only [ByteArray.size_extract];show min 1 (min 8 8-x)-0=1;omega
     obtain ⟨KY,aJ⟩:∃ z,(⟨#[107]⟩:ByteArray)++k1=z:=⟨_,rfl⟩;have aN:KY.size=2:=by rw [<-aJ,ByteArray.size_append];show 1+k1.size=2;omega
     have cW:¬ (9223372036854775807<1+k1.size):=by omega
     refine aB.out _ _ aA (fun _=>?_)
     try simp only [PS]
     refine TY 2 (.string ((⟨#[97,98,99,100,101,102,103,104]⟩:ByteArray).extract x 8)) rfl aA (TY 3 (.string k1) rfl aA (TY 4 (.string KY) rfl aA ?_));simp only [PS];refine wpAnyH_ready (rs:=[6,9]) (by kernel_rfl) (by simp) ?_;refine AllReadyH.cons rfl (fun Kq aB=>?_) (AllReadyH.cons rfl (fun Kq aB=>?_) AllReadyH.nil)
     ·refine XRf (by rfl) _ _ (by go_simp) (ZfV R a n c (q+1) 4 _ F1.rd (by omega)) ?_
      rintro e w5 ⟨⟨u',rfl,u0,u1⟩,aI,aH⟩;refine ⟨_,rfl,?_⟩;have F6:=F1.pick aI aH;clear aI aH;obtain ⟨gn,aQ⟩:∃ g:Bool,(u' == 0)=g:=⟨_,rfl⟩;have aR:decide (u'=0)=gn:=by rw [<-aQ];rfl
      refine aB.out _ _ aA (fun _=>?_)
      try simp only [PS]
      refine TY 7 (.bool gn) rfl aA (TY 8 (.agg #[.string KY,.string ⟨#[]⟩,.bool gn]) rfl aA ?_);simp only [PS];refine RD 9 rfl (fun Kq aB=>?_);go_simp;have F9:=(F6.box #[.string ⟨#[]⟩,.string ⟨#[]⟩,.bool false] 121);obtain ⟨X,aE⟩:∃ z,z=w5.heap.size:=⟨_,rfl⟩;obtain ⟨wx,aC⟩:∃ z,z=(w5.alloc (.cells #[.string ⟨#[]⟩,.string ⟨#[]⟩,.bool false] 121)):=⟨_,rfl⟩;rw [<-aC,<-aE] at F9;rw [<-aC,<-aE];clear aC aE;refine aB.out _ _ aA (fun _=>?_)
      try simp only [PS]
      refine RD 10 rfl (fun Kq aB=>?_);have G8:=F9;obtain ⟨l0,l1,l2⟩:=G8.row.k3;obtain ⟨cE,cF,cH⟩:=G8.row.z3;have ll:=G8.row.lt;go_simp;refine aB.out _ _ aA (fun _=>?_)
      try simp only [PS]
      refine DN ?_;have G9:BdX w (((wx.setCell ⟨X,0,none⟩ (.string KY)).setCell ⟨X,1,none⟩ (.string ⟨#[]⟩)).setCell ⟨X,2,none⟩ (.bool gn)) 121 3 R a n c (q+1+1) (.slice ya rs.length yc) rs.length (jlM rs) X [.string KY,.string ⟨#[]⟩,.bool gn]:=((G8.set 0 (by simp) (.string KY)).set 1 (by simp) (.string ⟨#[]⟩)).set 2 (by simp) (.bool gn);go_wp2_with fail;go_meet;exact ⟨X,KY,gn,rfl,aN,G9⟩
     ·go_simp
      have F9:=(F1.box #[.string ⟨#[]⟩,.string ⟨#[]⟩,.bool false] 121);obtain ⟨X,aE⟩:∃ z,z=w4.heap.size:=⟨_,rfl⟩;obtain ⟨wx,aC⟩:∃ z,z=(w4.alloc (.cells #[.string ⟨#[]⟩,.string ⟨#[]⟩,.bool false] 121)):=⟨_,rfl⟩;rw [<-aC,<-aE] at F9;rw [<-aC,<-aE];clear aC aE;refine aB.out _ _ aA (fun _=>?_)
      try simp only [PS]
      refine RD 6 rfl (fun Kq aB=>?_);refine XRf (by rfl) _ _ (by go_simp) (ZfV R a n c (q+1) 4 _ F9.s.rd (by omega)) ?_;rintro e w5 ⟨⟨u',rfl,u0,u1⟩,aI,aH⟩;refine ⟨_,rfl,?_⟩;have F6:=F9.pick aI aH;clear aI aH;obtain ⟨gn,aQ⟩:∃ g:Bool,(u' == 0)=g:=⟨_,rfl⟩;have aR:decide (u'=0)=gn:=by rw [<-aQ];rfl
      refine aB.out _ _ aA (fun _=>?_)
      try simp only [PS]
      refine TY 7 (.bool gn) rfl aA (TY 8 (.agg #[.string KY,.string ⟨#[]⟩,.bool gn]) rfl aA ?_);simp only [PS];refine RD 10 rfl (fun Kq aB=>?_);have G8:=F6;obtain ⟨l0,l1,l2⟩:=G8.row.k3;obtain ⟨cE,cF,cH⟩:=G8.row.z3;have ll:=G8.row.lt;go_simp;refine aB.out _ _ aA (fun _=>?_)
      try simp only [PS]
      refine DN ?_;have G9:BdX w (((w5.setCell ⟨X,0,none⟩ (.string KY)).setCell ⟨X,1,none⟩ (.string ⟨#[]⟩)).setCell ⟨X,2,none⟩ (.bool gn)) 121 3 R a n c (q+1+1) (.slice ya rs.length yc) rs.length (jlM rs) X [.string KY,.string ⟨#[]⟩,.bool gn]:=((G8.set 0 (by simp) (.string KY)).set 1 (by simp) (.string ⟨#[]⟩)).set 2 (by simp) (.bool gn);go_wp2_with fail;go_meet;exact ⟨X,KY,gn,rfl,aN,G9⟩
    ·go_simp
     have F9:=(DR.box #[.string ⟨#[]⟩,.string ⟨#[]⟩,.bool false] 121).drew;obtain ⟨X,aE⟩:∃ z,z=wr.heap.size:=⟨_,rfl⟩;obtain ⟨wx,aC⟩:∃ z,z=(wr.alloc (.cells #[.string ⟨#[]⟩,.string ⟨#[]⟩,.bool false] 121)).drew:=⟨_,rfl⟩;rw [<-aC,<-aE] at F9;rw [<-aC,<-aE];clear aC aE;refine aB.out _ _ aA (fun _=>?_)
     try simp only [PS]
     refine RD 1 rfl (fun Kq aB=>?_);refine XRf (by rfl) _ _ (by go_simp) (ZfV R a n c q 8 _ F9.s.rd (by omega)) ?_;rintro e w4 ⟨⟨x',rfl,x0,x1⟩,aS,aP⟩;refine ⟨_,rfl,?_⟩;have F1:=F9.pick aS aP;clear aS aP;obtain ⟨x,rfl⟩:∃ k:Nat,x'=(k:Int):=⟨x'.toNat,by omega⟩;have cU:(x:Int)<=8:=by omega
     have aW:x<8:=by omega
     clear x0 x1;have cN:((⟨#[97,98,99,100,101,102,103,104]⟩:ByteArray).extract x 8).size=8-x:=by simp only [ByteArray.size_extract];show min 8 8-x=8-x;omega
     have aV:(1:Int)<=(((8-x:Nat)):Int):=by omega
     obtain ⟨k1,aK⟩:∃ z,((⟨#[97,98,99,100,101,102,103,104]⟩:ByteArray).extract x 8).extract 0 1=z:=⟨_,rfl⟩;have cO:k1.size=1:=by rw [<-aK];simp only [ByteArray.size_extract];show min 1 (min 8 8-x)-0=1;omega
     obtain ⟨KY,aJ⟩:∃ z,(⟨#[107]⟩:ByteArray)++k1=z:=⟨_,rfl⟩;have aN:KY.size=2:=by rw [<-aJ,ByteArray.size_append];show 1+k1.size=2;omega
     have cW:¬ (9223372036854775807<1+k1.size):=by omega
     refine aB.out _ _ aA (fun _=>?_)
     try simp only [PS]
     refine TY 2 (.string ((⟨#[97,98,99,100,101,102,103,104]⟩:ByteArray).extract x 8)) rfl aA (TY 3 (.string k1) rfl aA (TY 4 (.string KY) rfl aA ?_));simp only [PS];refine RD 6 rfl (fun Kq aB=>?_);refine XRf (by rfl) _ _ (by go_simp) (ZfV R a n c (q+1) 4 _ F1.s.rd (by omega)) ?_;rintro e w5 ⟨⟨u',rfl,u0,u1⟩,aI,aH⟩;refine ⟨_,rfl,?_⟩;have F6:=F1.pick aI aH;clear aI aH;obtain ⟨gn,aQ⟩:∃ g:Bool,(u' == 0)=g:=⟨_,rfl⟩;have aR:decide (u'=0)=gn:=by rw [<-aQ];rfl
     refine aB.out _ _ aA (fun _=>?_)
     try simp only [PS]
     refine TY 7 (.bool gn) rfl aA (TY 8 (.agg #[.string KY,.string ⟨#[]⟩,.bool gn]) rfl aA ?_);simp only [PS];refine RD 10 rfl (fun Kq aB=>?_);have G8:=F6;obtain ⟨l0,l1,l2⟩:=G8.row.k3;obtain ⟨cE,cF,cH⟩:=G8.row.z3;have ll:=G8.row.lt;go_simp;refine aB.out _ _ aA (fun _=>?_)
     try simp only [PS]
     refine DN ?_;have G9:BdX w (((w5.setCell ⟨X,0,none⟩ (.string KY)).setCell ⟨X,1,none⟩ (.string ⟨#[]⟩)).setCell ⟨X,2,none⟩ (.bool gn)) 121 3 R a n c (q+1+1) (.slice ya rs.length yc) rs.length (jlM rs) X [.string KY,.string ⟨#[]⟩,.bool gn]:=((G8.set 0 (by simp) (.string KY)).set 1 (by simp) (.string ⟨#[]⟩)).set 2 (by simp) (.bool gn);go_wp2_with fail;go_meet;exact ⟨X,KY,gn,rfl,aN,G9⟩
   case rest =>
   obtain ⟨X,KY,gn,rfl,aN,G9⟩:=hcut;clear DR;go_upto_if 32 with fail;go_cut [] from 17 to 58 (fun wx=>∃ (K2:ByteArray) (q2:Int),K2.size<=3/\q<=q2/\q2<=q+3/\BdX w wx 121 3 R a n c q2 (.slice ya rs.length yc) rs.length (jlM rs) X [.string K2,.string ⟨#[]⟩,.bool gn])
   case first =>
    by_cases cY:8<N
    ·go_upto_region 10 with fail
     refine yO4 (8) (S:=fun w'=>w'.cell? ⟨X,0,none⟩=some (.string KY)) (by kernel_rfl) (G9.drew.row.cell 0 _ rfl) (fun aA=>?_);refine TYT 0 (.pointer (some ⟨X,0,none⟩)) rfl aA (TYT 1 (.string KY) rfl aA (TYT 2 (.pointer (some ⟨R,0,none⟩)) rfl aA ?_));simp only [PS];refine RDT 3 rfl (fun Kq aB=>?_);refine XRf (by rfl) _ _ (by go_simp) (ZfV R a n c (q+1+1) 3 _ G9.drew.s.rd (by omega)) ?_;rintro e w6 ⟨⟨z',rfl,z0,z1⟩,bW,bG⟩;refine ⟨_,rfl,?_⟩;have E6:=G9.drew.pick bW bG;clear bW bG;obtain ⟨z,rfl⟩:∃ k:Nat,z'=(k:Int):=⟨z'.toNat,by omega⟩;have dO:(z:Int)<=3:=by omega
     have cV:z<3:=by omega
     clear z0 z1;have dE:((⟨#[120,121,122]⟩:ByteArray).extract z 3).size=3-z:=by simp only [ByteArray.size_extract];show min 3 3-z=3-z;omega
     have cM:(1:Int)<=(((3-z:Nat)):Int):=by omega
     obtain ⟨k2,aU⟩:∃ x,((⟨#[120,121,122]⟩:ByteArray).extract z 3).extract 0 1=x:=⟨_,rfl⟩;have dH:k2.size=1:=by rw [<-aU];simp only [ByteArray.size_extract];show min 1 (min 3 3-z)-0=1;omega
     have zk:¬ (9223372036854775807<KY.size+k2.size):=by omega
     refine aB.out _ _ (E6.row.cell 0 _ rfl) (fun aG=>?_)
     try simp only [PS]
     refine TYT 4 (.string ((⟨#[120,121,122]⟩:ByteArray).extract z 3)) rfl aG (TYT 5 (.string k2) rfl aG (TYT 6 (.string (KY++k2)) rfl aG (TYT 7 (.pointer (some ⟨X,0,none⟩)) rfl aG ?_)));simp only [PS];refine kPc (rs:=[8]) (by kernel_rfl) (by simp) ?_;refine AllReadyT.last rfl (fun Kq aB=>?_);have l0:=E6.row.cell 0 _ rfl;have lf:=E6.row.froz 0 (by simp);have ll:=E6.row.lt;go_simp;refine aB.out _ _ trivial (fun _=>?_)
     try simp only [PS]
     refine kgn (by kernel_rfl) ?_ _;have E7:BdX w (w6.setCell ⟨X,0,none⟩ (.string (KY++k2))) 121 3 R a n c (q+1+1+1) (.slice ya rs.length yc) rs.length (jlM rs) X [.string (KY++k2),.string ⟨#[]⟩,.bool gn]:=E6.set 0 (by simp) (.string (KY++k2));go_wp2_with fail;go_meet;exact ⟨KY++k2,q+1+1+1,by rw [ByteArray.size_append];omega,by omega,by omega,E7⟩
    ·go_wp2_with fail
     go_meet;exact ⟨KY,q+1+1,by omega,by omega,by omega,G9⟩
   case rest =>
   obtain ⟨K2,q2,cL,dQ,dR,aM⟩:=hcut;obtain ⟨m0,m1,m2⟩:=aM.row.k3;have ml:=aM.row.lt;go_upto_if 43 with fail;clear m0 m1 m2 ml;go_cut [] from 17 to 58 (fun wx=>∃ (t:ByteArray) (q3:Int),t.size<=64000/\q<=q3/\q3<=q+15/\BdX w wx 121 3 R a n c q3 (.slice ya rs.length yc) rs.length (jlM rs) X [.string K2,.string t,.bool gn])
   case first =>
    cases gn with
    | true =>
     go_wp2_with fail;go_meet;exact ⟨⟨#[]⟩,q2,by decide,by omega,by omega,aM⟩
    | false =>
     go_wp2_with fail;refine (xAH R a n c q2 _ aM.s.rd (by omega)).mono ?_;rintro e w7 ⟨⟨t,rfl,ht⟩,⟨q7,dY,dZ,bY⟩,bH⟩;have D7:=aM.pick bY bH;clear bY bH;obtain ⟨m0,m1,m2⟩:=D7.row.k3;have mf:=D7.row.froz 1 (by simp);have ml:=D7.row.lt;have D8:BdX w (w7.setCell ⟨X,1,none⟩ (.string t)) 121 3 R a n c q7 (.slice ya rs.length yc) rs.length (jlM rs) X [.string K2,.string t,.bool false]:=D7.set 1 (by simp) (.string t);go_wp2_with fail;go_meet;exact ⟨t,q7,ht,by omega,by omega,D8⟩
   case rest =>
   obtain ⟨t,q3,ht,dU,dV,aL⟩:=hcut;obtain ⟨m0,m1,m2⟩:=aL.row.k3;have mf:=aL.row.froz 1 (by simp);have ml:=aL.row.lt;go_upto_if 50 with fail;go_cut [] from 17 to 58 (fun wx=>∃ (t:ByteArray),t.size<=100/\BdX w wx 121 3 R a n c q3 (.slice ya rs.length yc) rs.length (jlM rs) X [.string K2,.string t,.bool gn])
   case first =>
    by_cases cQ:t.size<=100
    ·have cS:¬ (100<(t.size:Int)):=by omega
     go_wp2_with fail;go_meet;exact ⟨t,cQ,aL⟩
    ·have cS:100<(t.size:Int):=by omega
     have dL:(100:Int)<=(t.size:Int):=by omega
     have cJ:BdX w (_) 121 3 R a n c q3 (.slice ya rs.length yc) rs.length (jlM rs) X [.string K2,.string (t.extract 0 100),.bool gn]:=aL.set 1 (by simp) (.string (t.extract 0 100));go_wp2_with fail;go_meet;exact ⟨t.extract 0 100,by simp only [ByteArray.size_extract];omega,cJ⟩
   case rest =>
   clear m0 m1 m2 mf ml aL;obtain ⟨t9,cT,aT⟩:=hcut;obtain ⟨x0,x1,x2⟩:=aT.row.k3;have xl:=aT.row.lt;have D9:=aT.s.below (quc _ (.cells #[.string K2,.string t9,.bool gn] 121));have cK:=hid D9.own;have dN:=aT.s.lt
   go_wp2_with (first | (at_builtin;refine WAL _ rfl _ _ 84 rfl w.heap.size Tryz.underlying84 HI.out rfl (by omega) _ rs.length _ rfl cK.out ⟨wc.heap.size,0,none⟩ 1 1 [.string K2,.string t9,.bool gn] rfl rfl (y1U _ _ _) (Qn2 _ _ _) (by simp;omega) (wc.heap.size+1) (by simp) ?_;intro g cap eB aF aD aO bJ;have cI:=D9.push aF aD;clear aF aD aO))
   go_roundw
   case rel =>
    refine ⟨rs++[(K2,t9,gn)],q3,_,rfl,by simp,by simp;omega,by omega,by simp;omega,?_,?_⟩
    ·intro x hx
     rcases List.mem_append.1 hx with hx | hx
     ·exact aX.out x hx
     ·simp at hx;subst hx;exact ⟨cL,cT⟩
    ·rw [vYx,List.length_append];exact cI
   all_goals (simp [intOf];omega)
  ·go_wp2
   go_ret;exact ⟨⟨_,rfl,rs,DR.own,⟨by omega,cP⟩,aX.out⟩,⟨q,q0,by omega,DR.rd⟩,DR.gr⟩
theorem jmi (R:Nat) (a:Option Addr) (n c:Nat) (p:Int) (w:World) (h:Rdr w R a n c p) (hp:p<100000000):Calls Tryz.prog 74 #[.pointer (some ⟨R,0,none⟩)] w fun e w'=>(∃ v,e=.returned (.int .i64 v)/\1<=v/\v<=8)/\Rdr w' R a n c (p+1)/\w.grownBy w' (some R):=by
 have hR:=ykG h.pc;go_enter Tryz.func74,Tryz.ntmps74;go_wp2_with fail;refine (ZfV R a n c p 6 _ (h.below ((Below.refl _ _).alloc (Nat.le_refl _) _)) hp).mono ?_;rintro e w1 ⟨⟨v,rfl,v0,v1⟩,hr,hg⟩;have d0:=Q24 (b:=w.heap.size) (i:=0) hg (by omega) (v:=.int .i64 8) (by simp);have d1:=Q24 (b:=w.heap.size) (i:=1) hg (by omega) (v:=.int .i64 8) (by simp);have d2:=Q24 (b:=w.heap.size) (i:=2) hg (by omega) (v:=.int .i64 4) (by simp);have d3:=Q24 (b:=w.heap.size) (i:=3) hg (by omega) (v:=.int .i64 2) (by simp);have d4:=Q24 (b:=w.heap.size) (i:=4) hg (by omega) (v:=.int .i64 1) (by simp);have d5:=Q24 (b:=w.heap.size) (i:=5) hg (by omega) (v:=.int .i64 1) (by simp);have HG:=hid (ZpU (Qbp (some R) ((Below.refl _ _).alloc (Nat.le_refl _) (.cells #[.int .i64 8,.int .i64 8,.int .i64 4,.int .i64 2,.int .i64 1,.int .i64 1] 3))) hg);have HR:=hid hr;clear hg hr;have hv:v=0\/v=1\/v=2\/v=3\/v=4\/v=5:=by omega
 clear v0 v1;rcases hv with rfl | rfl | rfl | rfl | rfl | rfl<;>(go_wp2;go_ret;exact ⟨⟨_,rfl,by omega,by omega⟩,HR.out,HG.out⟩)
theorem kw5 {α:Type} (l:List α) (i:Nat) (v:α) (h:l[i]?=some v):l.set i v=l:=by
 obtain ⟨hi,rfl⟩:=List.getElem?_eq_some_iff.1 h;exact List.set_getElem_self hi
theorem chsLe.mono {rs:List (ByteArray×ByteArray×Bool)} {k v k' v':Nat} (h:chsLe rs k v) (hk:k<=k') (hv:v<=v'):chsLe rs k' v':=fun x hx=>⟨Nat.le_trans (h x hx).1 hk,Nat.le_trans (h x hx).2 hv⟩
theorem chsLe.get {rs:List (ByteArray×ByteArray×Bool)} {k v:Nat} (h:chsLe rs k v) (i:Nat):(rs.getD i (ByteArray.empty,ByteArray.empty,false)).1.size<=k/\(rs.getD i (ByteArray.empty,ByteArray.empty,false)).2.1.size<=v:=by
 by_cases hi:i<rs.length
 ·have e:rs.getD i (ByteArray.empty,ByteArray.empty,false)=rs[i]:=by simp [List.getD,hi]
  rw [e];exact h _ (List.getElem_mem hi)
 ·have e:rs.getD i (ByteArray.empty,ByteArray.empty,false)=(ByteArray.empty,ByteArray.empty,false):=by simp [List.getD,hi]
  rw [e];exact ⟨Nat.zero_le _,Nat.zero_le _⟩
theorem chsLe.set {rs:List (ByteArray×ByteArray×Bool)} {k v:Nat} (h:chsLe rs k v) (i:Nat) (x:ByteArray×ByteArray×Bool) (h1:x.1.size<=k) (h2:x.2.1.size<=v):chsLe (rs.set i x) k v:=fun y hy=>by
 rcases List.mem_or_eq_of_mem_set hy with h3 | h3
 ·exact h y h3
 ·subst h3;exact ⟨h1,h2⟩
theorem BdS.stored {w0 w:World} {e:TypeId} {k:Nat} {R:Nat} {a:Option Addr} {n c:Nat} {q:Int} {g cap m:Nat} {cs:List Value} (h:BdS w0 w e k R a n c q (.slice (some ⟨g,0,none⟩) m cap) m cs) (hm:0<m) (j:Nat) (u:Value):BdS w0 (w.setCell ⟨g,j,none⟩ u) e k R a n c q (.slice (some ⟨g,0,none⟩) m cap) m (cs.set j u):=by
 have hg:w0.heap.size<=g:=(h.own.lt g rfl).1;exact ⟨h.rd.keep (N:=w0.heap.size) h.lR h.ga ((Below.refl _ _).setCell hg _),(h.own.stored j u).1,JFC h.gr _ hg _,h.lR,h.ga⟩
def qqw (w w':World) (e:Ending) (rs:List Pr) (aA:Int):Prop:=∃ a c,e=.returned (.tuple #[stV a rs.length c,.int .i64 aA])/\w'.ownsRow w.heap.size 78 2 (.slice a rs.length c) rs.length (qJS rs)/\Below w.heap.size w w'
theorem Zfn {w w':World} {e:Ending} {aA:Int} (he:e=.returned (.tuple #[stV none 0 0,.int .i64 aA])) (hb:Below w.heap.size w w'):qqw w w' e [] aA:=⟨none,0,he,World.ownsRow_nil _ _ _ _,hb⟩
theorem QvR (a:Option Addr) (rs:List Pr) (c:Nat) (a2:Option Addr) (b:List Ch) (c2:Nat) (w:World) (h:Prs w a rs) (hl:rs.length<=1048576) (hs:∀ x∈rs,x.1.size<=1048576/\x.2.size<=1048576) (h2:Chs w a2 b) (dH:b.length<=1048576) (dM:∀ x∈b,x.1.size<=1048576/\x.2.1.size<=1048576) :
  Calls Tryz.prog 79 #[stV a rs.length c,.slice a2 b.length c2] w fun e w'=>qqw w w' e (apR rs b) (apC rs b):=by
 have aC:∀ o1 o2,Below w.heap.size w ((w.alloc o1).alloc o2):=fun o1 o2=>((Below.refl _ _).alloc (Nat.le_refl _) _).alloc (by simp) _
 have aN:=hid (fun w' h'=>yPv a rs c w' h' hl hs);have aT:=hid (fun w' h'=>xly a2 b c2 w' h' dH dM);unfold stV;unfold apR apC
 cases hok:z0q rs with
 | false =>
  rw [hok] at aN;simp only [Bool.false_and,Bool.false_eq_true,if_false];rw [if_neg (by omega)];go_enter Tryz.func79,Tryz.ntmps79;go_wp2_with (go_at_call 20;refine (aN.out _ (h.below (aC _ _))).mono ?_;rintro e w3 ⟨rfl,aA⟩;have q1:w3.cell? ⟨w.heap.size+1,0,none⟩=some (.slice none 0 0):=(aA.cell (p:=⟨w.heap.size+1,0,none⟩) (by simp)).trans (by go_simp);have f1:w3.frozen? ⟨w.heap.size+1,0,none⟩=false:=(aA.frozen (p:=⟨w.heap.size+1,0,none⟩) (by simp)).trans (by go_simp);have l1:w.heap.size+1<w3.heap.size:=Nat.lt_of_lt_of_le (by simp) aA.size);refine bodyPost_ret (v:=.tuple #[stV none 0 0,.int .i64 1]) (by simp [results,Tryz.results79,go_sem,stV,q1]) rfl (Zfn rfl ?_);exact ((aC _ _).trans (aA.mono (by simp;omega))).setCell (p:=⟨w.heap.size+1,0,none⟩) (by show w.heap.size<=w.heap.size+1;omega) _
 | true =>
  rw [hok] at aN;simp only [Bool.true_and]
  cases hokb:kpJ b with
  | false =>
   rw [hokb] at aT;simp only [Bool.false_eq_true,if_false];rw [if_neg (by omega)];go_enter Tryz.func79,Tryz.ntmps79
   go_wp2_with (first | (go_at_call 20;refine (aN.out _ (h.below (aC _ _))).mono ?_;rintro e w3 ⟨rfl,aA⟩;have aH:=hid aA;clear aA) | (go_at_call 92;refine (aT.out _ (h2.below ((aC _ _).trans (aH.out.mono (by simp;omega))))).mono ?_;rintro e w4 ⟨rfl,aU⟩;have aA:=aH.out;have aD:=aA.trans (aU.mono aA.size);have q1:w4.cell? ⟨w.heap.size+1,0,none⟩=some (.slice none 0 0):=(aD.cell (p:=⟨w.heap.size+1,0,none⟩) (by simp)).trans (by go_simp);have f1:w4.frozen? ⟨w.heap.size+1,0,none⟩=false:=(aD.frozen (p:=⟨w.heap.size+1,0,none⟩) (by simp)).trans (by go_simp);have l1:w.heap.size+1<w4.heap.size:=Nat.lt_of_lt_of_le (by simp) aD.size))
   refine bodyPost_ret (v:=.tuple #[stV none 0 0,.int .i64 1]) (by simp [results,Tryz.results79,go_sem,stV,q1]) rfl (Zfn rfl ?_);exact ((aC _ _).trans (aD.mono (by simp;omega))).setCell (p:=⟨w.heap.size+1,0,none⟩) (by show w.heap.size<=w.heap.size+1;omega) _
  | true =>
   rw [hokb] at aT;simp only [if_true];have dY:rs.length<=100:=(Jne hok).1;have dI:b.length<=20:=(q4Z hokb).1.2;have bW:=hid (fun w' h'=>Znr a rs c w' h' hl);unfold XIH stV at bW;have cN:=hid (Q4i rs b);go_enter Tryz.func79,Tryz.ntmps79
   go_wp2_with (first | (go_at_call 20;refine (aN.out _ (h.below (aC _ _))).mono ?_;rintro e w3 ⟨rfl,aA⟩;have aH:=hid aA;clear aA) | (go_at_call 92;refine (aT.out _ (h2.below ((aC _ _).trans (aH.out.mono (by simp;omega))))).mono ?_;rintro e w4 ⟨rfl,aU⟩;have aL:=hid (aH.out.trans (aU.mono aH.out.size));clear aU;have q0:w4.cell? ⟨w.heap.size,0,none⟩=some (.slice a rs.length c):=(aL.out.cell (p:=⟨w.heap.size,0,none⟩) (by simp;omega)).trans (by go_simp)) | (go_at_call 69;refine (bW.out _ (h.below ((aC _ _).trans (aL.out.mono (by simp;omega))))).mono ?_;rintro e w5 ⟨a5,c5,rfl,cY,cF,cC,bG⟩;have bU:=hid (aL.out.trans (bG.mono aL.out.size));have bZ:=hid cF;have bI:=cY;have cL:=hid cC;have bC:=hid bG.size;clear cF cC bG))
   have dZ:w.heap.size+1<w4.heap.size:=by have:=aL.out.size;simp at this;omega
   have eB:w4.heap.size<=w5.heap.size:=bC.out;have aI:Hid (Below w.heap.size w w5):=(aC _ _).trans (bU.out.mono (by simp;omega))
   have cO:Hid (∀ w',Below w5.heap.size w5 w'->Row w' (w.heap.size+1) [.slice none 0 0]):=fun w' hb=>((zBX (w:=w.alloc (.cells #[.slice a rs.length c] 31)) (A:=#[.slice none 0 0]) (t:=31) (g:=w.heap.size+1) (by simp)).below bU.out).below hb
   go_loopw [7] (fun i wr=>∃ k:Nat,k<=b.length/\i=.int .i64 (k:Int)/\∃ va vc,Row wr w5.heap.size [.slice va (apU rs (b.take k)).length vc]/\(apU rs (b.take k)).length<=vc/\OwnS wr va (qJS (apU rs (b.take k)))/\(∀ g,blk va (apU rs (b.take k)).length=some g->w.heap.size+1<g/\g≠w5.heap.size)/\Below w5.heap.size w5 wr/\(0<k->wr.ownsRow w5.heap.size 78 2 (.slice va (apU rs (b.take k)).length vc) (apU rs (b.take k)).length (qJS (apU rs (b.take k))))) (fun i _=>b.length-(intOf i).toNat)
   case atStart=>exact ⟨0,Nat.zero_le _,rfl,a5,c5,xER w5 _ _,bI,bZ.out.below ((Below.refl _ _).alloc (Nat.le_refl _) _),fun g hg=>by have h1:=cL.out g hg;have h2:=bZ.out.lt rs.length (fun h e=>h (by have:=congrArg List.length e;rw [vzd,List.length_nil] at this;omega)) g hg;omega,(Below.refl _ _).alloc (Nat.le_refl _) _,fun h=>absurd h (by omega)⟩
   case round =>
    obtain ⟨k,hk,rfl,va,vc,aR,b8,cH,b7,bH,aF⟩:=hrel;have bY:=hid aF;clear aF;have hN:=cN.out k;have cI:=aR.cell 0 _ rfl;have dR:=aR.froz 0 (by simp);have dV:=aR.lt;have dN:=bH.size;have aZ:=hid aR;have aY:=hid cH;have bV:=hid b7;have aM:=hid bH;clear aR cH b7 bH
    by_cases bJ:k<b.length
    ·obtain ⟨bb,oo,s0,s1,g0,rfl,cU,cV,cW,HS⟩:=(h2.below (aI.out.trans (aM.out.mono aI.out.size))).at bJ
     have aG:bb<w.heap.size:=by
      rcases h2 with h | ⟨b',o',h1,h2,_⟩
      ·subst h;simp at bJ
      ·cases h1;exact h2
     have dJ:(k:Int)<(b.length:Int):=by omega
     have dU:(0:Int)<=(k:Int):=by omega
     have cJ:apU rs (b.take (k+1))=chF (s0,s1,g0) (apU rs (b.take k)):=by rw [k53 b k (ByteArray.empty,ByteArray.empty,false) bJ,JDX,<-HS.out]
     have aJ:=hid cJ;have aX:=hid (fun W (hW:Prs W va (apU rs (b.take k)))=>J3n va (apU rs (b.take k)) vc s0 s1 g0 W hW (by omega));obtain ⟨aK,aQ⟩:∃ aK,aK=apU rs (b.take k):=⟨_,rfl⟩;rw [<-aQ] at aJ aX aZ aY bV cI hN b8;clear cJ aQ HS;unfold stV zXv at aX
     have HT:Hid (∀ w',Below w.heap.size wr w'->w'.cell? ⟨bb,oo+k*3,none⟩=some (.string s0)/\w'.cell? ⟨bb,oo+k*3+1,none⟩=some (.string s1)/\w'.cell? ⟨bb,oo+k*3+2,none⟩=some (.bool g0)):=fun w' hb=>⟨(hb.cell (p:=⟨bb,oo+k*3,none⟩) aG).trans cU,(hb.cell (p:=⟨bb,oo+k*3+1,none⟩) aG).trans cV,(hb.cell (p:=⟨bb,oo+k*3+2,none⟩) aG).trans cW⟩
     have cK:w.heap.size<=wr.heap.size:=by omega
     go_wp2_with fail;refine wp_region_held_drew (S:=fun w'=>w'.cell? ⟨bb,oo+k*3,none⟩=some (.string s0)/\w'.cell? ⟨bb,oo+k*3+1,none⟩=some (.string s1)/\w'.cell? ⟨bb,oo+k*3+2,none⟩=some (.bool g0)) (by kernel_rfl) (HT.out _ (Below.refl _ _).drew) (fun aP=>?_);refine TY 1 (.slice (some ⟨bb,oo,none⟩) b.length c2) rfl aP (TY 2 (.int .i64 (k:Int)) rfl aP (TY 3 (.pointer (some ⟨bb,oo+k*3,none⟩)) rfl aP (TY 4 (.agg #[.string s0,.string s1,.bool g0]) rfl aP ?_)));simp only [PS];refine RD 0 rfl (fun K hK=>?_);go_simp;refine hK.out _ _ aP (fun _=>?_);clear hK K
     try simp only [PS]
     refine RD 5 rfl (fun K hK=>?_);refine XRf (by rfl) 102 #[.agg #[.slice va aK.length vc],.agg #[.string s0,.string s1,.bool g0]] (by go_simp) (aX.out _ ((aY.out.below (Below.refl _ _).drew).prsA)) ?_;rintro e w7 ⟨a7,c7,rfl,cZ,dL,cE,cT,dO⟩;refine ⟨_,rfl,?_⟩;have aE:Below wr.heap.size wr w7:=(Below.refl _ _).drew.trans cT;have aW:=aZ.out.below aE;have q7:=aW.cell 0 _ rfl;have f7:=aW.froz 0 (by simp);have l7:=aW.lt;refine hK.out _ _ (HT.out _ (aE.mono cK)) (fun cQ=>?_);clear hK K
     try simp only [PS]
     refine RD 6 rfl (fun K hK=>?_);go_simp;refine hK.out _ _ (HT.out _ ((aE.mono cK).setCell (p:=⟨w5.heap.size,0,none⟩) (by show w.heap.size<=w5.heap.size;omega) _)) (fun cS=>?_);clear hK K
     try simp only [PS]
     refine DN ?_;go_wp2;refine ⟨⟨k+1,by omega,by go_num,a7,c7,?_,?_,?_,?_,?_,fun _=>?_⟩,by simp [intOf];omega⟩
     ·rw [aJ.out];exact aW.set 0 (by simp) _
     ·rw [aJ.out];exact cZ
     ·rw [aJ.out];exact dL.setA _ (fun g hg dK=>by have:wr.heap.size<=g:=cE g (by subst hg;exact qdd _ _ _ (ZDV dK));show w5.heap.size≠g;omega) _
     ·rw [aJ.out];exact fun g hg=>by have:wr.heap.size<=g:=cE g hg;omega
     ·exact (aM.out.trans (aE.mono dN)).setCell (p:=⟨w5.heap.size,0,none⟩) (Nat.le_refl _) _
     ·rw [aJ.out]
      have aS:w7.ownsRow wr.heap.size 78 2 (.slice a7 (chF (s0,s1,g0) aK).length c7) (chF (s0,s1,g0) aK).length (qJS (chF (s0,s1,g0) aK)):=dO;exact QLa (ownsRow_setCell_other aS (fun e=>by have:wr.heap.size<=w5.heap.size:=(aS.lt _ e).1;omega) _) (by omega)
    ·have dE:k=b.length:=by omega
     subst dE;have aV:=cO.out _ aM.out;have q1:=aV.cell 0 _ rfl;have f1:=aV.froz 0 (by simp);have l1:=aV.lt;have dQ:w.heap.size+1≠w5.heap.size:=by omega
     have cP:¬ w5.heap.size=w.heap.size+1:=by omega
     rw [List.take_length] at cI b8 aZ aY bV bY
     have bQ:wr.ownsRow w5.heap.size 78 2 (.slice va (apU rs b).length vc) (apU rs b).length (qJS (apU rs b))->(Value.slice va (apU rs b).length vc).ownBlock≠some (w.heap.size+1):=fun aF e=>by have:=(aF.lt _ e).1;omega
     clear aV hN
     by_cases aB:(apU rs b).length<=100
     ·have cM:=hid aB
      have aO:((apU rs b).length:Int)<=100:=by omega
      clear aB;go_wp2_with fail;refine bodyPost_ret (v:=.tuple #[stV va (apU rs b).length vc,.int .i64 0]) (by simp [results,Tryz.results79,go_sem,stV,q1]) rfl ⟨va,vc,rfl,?_,?_⟩
      ·have aF:=bY.out (by have:=(q4Z hokb).1.1;omega)
       exact QLa (ownsRow_setCell_other aF (bQ aF) _) (by omega)
      ·exact (aI.out.trans (aM.out.mono aI.out.size)).setCell (p:=⟨w.heap.size+1,0,none⟩) (by show w.heap.size<=w.heap.size+1;omega) _
     ·have cM:=hid aB
      have aO:¬ ((apU rs b).length:Int)<=100:=by omega
      clear aB;go_wp2_with fail;refine bodyPost_ret (v:=.tuple #[stV none 0 0,.int .i64 2]) (by simp [results,Tryz.results79,go_sem,stV,q1]) rfl (Zfn rfl ?_);exact (aI.out.trans (aM.out.mono aI.out.size)).setCell (p:=⟨w.heap.size+1,0,none⟩) (by show w.heap.size<=w.heap.size+1;omega) _
section
def psLe (rs:List Pr) (k v:Nat):Prop:=∀ x∈rs,x.1.size<=k/\x.2.size<=v
theorem psLe.get {rs:List Pr} {k v:Nat} (h:psLe rs k v) (i:Nat):(rs.getD i (ByteArray.empty,ByteArray.empty)).1.size<=k/\(rs.getD i (ByteArray.empty,ByteArray.empty)).2.size<=v:=by
 by_cases hi:i<rs.length
 ·have e:rs.getD i (ByteArray.empty,ByteArray.empty)=rs[i]:=by simp [List.getD,hi]
  rw [e];exact h _ (List.getElem_mem hi)
 ·have e:rs.getD i (ByteArray.empty,ByteArray.empty)=(ByteArray.empty,ByteArray.empty):=by simp [List.getD,hi]
  rw [e];exact ⟨Nat.zero_le _,Nat.zero_le _⟩
theorem psLe.set {rs:List Pr} {k v:Nat} (h:psLe rs k v) (i:Nat) (x:Pr) (h1:x.1.size<=k) (h2:x.2.size<=v):psLe (rs.set i x) k v:=fun y hy=>by
 rcases List.mem_or_eq_of_mem_set hy with h3 | h3
 ·exact h y h3
 ·subst h3;exact ⟨h1,h2⟩
theorem psLe.snoc {rs:List Pr} {k v:Nat} (h:psLe rs k v) (x:Pr) (h1:x.1.size<=k) (h2:x.2.size<=v):psLe (rs++[x]) k v:=fun y hy=>by
 rcases List.mem_append.1 hy with h3 | h3
 ·exact h y h3
 ·simp at h3;subst h3;exact ⟨h1,h2⟩
theorem Xhq {rs:List Pr} (h:z0q rs=true):psLe rs 64000 64000:=fun x hx=>by
 obtain ⟨_,h2,_⟩:=(ZaP rs).1 h;have h3:=h2 x hx;unfold kOk vOk at h3;simp only [decide_eq_true_eq] at h3;omega
theorem JHF:∀ (rs:List Pr) (k:Nat) (x:Pr),k<rs.length->qJS (rs.set k x)=((qJS rs).set (k*2) (.string x.1)).set (k*2+1) (.string x.2)
 | y::r,0,x,_=>by simp [qJS]
 | y::r,k+1,x,h=>by
  have ih:=JHF r k x (by simpa using h)
  have e:∀ (z:Pr) (l:List Pr),qJS (z::l)=.string z.1::.string z.2::qJS l:=fun z l=>by simp [qJS]
  rw [List.set_cons_succ,e,e,ih,show (k+1)*2=k*2+2 by omega];rfl
theorem QkY (rs:List Pr) (k:Nat) (hk:k<rs.length) (s:ByteArray):(qJS rs).set (k*2) (.string s)=qJS (rs.set k (s,(rs.getD k (ByteArray.empty,ByteArray.empty)).2)):=by
 obtain ⟨h0,h1⟩:=xkI rs k hk;rw [JHF rs k _ hk,kw5 ((qJS rs).set (k*2) (.string s)) (k*2+1) _ (by rw [List.getElem?_set_ne (by omega)];exact h1)]
theorem yrs (rs:List Pr) (k:Nat) (hk:k<rs.length) (s:ByteArray):(qJS rs).set (k*2+1) (.string s)=qJS (rs.set k ((rs.getD k (ByteArray.empty,ByteArray.empty)).1,s)):=by
 obtain ⟨h0,h1⟩:=xkI rs k hk;rw [JHF rs k _ hk,kw5 (qJS rs) (k*2) _ h0]
theorem yUy {w:World} {B:Nat} {e:TypeId} {y:Value} {o:List Pr} (h:w.ownsRow B e 2 y o.length (qJS o)):∃ a c,y=.slice a o.length c/\Prs w a o:=by
 rcases yUO h with ⟨h1,h2⟩ | ⟨g,cap,h1,h2,_,h3⟩
 ·have:o=[]:=List.eq_nil_of_length_eq_zero h2
  subst this;exact ⟨none,0,h1,.inl rfl⟩
 ·exact ⟨_,cap,h1,h3.prs⟩
theorem zvX (k v:ByteArray):∀ u∈[Value.string k,.string v],u.oneCell'=true:=by
 intro u hu;simp only [List.mem_cons,List.not_mem_nil,or_false] at hu;rcases hu with rfl | rfl<;>rfl
structure AnS (w0 w:World) (R:Nat) (a:Option Addr) (n c:Nat) (q:Int) (RB SB:Nat) (y:Value) (rs:List Pr):Prop where
 x:BdX w0 w 78 2 R a n c q y rs.length (qJS rs) SB [y]
 rb:Row w RB [.slice none 0 0]
 ro:y.ownBlock≠some RB
 b0:w0.heap.size<=RB
 bs:RB≠SB
section
variable {w0 w w':World} {R:Nat} {a:Option Addr} {n c:Nat} {q q':Int} {RB SB:Nat} {y:Value} {rs:List Pr}
theorem AnS.pick (h:AnS w0 w R a n c q RB SB y rs) (hr:Rdr w' R a n c q') (hg:w.grownBy w' (some R)):AnS w0 w' R a n c q' RB SB y rs :=
 ⟨h.x.pick hr hg,h.rb.grown hg (fun e=>by injection e with e;have:=h.b0;have:=h.x.s.lR;omega),h.ro,h.b0,h.bs⟩
theorem AnS.below (h:AnS w0 w R a n c q RB SB y rs) (hb:Below w.heap.size w w'):AnS w0 w' R a n c q RB SB y rs:=⟨h.x.below hb,h.rb.below hb,h.ro,h.b0,h.bs⟩
theorem AnS.drew (h:AnS w0 w R a n c q RB SB y rs):AnS w0 w.drew R a n c q RB SB y rs:=h.below (Below.refl _ _).drew
theorem AnS.rd (h:AnS w0 w R a n c q RB SB y rs):Rdr w R a n c q:=h.x.s.rd
theorem AnS.lt (h:AnS w0 w R a n c q RB SB y rs):w0.heap.size<=w.heap.size:=h.x.s.lt
theorem AnS.put (h:AnS w0 w R a n c q RB SB y rs) {y':Value} {aA:List Pr} (ho:w.ownsRow w0.heap.size 78 2 y' aA.length (qJS aA)) (h1:y'.ownBlock≠some RB) (h2:y'.ownBlock≠some SB):AnS w0 (w.setCell ⟨SB,0,none⟩ y') R a n c q RB SB y' aA:=by
 have hb:Below w0.heap.size w (w.setCell ⟨SB,0,none⟩ y'):=(Below.refl _ _).setCell h.x.xb _;exact ⟨⟨⟨h.rd.keep h.x.s.lR h.x.s.ga hb,ownsRow_setCell_other ho h2 _,JFC h.x.s.gr _ h.x.xb _,h.x.s.lR,h.x.s.ga⟩,h.x.row.set 0 (by simp) _,h2,h.x.xb⟩,h.rb.other _ (Ne.symm h.bs) _,h1,h.b0,h.bs⟩
theorem AnS.push (h:AnS w0 w R a n c q RB SB y rs) {g cap H:Nat} {aA:List Pr} (aB:w'.ownsRow w0.heap.size 78 2 (.slice (some ⟨g,0,none⟩) aA.length cap) aA.length (qJS aA)) (hg:w.grownBy w' y.ownBlock) (aC:y.ownBlock=some g\/g=H) (hH:w.heap.size<=H) :
  Row w' SB [y]/\AnS w0 (w'.setCell ⟨SB,0,none⟩ (.slice (some ⟨g,0,none⟩) aA.length cap)) R a n c q RB SB (.slice (some ⟨g,0,none⟩) aA.length cap) aA:=by
 have hb:Below w0.heap.size w w':=jJX hg h.lt (fun k e=>(h.x.s.own.lt k e).1);have lS:=h.x.row.lt;have lR:=h.rb.lt
 have n1:(Value.slice (some ⟨g,0,none⟩) aA.length cap).ownBlock≠some RB:=fun e=>by
  have e':g=RB:=Option.some.inj e;rcases aC with h1 | h1
  ·exact h.ro (by rw [h1,e'])
  ·omega
 have n2:(Value.slice (some ⟨g,0,none⟩) aA.length cap).ownBlock≠some SB:=fun e=>by
  have e':g=SB:=Option.some.inj e;rcases aC with h1 | h1
  ·exact h.x.xo (by rw [h1,e'])
  ·omega
 have r1:Row w' SB [y]:=h.x.row.grown hg (fun e=>h.x.xo e.symm);have aD:Below w0.heap.size w' (w'.setCell ⟨SB,0,none⟩ (.slice (some ⟨g,0,none⟩) aA.length cap)):=(Below.refl _ _).setCell h.x.xb _;refine ⟨r1,⟨⟨(h.rd.keep h.x.s.lR h.x.s.ga hb).keep h.x.s.lR h.x.s.ga aD,ownsRow_setCell_other aB n2 _,?_,h.x.s.lR,h.x.s.ga⟩,r1.set 0 (by simp) _,n2,h.x.xb⟩,(h.rb.grown hg (fun e=>h.ro e.symm)).other _ (Ne.symm h.bs) _,n1,h.b0,h.bs⟩;exact JFC (b:=w') ⟨hg.os.trans h.x.s.gr.os,hg.tape.trans h.x.s.gr.tape,hg.output.trans h.x.s.gr.output,Nat.le_trans h.x.s.gr.size hg.size,fun i hi hr=>(hb.block i hi).trans (h.x.s.gr.block i hi hr)⟩ _ h.x.xb _
theorem AnS.stored {g cap:Nat} (h:AnS w0 w R a n c q RB SB (.slice (some ⟨g,0,none⟩) rs.length cap) rs) (hm:0<rs.length) (j:Nat) (u:Value) (aA:List Pr) (hl:aA.length=rs.length) (he:(qJS rs).set j u=qJS aA):AnS w0 (w.setCell ⟨g,j,none⟩ u) R a n c q RB SB (.slice (some ⟨g,0,none⟩) aA.length cap) aA:=by
 have b1:=h.x.s.stored hm j u;have r1:=h.x.row.other ⟨g,j,none⟩ (fun e=>h.x.xo (by rw [<-e];rfl)) u;rw [he,<-hl] at b1;rw [<-hl] at r1;exact ⟨⟨b1,r1,h.x.xo,h.x.xb⟩,h.rb.other _ (fun e=>h.ro (by rw [<-e];rfl)) _,h.ro,h.b0,h.bs⟩
theorem AnS.far (h:AnS w0 w R a n c q RB SB y rs) (X i:Nat) (hX:w0.heap.size<=X) (h1:X≠SB) (h2:X≠RB) (h3:y.ownBlock≠some X) (v:Value):AnS w0 (w.setCell ⟨X,i,none⟩ v) R a n c q RB SB y rs :=
 ⟨⟨h.x.s.set X i hX h3 v,h.x.row.other _ h1 _,h.x.xo,h.x.xb⟩,h.rb.other _ h2 _,h.ro,h.b0,h.bs⟩
end
theorem zSN {w:World} {B:Nat} {e:TypeId} {a:Option Addr} {c:Nat} {o:List Pr} (h:w.ownsRow B e 2 (.slice a o.length c) o.length (qJS o)):Prs w a o:=by
 obtain ⟨a',c',e1,h1⟩:=yUy h
 cases e1
 exact h1
theorem Z9J {w:World} {B:Nat} {e:TypeId} {a:Option Addr} {c:Nat} {o:List (ByteArray×ByteArray×Bool)} (h:w.ownsRow B e 3 (.slice a o.length c) o.length (jlM o)):Chs w a o:=by
 rcases yUO h with ⟨h1,h2⟩ | ⟨g,cap,h1,h2,_,h3⟩
 ·exact .inl (List.eq_nil_of_length_eq_zero h2)
 ·cases h1
  exact h3.chs
theorem Zvz (rs:List Pr) (b:List Ch) (h:apC rs b=0):z0q (apR rs b)=true:=by unfold apR;rw [if_pos h];exact jZe h
end
end Go.Proofs.YtehbpeinnepdcaaGreatDoor
namespace Go.Proofs.YtehbpeinnepdcaaGreatDoor
open Go.RowKit Go.ChangeShapes Go.WideShapes Go.Deep
section
variable {H:Type} {enc:TypeId×Value->H} {P:Program} {w:World} {base:Nat} {spare:Nat->Bool} {held:Bool}
theorem zMd {a:Addr} {i:Nat} {v:Value} (h:w.cell? (a.add i)=some v) (h0:∃ u,w.cell? (a.add 0)=some u):∃ b o,a=⟨b,o,none⟩:=by
 obtain ⟨b,o,s⟩:=a;obtain ⟨u,hu⟩:=h0;have hs:s=none:=by simpa [Addr.add] using World.cell?_spot hu
 exact ⟨b,o,by rw [hs]⟩
theorem y6U (b o i:Nat):(⟨b,o,none⟩:Addr).add i=⟨b,o+i,none⟩:=by unfold Addr.add;split<;>simp_all
end
end Go.Proofs.YtehbpeinnepdcaaGreatDoor
namespace Go.Proofs.YtehbpeinnepdcaaGreatDoor
open Go.RowKit Go.ChangeShapes Go.WideShapes Go.Deep
section
variable {H:Type} {enc:TypeId×Value->H} {P:Program} {w:World} {base:Nat} {spare:Nat->Bool} {held:Bool}
theorem ZXg {t e:TypeId} {aC:Nat} {v:Value} {x:DataW H×List MemPlace} (ht:P.underlying t=some (.slice e)) (he:P.underlying e=some (.int .u8)) (hc:P.cellsOf e=1)
  (h:DataW.trod enc P w base spare held aC t [v]=some x):∃ a n c,v=.slice a n c/\Bys w a n/\n<=c/\n<=maxLen:=by
 rcases open_ints ht he hc h with ⟨aB,_⟩ | ⟨a,aD,cap,zs,aB,_,hl,hm,hz,_,aA,aF⟩
 ·simp at aB
  exact ⟨none,0,0,by simpa using aB,⟨0,0,.inl rfl,fun i hi=>absurd hi (by omega)⟩,Nat.le_refl _,Nat.zero_le _⟩
 ·simp at aB
  have aE:aD<=zs.length:=by rw [hz];split<;>omega
  refine ⟨some a,aD,cap,aB,?_,hl,by omega⟩
  by_cases h0:aD=0
  ·subst h0
   exact ⟨0,0,.inl rfl,fun i hi=>absurd hi (by omega)⟩
  ·obtain ⟨b,o,rfl⟩:=zMd (aA 0 (by omega)) ⟨_,aA 0 (by omega)⟩
   have hb:=World.block_lt_of_cell? w _ (aA 0 (by omega));rw [y6U] at hb;refine ⟨b,o,.inr rfl,fun i hi=>⟨hb,zs.getD i 0,?_,?_⟩⟩
   ·have:=aA i (by omega)
    rwa [y6U] at this
   ·rw [List.getD_eq_getElem?_getD]
    exact range_u8 aF i
end
end Go.Proofs.YtehbpeinnepdcaaGreatDoor
