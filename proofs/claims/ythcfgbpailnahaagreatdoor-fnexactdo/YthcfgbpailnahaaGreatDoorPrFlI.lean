import Derived.Test.YthcfgbpailnahaaGreatDoorPrG36
import Derived.Test.YthcfgbpailnahaaGreatDoorPrG34
set_option maxHeartbeats 16000000
namespace Go.Proofs.YthcfgbpailnahaaGreatDoor
open Tryz
open Go.RowKit
set_option maxRecDepth 8000
set_option linter.all false
def Fl(W S L T H F R U O:Int)(a:Option Addr)(rs:List Pr)(c:Nat)(w:World)(h:Prs w a rs)(hc:rs.length<=c)(hl:rs.length<=1048576)(hs:∀x∈rs,x.1.size<=1048576/\x.2.size<=1048576):Calls prog 84 #[LV W S L T H F R U O a rs.length c] w λx w'=>ZM w w' x (SN W S L T H F R U O rs):=by
 have aG:=LE (λw' h'=>fh W S L T H F R U O a rs c w' h' hc hl hs);have HH:=LE h;clear h hs;obtain⟨DD,aF⟩:∃D,Hid (D=SN W S L T H F R U O rs):=⟨_,LE rfl⟩;rw[<-aF.o];unfold LV at aG⊢;go_enter func84,ntmps84;go_upto_region 1 with fail;generalize aB:w.alloc _=v1;obtain⟨aK,aD,b1⟩:=LJ aB;clear aB;generalize aC:v1.alloc _=v2;obtain⟨aL,aO,b2⟩:=LJ aC;clear aC;rw[aD]at b2;have B0:StB w v2 (sJ W S L T H F R U O (.slice a rs.length c)) (λ_=>True):=⟨aK.j (aL.i aK.size),(b1.I aL).l,b2.l,SX (λ_=>trivial)⟩;have l2:w.heap.size+1<v2.heap.size:=b2.l.lt;clear aK aL b1 b2 aD aO;refine BA ?_;refine AN rfl 50 _ rfl w.heap.size 0 rfl _ _ B0.r1.range underlying50 rfl OH ?_;simp only[PS];go_wp2_with fail;refine(aG.o _ (HH.o.I B0.e)).i ?_;rintro x v3 ⟨rfl,hb⟩;replace B0:=B0.I hb;have l3:w.heap.size+1<v3.heap.size:=B0.r2.lt;clear hb l2 aG
 cases hok:OF W S L T H F R U O rs with
 | false =>
  obtain rfl:DD=LT 1:=by rw[aF.o];unfold SN;rw[AE (by rw[hok];simp)]
  go_upto_region 2 with fail;refine B0.noR 1 _ _ rfl (by go_simp) rfl rfl rfl rfl (λy R8 aE=>?_)
  try simp only[PS]
  clear B0
  try go_wp2
  refine TG 2 results84 _ ?_ R8 ?_ aE.o<;>rfl
 | true =>
  obtain rfl:DD=⟨0,W,S,L,T,H,F,R,U,0,rs,[(true,0,ByteArray.empty)]⟩:=by rw[aF.o];unfold SN;rw[AK hok]
  have aT:0<=H/\H<=1/\1<=F/\F<=999999000/\0<=U/\U<=99:=by
   unfold OF SD at hok;simp at hok;have h2:=PH (S:=S) (by omega);omega
  obtain⟨h0,h1,f0,f1,u0,u1⟩:=aT;have aH:=LE (λw'=>im W S L T H F R U O a rs.length c w' h0 h1 f0 f1 u0 u1);unfold LV at aH;clear hok;go_upto_region 3 with fail;refine BA ?_;refine AN rfl 50 _ rfl w.heap.size 0 rfl _ _ B0.r1.range underlying50 rfl OH ?_;simp only[PS];go_wp2_with fail;refine(aH.o _).i ?_;rintro x v4 ⟨g,rfl,hw,hb⟩;replace B0:=B0.I hb;have l4:=hb.size;clear hb aH;go_wp2_with fail;refine(ia v3.heap.size g _ [] _ _ _ _ _ hw l4 (by simp)).i ?_;rintro x v5 ⟨⟨x5,rfl⟩,⟨v',hw⟩,hb⟩;replace B0:=B0.low hb l3;clear hb
  obtain⟨go,cap,rfl,aV⟩:∃go cap,v'=Value.slice (some ⟨go,0,none⟩) 1 cap/\v3.heap.size<=go:=by
   rcases MM hw.own with ⟨e1,e2⟩|⟨g,cap,e1,e2,e3,e4⟩
   ·simp at e2
   exact⟨g,cap,e1,e2⟩
  have c8:=B0.r1.x 8;have c9:=B0.r1.x 9;have f8:=B0.r1.q 8;have cl:=B0.r1.lt;go_wp2_with fail;clear c8 f8 c9 cl;replace B0:=B0.set 8 (by simp) (.int .i64 0);replace hw:=hw.set w.heap.size 8 (by omega) (.int .i64 0);generalize aI:World.setCell _ _ _=v6 at B0 hw⊢;clear aI;have aU:go<v6.heap.size:=(hw.own.lt go rfl).2;have CS:=XF a rs c v6 (HH.o.I B0.e) hl;unfold LR at CS;refine CS.i ?_;rintro x v7 ⟨a5,c5,rfl,aS,oP,aN,hb⟩;unfold LR;have d5:=PG (lo:=v6.heap.size) oP QG aN;replace B0:=B0.I hb;replace hw:=hw.I hb;clear hb CS oP;have c9:=B0.r1.x 9;have f9:=B0.r1.q 9;have cl:=B0.r1.lt;go_upto_region 7 with fail;clear c9 f9 cl;replace B0:=B0.set 9 (by simp) (.slice a5 rs.length c5);replace hw:=hw.set w.heap.size 9 (by omega) (.slice a5 rs.length c5);replace d5:=d5.z (MC (BH v7 (some w.heap.size)) 9 (.slice a5 rs.length c5)) (λg e=>by cases e;omega)
  generalize aJ:World.setCell _ _ _=v8 at B0 hw d5⊢;clear aJ;have dD:=AB v8.heap.size v8;refine UV (6) (S:=λw'=>Row w' w.heap.size (sJ W S L T H F R U 0 (.slice a5 rs.length c5))/\w'.cell? ⟨g,0,none⟩=some (.slice (some ⟨go,0,none⟩) 1 cap)) (by kernel_rfl) (⟨B0.r1.I dD.drew,(hw.I dD.drew).row.x 0⟩) (λaA=>?_);refine MY 0 (.agg (sK W S L T H F R U 0 (.slice a5 rs.length c5))) rfl (BN ⟨by rfl,λw hw=>by obtain⟨z0,z1⟩:=hw;exact OP 50 _ rfl _ 0 rfl _ _ z0.range underlying50 rfl OH⟩) aA (NZ 1 (.pointer (some ⟨g,0,none⟩)) rfl aA (NZ 2 (.pointer (some ⟨g,0,none⟩)) rfl aA (MY 3 (.pointer (some ⟨g,0,none⟩)) rfl (BN ⟨by rfl,λw hw=>by obtain⟨z0,z1⟩:=hw;have l:=BE _ _ z1;go_simp⟩) aA (NZ 4 (.slice (some ⟨go,0,none⟩) 1 cap) rfl aA (NZ 5 (.agg (dK 0 W S L T H F R U 0 (.slice a5 rs.length c5) (.slice (some ⟨go,0,none⟩) 1 cap))) rfl aA ?_)))))
  simp only[PS];refine PD (rs:=[6]) (by kernel_rfl) (by simp) ?_;refine AllReadyT.last rfl (λKq aQ=>?_);have S8:=B0.I (AB v8.heap.size v8).drew;refine UK rfl 118 _ _ rfl (w.heap.size+1) 0 (dK 0 W S L T H F R U 0 (.slice a5 rs.length c5) (.slice (some ⟨go,0,none⟩) 1 cap)) rfl rfl (S8.r2.there rfl) RK (by kernel_rfl) ?_;refine aQ.o _ _ trivial (λ_=>?_)
  try simp only[PS]
  refine UN (by kernel_rfl) ?_ _;have dd:=AB v8.heap.size v8;have aM:=jc hw.own
  have aR:XM a5 rs.length (some ⟨go,0,none⟩) 1:=wV aN (λg k=>by rw[MI _ _ _ (by simp)]at k;cases k;exact aU)
  obtain⟨R8,HP⟩:=S8.fin ⟨0,W,S,L,T,H,F,R,U,0,rs,[(true,0,ByteArray.empty)]⟩ a5 c5 (some ⟨go,0,none⟩) cap aS ⟨(d5.I dd.drew).l,.inr ⟨go,rfl,(RW (LY hw.own dd.drew))⟩,aR⟩ (λg k=>by have:=aN g k;omega) (λg k=>by rw[MI _ _ _ (by simp)]at k;cases k;omega)
  have aE:=LE HP;clear HP;generalize aP:World.setCells _ _ _ _=y at R8 aE⊢;clear aP B0
  try go_wp2
  refine TG 2 results84 _ ?_ R8 ?_ aE.o aM<;>rfl
