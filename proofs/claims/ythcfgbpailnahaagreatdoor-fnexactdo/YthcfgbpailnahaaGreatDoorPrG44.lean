import Derived.Test.YthcfgbpailnahaaGreatDoorPrG34
import Derived.Test.YthcfgbpailnahaaGreatDoorPrG36
set_option maxHeartbeats 16000000
set_option maxRecDepth 8000
set_option linter.all false
namespace Go.Proofs.YthcfgbpailnahaaGreatDoor
open _root_.ByteArray(empty)
open Tryz
open Go.RowKit
variable {lf nm wd:Int}{base g:Nat}{v:Value}{w:World}
theorem db{W w9:World}{g9 aA:Nat}{va:Option Addr}{vc:Nat}{os:List NM}{x:NM}{aC:Int}{o:Obj}(h:Wrt w base g (.slice va os.length vc) os aC nm lf wd)(hb:base<=w.heap.size)(hB:Below base W w)
  (aD:w9.ownsRow base 122 3 (.slice (some ⟨g9,0,none⟩) (os.length+1) aA) (os.length+1) (MW os++[.bool x.1,.int .i64 x.2.1,.string x.2.2]))(hg:(w.alloc o).grownBy w9 (Value.slice va os.length vc).ownBlock)
  (aG:(Value.slice va os.length vc).ownBlock=some g9\/g9=w.heap.size+1):Row w9 g [.slice va os.length vc,.int .i64 aC,.int .i64 nm,.int .i64 lf,.int .i64 wd]/\Wrt (w9.setCell ⟨g,0,none⟩ (.slice (some ⟨g9,0,none⟩) (os.length+1) aA)) base g (.slice (some ⟨g9,0,none⟩) (os.length+1) aA) (os++[x]) aC nm lf wd/\Below base W w9/\Below base W (w9.setCell ⟨g,0,none⟩ (.slice (some ⟨g9,0,none⟩) (os.length+1) aA)):=by
 have hr:=(h.row.alloc o).z hg (λe=>h.ne e.symm);have lg:=h.row.lt
 have aB:g9≠g:=by
  rcases aG with e|e
  ·exactλe2=>h.ne (by rw[<-e2];exact e)
  omega
 have aF:=RL (hB.alloc hb _) (h.own.alloc o) hg (by simp;omega);have aE:=hr.set 0 (by simp) (.slice (some ⟨g9,0,none⟩) (os.length+1) aA);refine⟨hr,⟨aE,?_,h.ge,by simp[Value.ownBlock];exact aB⟩,aF,aF.setCell (p:=⟨g,0,none⟩) h.ge _⟩;have aH:w9.grownBy (w9.setCell ⟨g,0,none⟩ (.slice (some ⟨g9,0,none⟩) (os.length+1) aA)) (some g):=⟨rfl,rfl,rfl,by simp[World.setCell],λk _ hk=>BD _ _ _ k (λe=>hk (by rw[e]))⟩;have:=aD.kept aH (.inr (by simp[Value.ownBlock];exact aB));obtain⟨b,n,s⟩:=x;rw[AF,cu];exact this
theorem Wrt.sl{os:List NM}{aA:Int}(h:Wrt w base g v os aA nm lf wd):∃va vc,v=Value.slice va os.length vc:=by
 rcases MM h.own with ⟨e1,e2⟩|⟨g,cap,e1,_⟩
 ·exact⟨none,0,by rw[e1,e2]⟩
 exact⟨_,cap,e1⟩
theorem Wrt.count{os:List NM}{aA:Int}{x y:Int}(h:Wrt w base g v os aA nm lf wd):Wrt ((w.setCell ⟨g,1,none⟩ (.int .i64 x)).setCell ⟨g,2,none⟩ (.int .i64 y)) base g v os x y lf wd:=by
 refine⟨(h.row.set 1 (by simp) (.int .i64 x)).set 2 (by simp) (.int .i64 y),?_,h.ge,h.ne⟩;have aB:w.grownBy ((w.setCell ⟨g,1,none⟩ (.int .i64 x)).setCell ⟨g,2,none⟩ (.int .i64 y)) (some g):=⟨rfl,rfl,rfl,by simp[World.setCell],λk _ hk=>(BD _ _ _ k (λe=>hk (by rw[e]))).j (BD _ _ _ k (λe=>hk (by rw[e])))⟩;exact h.own.kept aB (.inr h.ne)
structure WK(g:Nat)(w:World)(v:Value)(w':World)(v':Value):Prop where
 size:w.heap.size<=w'.heap.size
 own:∀k,v'.ownBlock=some k->v.ownBlock=some k\/w.heap.size<=k
 blk:∀b,b<w.heap.size->b≠g->some b≠v.ownBlock->w'.heap[b]?=w.heap[b]?
theorem WK.start(g:Nat)(w:World)(v:Value):WK g w v w v:=⟨AA _,λ_ h=>.inl h,λ_ _ _ _=>rfl⟩
theorem WK.j{w1 w2:World}{v1 v2:Value}(h:WK g w v w1 v1)(k:WK g w1 v1 w2 v2):WK g w v w2 v2 :=⟨AL h.size k.size,λj hj=>(k.own j hj).elim (h.own j) (λe=>.inr (AL h.size e)),λb hb h1 h2=>(k.blk b (AD hb h.size) h1 (λe=>(h.own b e.symm).elim (λe=>h2 e.symm) (λe=>by omega))).j (h.blk b hb h1 h2)⟩
theorem WK.I{w1 w2:World}{v1:Value}(h:WK g w v w1 v1)(k:Below w1.heap.size w1 w2):WK g w v w2 v1:=h.j ⟨k.size,λ_ h=>.inl h,λb hb _ _=>k.block b hb⟩
theorem Row.wk{w':World}{k:Nat}{v':Value}{cs:List Value}(h:Row w k cs)(hk:WK g w v w' v')(h1:k≠g)(h2:some k≠v.ownBlock):Row w' k cs:=by
 have e:=hk.blk k h.lt h1 h2;refine⟨AD h.lt hk.size,λi v hv=>(?_:w'.cell? ⟨k,i,none⟩=some v),λi hi=>?_⟩
 ·rw[<-h.cell i v hv];simp[World.cell?,e]
 rw[<-h.froz i hi];simp[World.frozen?,e]
theorem pK{w9:World}{r:Option Nat}{o:Obj}{u x y:Value}(hg:(w.alloc o).grownBy w9 r):∀b,b<w.heap.size->b≠g->some b≠r->(((w9.setCell ⟨g,0,none⟩ u).setCell ⟨g,1,none⟩ x).setCell ⟨g,2,none⟩ y).heap[b]?=w.heap[b]?:=λb hb h1 h2=>by
 rw[BD _ _ _ b (λe=>h1 (by rw[e])),BD _ _ _ b (λe=>h1 (by rw[e])),BD _ _ _ b (λe=>h1 (by rw[e])),hg.block b (by simp;omega) h2];exact((AB w.heap.size w).alloc (AA _) o).block b hb
theorem tk(base g:Nat)(v:Value)(os:List NM)(aD nm lf wd:Int)(aB:ByteArray)(w:World)(h:Wrt w base g v os aD nm lf wd)(hb:base<=w.heap.size)(hl:os.length<=1000)(bI:0<=aD)(bJ:aD<=100000)(bP:0<=nm)(bQ:nm<=2000000000):Calls prog 182 #[.pointer (some ⟨g,0,none⟩),.string aB] w λe w'=>(∃x,e=.returned x)/\∃v',Wrt w' base g v' (os++[(false,aD,aB)]) (aD+1) (nm+1) lf wd/\Below base w w'/\WK g w v w' v':=by
 obtain⟨i0,aU,aV,aW,aX⟩:=UP og;have HI:=LE (AG aU (AG aV (AG aW aX)));clear aU aV aW aX;obtain⟨va,vc,rfl⟩:=h.sl;have q0:w.drew.cell? ⟨g,0,none⟩=some (.slice va os.length vc):=h.row.drew.x 0;have qa:(w.drew.alloc (.cells #[.bool false,.int .i64 aD,.string aB] 122)).cell? ⟨g,0,none⟩=some (.slice va os.length vc):=(h.row.drew.alloc _).x 0;have bT:w.cell? ⟨g,0,none⟩=some (.slice va os.length vc):=h.row.x 0;have lg:=h.row.lt;have HW:=LE h;have aY:=LE (LY h.own ((AB _ _).drew.alloc (AA _) (.cells #[.bool false,.int .i64 aD,.string aB] 122)));have aT:Hid ((w.drew.alloc (.cells #[.bool false,.int .i64 aD,.string aB] 122)).cell? ⟨g,1,none⟩=some (.int .i64 aD)/\g<(w.drew.alloc (.cells #[.bool false,.int .i64 aD,.string aB] 122)).heap.size):=⟨(h.row.drew.alloc _).x 1,(h.row.drew.alloc _).lt⟩;go_enter func182,ntmps182;go_wp2_with fail
 refine AP (S:=λw'=>w'.cell? ⟨g,1,none⟩=some (.int .i64 aD)/\g<w'.heap.size) (by kernel_rfl) (⟨h.row.drew.x 1,h.row.drew.lt⟩) (λaG=>?_);refine TY 0 (.pointer (some ⟨g,0,none⟩)) rfl aG (TY 1 (.pointer (some ⟨g,0,none⟩)) rfl aG (TY 2 (.pointer (some ⟨g,0,none⟩)) rfl aG (TY 3 (.pointer (some ⟨g,0,none⟩)) rfl aG (TY 5 (.pointer (some ⟨g,0,none⟩)) rfl aG (TY 6 (.pointer (some ⟨g,0,none⟩)) rfl aG (TY 7 (.pointer (some ⟨g,1,none⟩)) rfl aG (TY 8 (.int .i64 aD) rfl aG (TY 9 (.string aB) rfl aG (TY 10 (.agg #[.bool false,.int .i64 aD,.string aB]) rfl aG ?_)))))))));simp only[PS];refine EZ (rs:=[4,11]) (by kernel_rfl) (by simp) ?_;refine CY rfl (λK hK=>?_) (CY rfl (λK hK=>?_) EX)
 focus
  go_simp;refine hK.o _ _ aG (λ_=>?_);clear hK K
  try simp only[PS]
  refine RD 11 rfl (λK hK=>?_);go_simp;refine hK.o _ _ (aT.o) (λaZ=>?_)
 rotate_left
 focus
  go_simp;refine hK.o _ _ (aT.o) (λaP=>?_);clear hK K
  try simp only[PS]
  refine RD 4 rfl (λK hK=>?_);go_simp;refine hK.o _ _ aP (λ_=>?_)
 rotate_left
 all_goals
  clear hK K
  try simp only[PS]
  refine RD 12 rfl (λK hK=>?_);refine QO _ (by rfl) _ _ _ (by rfl) base underlying116 HI.o rfl (by omega) (.slice va os.length vc) os.length _ (by rfl) aY.o ⟨w.heap.size,0,none⟩ 1 1 [.bool false,.int .i64 aD,.string aB] (by rfl) rfl (World.news_of_block (AY w.drew _)) (WD _ _ _) (by simp<;>omega) (w.heap.size+1) (by simp) ?_;intro g9 aF w9 aH aC aI bF;have aE:=db (x:=(false,aD,aB)) HW.o hb (AB _ _) aH (YS aC) aI;have aA:=LE aE;have q9:=aE.1.x 0;have aO:=aE.1.x 1;have r9:=aE.1.q 0;have aJ:=aE.1.lt;have aS:=LE (YS aC);have aR:=LE aI
 ·clear aH aC aI aE
  refine hK.o _ _ (⟨aO,aJ⟩) (λaL=>?_);clear hK K
  try simp only[PS]
  refine TY 13 (.pointer (some ⟨g,0,none⟩)) rfl aL (TY 14 (.pointer (some ⟨g,0,none⟩)) rfl aL ?_);simp only[PS];refine RD 15 rfl (λK hK=>?_);go_simp;refine hK.o _ _ (⟨by go_simp,by simpa[World.setCell] using aJ⟩) (λbC=>?_);clear hK K
  try simp only[PS]
  refine DN ?_;have h1:=aA.o.2.1.row.x 1;have h2:=aA.o.2.1.row.x 2;have f1:=aA.o.2.1.row.q 1;have f2:=aA.o.2.1.row.q 2;have aQ:=aA.o.2.1.row.lt;clear q9 aO r9 aJ;have aK:=LE (λx y=>pK (g:=g) (u:=.slice (some ⟨g9,0,none⟩) (os.length+1) aF) (x:=x) (y:=y) aS.o);obtain⟨w8,aN⟩:∃w8,w8=w9.setCell ⟨g,0,none⟩ (.slice (some ⟨g9,0,none⟩) (os.length+1) aF):=⟨_,rfl⟩;rw[<-aN]at h1 h2 f1 f2 aA aK aQ⊢;clear aN;go_wp2;go_end0;refine⟨⟨_,rfl⟩,.slice (some ⟨g9,0,none⟩) (os.length+1) aF,aA.o.2.1.count,(aA.o.2.2.2.setCell (p:=⟨g,1,none⟩) h.ge _).setCell (p:=⟨g,2,none⟩) h.ge _,((aA.o.2.2.2.setCell (p:=⟨g,1,none⟩) h.ge _).setCell (p:=⟨g,2,none⟩) h.ge _).size,λk hk=>?_,aK.o _ _⟩;have:k=g9:=by simp[Value.ownBlock]at hk;exact hk.symm
  subst this;rcases aR.o with h1|h1
  ·exact .inl h1
  right;omega
 clear aH aC aI aE
 refine hK.o _ _ (⟨aO,aJ⟩) (λaM=>?_);clear hK K
 try simp only[PS]
 refine TY 13 (.pointer (some ⟨g,0,none⟩)) rfl aM (TY 14 (.pointer (some ⟨g,0,none⟩)) rfl aM ?_);simp only[PS];refine RD 15 rfl (λK hK=>?_);go_simp;refine hK.o _ _ (⟨by go_simp,by simpa[World.setCell] using aJ⟩) (λbE=>?_);clear hK K
 try simp only[PS]
 refine DN ?_;have h1:=aA.o.2.1.row.x 1;have h2:=aA.o.2.1.row.x 2;have f1:=aA.o.2.1.row.q 1;have f2:=aA.o.2.1.row.q 2;have aQ:=aA.o.2.1.row.lt;clear q9 aO r9 aJ;have aK:=LE (λx y=>pK (g:=g) (u:=.slice (some ⟨g9,0,none⟩) (os.length+1) aF) (x:=x) (y:=y) aS.o);obtain⟨w8,aN⟩:∃w8,w8=w9.setCell ⟨g,0,none⟩ (.slice (some ⟨g9,0,none⟩) (os.length+1) aF):=⟨_,rfl⟩;rw[<-aN]at h1 h2 f1 f2 aA aK aQ⊢;clear aN;go_wp2;go_end0;refine⟨⟨_,rfl⟩,.slice (some ⟨g9,0,none⟩) (os.length+1) aF,aA.o.2.1.count,(aA.o.2.2.2.setCell (p:=⟨g,1,none⟩) h.ge _).setCell (p:=⟨g,2,none⟩) h.ge _,((aA.o.2.2.2.setCell (p:=⟨g,1,none⟩) h.ge _).setCell (p:=⟨g,2,none⟩) h.ge _).size,λk hk=>?_,aK.o _ _⟩;have:k=g9:=by simp[Value.ownBlock]at hk;exact hk.symm
 subst this;rcases aR.o with h1|h1
 ·exact .inl h1
 right;omega
theorem ue(base g:Nat)(v:Value)(os:List NM)(aC nm lf wd:Int)(w:World)(h:Wrt w base g v os aC nm lf wd)(hb:base<=w.heap.size)(hl:os.length<=1000)(aI:0<=aC)(aJ:aC<=100000)(aM:0<=nm)(aN:nm<=2000000000):Calls prog 177 #[.pointer (some ⟨g,0,none⟩)] w λe w'=>(∃x,e=.returned x)/\∃v',Wrt w' base g v' (os++[(false,aC,MP 3 lf nm empty wd)]) (aC+1) (nm+1) lf wd/\Below base w w'/\WK g w v w' v':=by
 have q2:=h.row.x 2;have lg:=h.row.lt;go_enter func177,ntmps177;go_wp2_with fail;refine AP (S:=λw'=>w'.cell? ⟨g,3,none⟩=some (.int .i64 lf)/\w'.cell? ⟨g,4,none⟩=some (.int .i64 wd)) (by kernel_rfl) (⟨h.row.drew.x 3,h.row.drew.x 4⟩) (λaA=>?_);refine TY 0 (.pointer (some ⟨g,0,none⟩)) rfl aA (TY 1 (.pointer (some ⟨g,0,none⟩)) rfl aA (TY 2 (.pointer (some ⟨g,0,none⟩)) rfl aA (TY 3 (.pointer (some ⟨g,3,none⟩)) rfl aA (TY 4 (.int .i64 lf) rfl aA (TY 5 (.pointer (some ⟨g,0,none⟩)) rfl aA (TY 6 (.pointer (some ⟨g,0,none⟩)) rfl aA (TY 7 (.pointer (some ⟨g,2,none⟩)) rfl aA (TY 10 (.pointer (some ⟨g,0,none⟩)) rfl aA (TY 11 (.pointer (some ⟨g,0,none⟩)) rfl aA (TY 12 (.pointer (some ⟨g,4,none⟩)) rfl aA (TY 13 (.int .i64 wd) rfl aA ?_)))))))))));simp only[PS];refine RD 8 rfl (λK hK=>?_);go_simp;refine hK.o _ _ aA (λ_=>?_);clear hK K
 try simp only[PS]
 refine TY 9 (.agg #[.int .i64 3,.int .i64 lf,.int .i64 nm,.string ⟨#[]⟩]) rfl aA ?_;simp only[PS];refine RD 14 rfl (λK hK=>?_);refine LK (by rfl) 217 #[NH 3 lf nm ⟨#[]⟩,.int .i64 wd] (by go_simp) (ZW 3 lf nm empty wd _ (by simp)) ?_;rintro e w4 ⟨rfl,aK⟩;refine⟨_,rfl,?_⟩;have aB:Below w.heap.size w w4:=(AB _ _).drew.j aK;have aD:=h.I aB;refine hK.o _ _ (⟨aD.row.x 3,aD.row.x 4⟩) (λaG=>?_);clear hK K
 try simp only[PS]
 refine RD 15 rfl (λK hK=>?_);refine LK (by rfl) 182 #[.pointer (some ⟨g,0,none⟩),.string (MP 3 lf nm empty wd)] (by go_simp) (tk base g v os aC nm lf wd _ _ aD (AL hb aB.size) hl aI aJ aM aN) ?_;rintro e w5 ⟨⟨x,rfl⟩,v',aE,aL,aF⟩;refine⟨_,rfl,?_⟩;refine hK.o _ _ (⟨aE.row.x 3,aE.row.x 4⟩) (λaH=>?_);clear hK K
 try simp only[PS]
 refine DN ?_;go_end0;exact⟨⟨_,rfl⟩,v',aE,(aB.i hb).j aL,(⟨aB.size,λ_ h=>.inl h,λb hb _ _=>aB.block b hb⟩:WK g w v w4 v).j aF⟩
theorem yj(T H F R S L:Int)(w:World)(hT:0<=T)(aF:T<=1000000000)(hH:0<=H)(aE:H<=1)(hF:0<=F)(aD:F<=999999000):Calls prog 173 #[MV T H F R,.int .i64 S,.int .i64 L] w λe w'=>e=.returned (MV (T+1) (1-H) (F+hv S) L)/\Below w.heap.size w w':=by
 have hQ:0<=hv S/\hv S<=99:=by by_cases h:8<=S/\S<=200;have:=PH h;omega;rw[WE h];omega
 have HH:=LE (λw'=>ZI S w');obtain⟨Q,HQ⟩:∃Q,Hid (Q=hv S):=⟨_,LE rfl⟩;rw[<-HQ.o]at hQ HH⊢;have aG:IntKind.i64.wrap (T+1)=T+1:=by simp[IntKind.wrap,IntKind.bits,IntKind.signed];omega
 have aH:IntKind.i64.wrap (1-H)=1-H:=by simp[IntKind.wrap,IntKind.bits,IntKind.signed];omega
 have aI:IntKind.i64.wrap (F+Q)=F+Q:=by simp[IntKind.wrap,IntKind.bits,IntKind.signed];omega
 have aC:∀ {cs:Array Value} {cs':Array Value} {t t':TypeId},Below w.heap.size w ((w.alloc (.cells cs t)).alloc (.cells cs' t')):=(LG _ _).alloc (by simp) _;go_enter func173,ntmps173;go_wp2_with fail;refine AP (S:=λw'=>w'.cell? ⟨w.heap.size,0,none⟩=some (.int .i64 T)/\w'.cell? ⟨w.heap.size,1,none⟩=some (.int .i64 H)/\w'.cell? ⟨w.heap.size,2,none⟩=some (.int .i64 F)) (by kernel_rfl) (⟨by go_simp,by go_simp,by go_simp⟩) (λaA=>?_);refine TY 0 (.pointer (some ⟨w.heap.size,0,none⟩)) rfl aA (TY 1 (.int .i64 T) rfl aA (TY 2 (.int .i64 (T+1)) rfl aA (TY 3 (.pointer (some ⟨w.heap.size,1,none⟩)) rfl aA (TY 4 (.int .i64 H) rfl aA (TY 5 (.int .i64 (1-H)) rfl aA (TY 6 (.pointer (some ⟨w.heap.size,2,none⟩)) rfl aA (TY 7 (.int .i64 F) rfl aA (TY 8 (.int .i64 S) rfl aA (TY 11 (.int .i64 L) rfl aA ?_)))))))));simp only[PS];refine RD 9 rfl (λK hK=>?_);refine LK (by rfl) 123 #[.int .i64 S] (by go_simp) (HH.o _) ?_
 rintro e w4 ⟨rfl,rfl⟩;refine⟨_,rfl,?_⟩;refine hK.o _ _ aA (λ_=>?_);clear hK K
 try simp only[PS]
 refine TY 10 (.int .i64 (F+Q)) rfl aA (TY 12 (.agg #[.int .i64 (T+1),.int .i64 (1-H),.int .i64 (F+Q),.int .i64 L]) rfl aA ?_);simp only[PS];refine RD 13 rfl (λK hK=>?_);go_simp;refine hK.o _ _ (⟨by go_simp,by go_simp,by go_simp⟩) (λaB=>?_);clear hK K
 try simp only[PS]
 refine DN ?_;go_wp2;refine AJ (v:=MV (T+1) (1-H) (F+Q) L) (by simp[results,results173,go_sem]) rfl ⟨rfl,?_⟩;exact aC.drew
theorem oU(base g:Nat)(v:Value)(os:List NM)(aD nm lf:Int)(n m:Nat)(aA:ByteArray)(w:World)(h:Wrt w base g v os aD nm lf (n:Int))(hb:base<=w.heap.size)(ht:aA.size<=100000)(hl:os.length+(NQ aA lf nm n m).length<=1000)(hm:n+m=56)(bI:1<=n)(bJ:n<=8)(bV:0<=aD)(bW:aD<=10000)(cE:0<=nm)(cF:nm<=1900000000):Calls prog 134 #[.pointer (some ⟨g,0,none⟩),.string aA] w λe w'=>(∃x,e=.returned x)/\∃v',Wrt w' base g v' (os++MG aD (NQ aA lf nm n m)) (aD+((NQ aA lf nm n m).length:Int)) (nm+((NQ aA lf nm n m).length:Int)) lf (n:Int)/\Below base w w'/\WK g w v w' v':=by
 have HC:=LE (λW=>Hq aA lf nm n m W (by omega) hm bI bJ (by omega) (by omega));obtain⟨aB,hcut⟩:∃aB,aB=NQ aA lf nm n m:=⟨_,rfl⟩;rw[<-hcut]at HC hl⊢;clear hcut;go_enter func134,ntmps134;go_wp2_with fail;refine AP (S:=λw'=>w'.cell? ⟨g,2,none⟩=some (.int .i64 nm)/\w'.cell? ⟨g,3,none⟩=some (.int .i64 lf)/\w'.cell? ⟨g,4,none⟩=some (.int .i64 (n:Int))) (by kernel_rfl) (⟨h.row.drew.x 2,h.row.drew.x 3,h.row.drew.x 4⟩) (λaC=>?_);refine TY 0 (.string aA) rfl aC (TY 1 (.pointer (some ⟨g,0,none⟩)) rfl aC (TY 2 (.pointer (some ⟨g,0,none⟩)) rfl aC (TY 3 (.pointer (some ⟨g,3,none⟩)) rfl aC (TY 4 (.int .i64 lf) rfl aC (TY 5 (.pointer (some ⟨g,0,none⟩)) rfl aC (TY 6 (.pointer (some ⟨g,0,none⟩)) rfl aC (TY 7 (.pointer (some ⟨g,2,none⟩)) rfl aC (TY 8 (.int .i64 nm) rfl aC (TY 9 (.pointer (some ⟨g,0,none⟩)) rfl aC (TY 10 (.pointer (some ⟨g,0,none⟩)) rfl aC (TY 11 (.pointer (some ⟨g,4,none⟩)) rfl aC ?_)))))))))))
 simp only[PS];refine TY 12 (.int .i64 (n:Int)) rfl aC (TY 15 (.int .i64 0) rfl aC ?_);simp only[PS];refine RD 13 rfl (λK hK=>?_);refine LK (by rfl) 181 #[.string aA,.int .i64 lf,.int .i64 nm,.int .i64 (n:Int)] (by go_simp) (HC.o _) ?_;rintro e w4 ⟨a4,c4,rfl,aR,aQ,aO⟩;refine⟨_,rfl,?_⟩;have aE:Below w.heap.size w w4:=(AB _ _).drew.j aO;have aH:=h.I aE;refine hK.o _ _ (⟨aH.row.x 2,aH.row.x 3,aH.row.x 4⟩) (λaG=>?_);clear hK K
 try simp only[PS]
 refine TY 14 (.int .i64 (aB.length:Int)) rfl aG ?_;simp only[PS];refine DN ?_;have aU:=LE aR;have aT:=LE aQ;have aW:=LE aH;have aN:=LE aE;have bQ:=aE.size;clear aR aQ aH aE aO aC aG;go_wp2_with fail;go_loopw [21] (λi wr=>∃j:Nat,j<=aB.length/\i=.int .i64 (j:Int)/\∃v',Wrt wr base g v' (os++MG aD (aB.take j)) (aD+(j:Int)) (nm+(j:Int)) lf (n:Int)/\Below base w wr/\WK g w4 v wr v') (λi _=>aB.length-(intOf i).toNat)
 case atStart =>
  refine⟨0,AH _,rfl,v,?_,aN.o.i hb,WK.start _ _ _⟩;rw[FE,Hb,EY];simpa using aW.o
 case round =>
  obtain⟨j,hj,rfl,v',hW,aK,aI⟩:=hrel
  by_cases aJ:j<aB.length
  ·have cI:=aI.size
   obtain⟨g4,rfl,bP⟩:=aU.o.resolve_left (by intro e;have:=BT List.length e;simp at this;rw[this]at aJ;simp at aJ);have b7:w.heap.size<=g4:=aT.o g4 (MI _ _ _ (by omega));have cA:=h.row.lt;have aF:=bP.wk aI (by omega) (λe=>by have:=(h.own.lt g4 e.symm).2;omega);have aZ:=aF.cell j (.string (aB.getD j empty)) (by simp[aJ,List.getD]);obtain⟨pj,aL⟩:∃pj,pj=aB.getD j empty:=⟨_,rfl⟩;rw[<-aL]at aZ;have bC:=aF.lt;have bF:(j:Int)<(aB.length:Int):=by omega
   have cC:(0:Int)<=(j:Int):=by omega
   have bU:base<=wr.heap.size:=by omega
   have HP:=LE (tk base g v' (os++MG aD (aB.take j)) (aD+(j:Int)) (nm+(j:Int)) lf (n:Int) pj wr hW bU (by simp[QC];omega) (by omega) (by omega) (by omega) (by omega));have aS:=LE aK;have aV:=LE aL;have cB:=hW.row.lt;have aX:=LE aI;clear hW aK aF aI aL;go_wp2_with (go_at_call 182;refine HP.o.i ?_;rintro e w5 ⟨⟨x,rfl⟩,v5,aY,aP,aM⟩);have cH:=aP.size;have bT:os++MG aD (aB.take (j+1))=os++MG aD (aB.take j)++[(false,aD+(j:Int),pj)]:=by rw[XL aB j empty aJ,qq,<-aV.o,BG,BC,show min j aB.length=j by omega]
   refine⟨⟨j+1,by omega,by go_num,v5,?_,aS.o.j aP,aX.o.j aM⟩,by simp[intOf];omega⟩;rw[bT];have e1:aD+((j+1:Nat):Int)=aD+(j:Int)+1:=by omega
   have e2:nm+((j+1:Nat):Int)=nm+(j:Int)+1:=by omega
   rw[e1,e2];exact aY
  have bE:j=aB.length:=by omega
  subst bE;go_wp2_with fail;go_end0;rw[DC]at hW;exact⟨⟨_,rfl⟩,v',hW,aK,(⟨bQ,λ_ h=>.inl h,λb hb _ _=>aN.o.block b hb⟩:WK g w v w4 v).j aI⟩
theorem si(t h f l:Int)(ht:0<=t)(w:World):Calls prog 209 #[MV t h f l] w λe w'=>e=.returned (.int .i64 (t % 2))/\Below w.heap.size w w':=by
 go_enter func209,ntmps209;go_wp2;go_ret;exact⟨rfl,LG _ _⟩
theorem vZ(base g:Nat)(v:Value)(os:List NM)(b7 nm lf wd t hh f l:Int)(w:World)(h:Wrt w base g v os b7 nm lf wd)(hb:base<=w.heap.size)(hl:os.length<=1000)(ht:0<=t):Calls prog 176 #[.pointer (some ⟨g,0,none⟩),MV t hh f l] w λe w'=>(∃x,e=.returned x)/\(∃v',Wrt w' base g v' (os++[(false,t % 2,ON t hh f l wd)]) b7 nm lf wd)/\Below base w w':=by
 obtain⟨i0,cH,cJ,cL,cM⟩:=UP og;have HI:=LE (AG cH (AG cJ (AG cL cM)));clear cH cJ cL cM;obtain⟨va,vc,rfl⟩:=h.sl;have bJ:=LE (λw'=>oW t hh f l wd w');obtain⟨rp,cI⟩:∃rp,rp=ON t hh f l wd:=⟨_,rfl⟩;rw[<-cI]at bJ⊢;clear cI;have lg:=h.row.lt;obtain⟨wb,bI⟩:∃wb,wb=w.alloc (.cells #[.int .i64 t,.int .i64 hh,.int .i64 f,.int .i64 l] 45):=⟨_,rfl⟩;have bF:Below w.heap.size w wb:=by rw[bI];exact LG _ _
 have cU:wb.heap.size=w.heap.size+1:=by rw[bI];simp
 have aQ:Row wb w.heap.size [.int .i64 t,.int .i64 hh,.int .i64 f,.int .i64 l]:=by rw[bI];exact ME w _ _
 have aV:=h.I bF;have cV:=aV.row.x 0;go_enter func176,ntmps176;go_wp2_with fail;rw[<-bI];clear bI;refine AP (S:=λw'=>w'.cell? ⟨w.heap.size,0,none⟩=some (.int .i64 t)/\w'.cell? ⟨w.heap.size,1,none⟩=some (.int .i64 hh)/\w'.cell? ⟨w.heap.size,2,none⟩=some (.int .i64 f)/\w'.cell? ⟨w.heap.size,3,none⟩=some (.int .i64 l)/\w'.cell? ⟨g,4,none⟩=some (.int .i64 wd)) (by kernel_rfl) (⟨aQ.drew.x 0,aQ.drew.x 1,aQ.drew.x 2,aQ.drew.x 3,aV.row.drew.x 4⟩) (λaN=>?_);refine TY 0 (.pointer (some ⟨g,0,none⟩)) rfl aN (TY 1 (.pointer (some ⟨g,0,none⟩)) rfl aN (TY 2 (.pointer (some ⟨g,0,none⟩)) rfl aN (TY 3 (.pointer (some ⟨g,0,none⟩)) rfl aN (TY 5 (.agg #[.int .i64 t,.int .i64 hh,.int .i64 f,.int .i64 l]) rfl aN (TY 7 (.agg #[.int .i64 t,.int .i64 hh,.int .i64 f,.int .i64 l]) rfl aN (TY 8 (.pointer (some ⟨g,0,none⟩)) rfl aN (TY 9 (.pointer (some ⟨g,0,none⟩)) rfl aN (TY 10 (.pointer (some ⟨g,4,none⟩)) rfl aN (TY 11 (.int .i64 wd) rfl aN ?_)))))))))
 simp only[PS];refine EZ (rs:=[4,6]) (by kernel_rfl) (by simp) ?_;refine CY rfl (λK hK=>?_) (CY rfl (λK hK=>?_) EX)
 focus
  go_simp;refine hK.o _ _ aN (λ_=>?_);clear hK K
  try simp only[PS]
  refine RD 6 rfl (λK hK=>?_);refine LK (by rfl) _ _ (by go_simp) (si t hh f l ht _) ?_;rintro e w4 ⟨rfl,bV⟩;refine⟨_,rfl,?_⟩;have aG:Below wb.heap.size wb w4:=(AB _ _).drew.j bV;have bC:=aV.I aG;have aP:=aQ.I aG;have cT:=bC.row.x 0;refine hK.o _ _ (⟨aP.x 0,aP.x 1,aP.x 2,aP.x 3,bC.row.x 4⟩) (λcP=>?_);clear hK K
  try simp only[PS]
  refine RD 12 rfl (λK hK=>?_);refine LK (by rfl) 216 #[MV t hh f l,.int .i64 wd] (by go_simp) (bJ.o _) ?_;rintro e w5 ⟨rfl,bE⟩;refine⟨_,rfl,?_⟩;have aC:Below wb.heap.size wb w5:=aG.j (bE.i aG.size);have aK:=aV.I aC;have aL:=aQ.I aC;have cO:=aK.row.x 0;have cN:=aK.row.lt;have aO:=aK.I ((AB _ _).alloc (AA _) (.cells #[.bool false,.int .i64 (t % 2),.string rp] 122));have aH:=aL.alloc (.cells #[.bool false,.int .i64 (t % 2),.string rp] 122);refine hK.o _ _ (⟨aL.x 0,aL.x 1,aL.x 2,aL.x 3,aK.row.x 4⟩) (λbQ=>?_);clear hK K
  try simp only[PS]
  refine TY 13 (.agg #[.bool false,.int .i64 (t % 2),.string rp]) rfl bQ ?_;simp only[PS];refine RD 14 rfl (λK hK=>?_);go_simp;refine hK.o _ _ (⟨aH.x 0,aH.x 1,aH.x 2,aH.x 3,aO.row.x 4⟩) (λcQ=>?_);clear hK K
  try simp only[PS]
  refine RD 15 rfl (λK hK=>?_);refine QO _ (by rfl) _ _ _ (by rfl) base underlying116 HI.o rfl (by omega) (.slice va os.length vc) os.length _ (by rfl) aO.own ⟨w5.heap.size,0,none⟩ 1 1 [.bool false,.int .i64 (t % 2),.string rp] (by rfl) rfl (World.news_of_block (AY w5 _)) (WD _ _ _) (by have:=aC.size;simp<;>omega) (w5.heap.size+1) (by simp) ?_;intro g9 aM w9 aD aA aF aW;have aB:=db (W:=w) (x:=(false,t % 2,rp)) aK (by have:=aC.size;omega) ((bF.i hb).j (aC.i (by omega))) aD aA aF;have aE:=aH.z aA (λe=>by have:=(h.own.lt w.heap.size e.symm).2;omega);have aI:=LE aB;have q9:=aB.1.x 0;have aX:=aB.1.x 4;have r9:=aB.1.q 0;have bW:=aB.1.lt;have bP:w.heap.size≠g:=by omega
  clear aD aA aF aB;refine hK.o _ _ (⟨aE.x 0,aE.x 1,aE.x 2,aE.x 3,aX⟩) (λaZ=>?_);clear hK K
  try simp only[PS]
  refine TY 16 (.pointer (some ⟨g,0,none⟩)) rfl aZ (TY 17 (.pointer (some ⟨g,0,none⟩)) rfl aZ ?_);simp only[PS];refine RD 18 rfl (λK hK=>?_);go_simp;have aJ:=aE.other ⟨g,0,none⟩ (by show g≠w.heap.size;omega) (.slice (some ⟨g9,0,none⟩) (os.length+1) aM);refine hK.o _ _ (⟨aJ.x 0,aJ.x 1,aJ.x 2,aJ.x 3,aI.o.2.1.row.x 4⟩) (λcS=>?_)
 rotate_left
 focus
  refine LK (by rfl) _ _ (by go_simp) (si t hh f l ht _) ?_;rintro e w4 ⟨rfl,bV⟩;refine⟨_,rfl,?_⟩;have aG:Below wb.heap.size wb w4:=(AB _ _).drew.j bV;have bC:=aV.I aG;have aP:=aQ.I aG;have cT:=bC.row.x 0;refine hK.o _ _ (⟨aP.x 0,aP.x 1,aP.x 2,aP.x 3,bC.row.x 4⟩) (λbT=>?_);clear hK K
  try simp only[PS]
  refine EZ (rs:=[4,12]) (by kernel_rfl) (by simp) ?_;refine CY rfl (λK hK=>?_) (CY rfl (λK hK=>?_) EX)
  focus
   go_simp;refine hK.o _ _ bT (λ_=>?_);clear hK K
   try simp only[PS]
   refine RD 12 rfl (λK hK=>?_);refine LK (by rfl) 216 #[MV t hh f l,.int .i64 wd] (by go_simp) (bJ.o _) ?_;rintro e w5 ⟨rfl,bE⟩;refine⟨_,rfl,?_⟩;have aC:Below wb.heap.size wb w5:=aG.j (bE.i aG.size);have aK:=aV.I aC;have aL:=aQ.I aC;have cO:=aK.row.x 0;have cN:=aK.row.lt;have aO:=aK.I ((AB _ _).alloc (AA _) (.cells #[.bool false,.int .i64 (t % 2),.string rp] 122));have aH:=aL.alloc (.cells #[.bool false,.int .i64 (t % 2),.string rp] 122);refine hK.o _ _ (⟨aL.x 0,aL.x 1,aL.x 2,aL.x 3,aK.row.x 4⟩) (λbU=>?_);clear hK K
   try simp only[PS]
   refine TY 13 (.agg #[.bool false,.int .i64 (t % 2),.string rp]) rfl bU ?_;simp only[PS];refine RD 14 rfl (λK hK=>?_);go_simp;refine hK.o _ _ (⟨aH.x 0,aH.x 1,aH.x 2,aH.x 3,aO.row.x 4⟩) (λcA=>?_);clear hK K
   try simp only[PS]
   refine RD 15 rfl (λK hK=>?_);refine QO _ (by rfl) _ _ _ (by rfl) base underlying116 HI.o rfl (by omega) (.slice va os.length vc) os.length _ (by rfl) aO.own ⟨w5.heap.size,0,none⟩ 1 1 [.bool false,.int .i64 (t % 2),.string rp] (by rfl) rfl (World.news_of_block (AY w5 _)) (WD _ _ _) (by have:=aC.size;simp<;>omega) (w5.heap.size+1) (by simp) ?_;intro g9 aM w9 aD aA aF aW;have aB:=db (W:=w) (x:=(false,t % 2,rp)) aK (by have:=aC.size;omega) ((bF.i hb).j (aC.i (by omega))) aD aA aF;have aE:=aH.z aA (λe=>by have:=(h.own.lt w.heap.size e.symm).2;omega);have aI:=LE aB;have q9:=aB.1.x 0;have aX:=aB.1.x 4;have r9:=aB.1.q 0;have bW:=aB.1.lt;have bP:w.heap.size≠g:=by omega
   clear aD aA aF aB;refine hK.o _ _ (⟨aE.x 0,aE.x 1,aE.x 2,aE.x 3,aX⟩) (λaR=>?_);clear hK K
   try simp only[PS]
   refine TY 16 (.pointer (some ⟨g,0,none⟩)) rfl aR (TY 17 (.pointer (some ⟨g,0,none⟩)) rfl aR ?_);simp only[PS];refine RD 18 rfl (λK hK=>?_);go_simp;have aJ:=aE.other ⟨g,0,none⟩ (by show g≠w.heap.size;omega) (.slice (some ⟨g9,0,none⟩) (os.length+1) aM);refine hK.o _ _ (⟨aJ.x 0,aJ.x 1,aJ.x 2,aJ.x 3,aI.o.2.1.row.x 4⟩) (λcB=>?_)
  rotate_left
  focus
   refine LK (by rfl) 216 #[MV t hh f l,.int .i64 wd] (by go_simp) (bJ.o _) ?_;rintro e w5 ⟨rfl,bE⟩;refine⟨_,rfl,?_⟩;have aC:Below wb.heap.size wb w5:=aG.j (bE.i aG.size);have aK:=aV.I aC;have aL:=aQ.I aC;have cO:=aK.row.x 0;have cN:=aK.row.lt;have aO:=aK.I ((AB _ _).alloc (AA _) (.cells #[.bool false,.int .i64 (t % 2),.string rp] 122));have aH:=aL.alloc (.cells #[.bool false,.int .i64 (t % 2),.string rp] 122);refine hK.o _ _ (⟨aL.x 0,aL.x 1,aL.x 2,aL.x 3,aK.row.x 4⟩) (λaS=>?_);clear hK K
   try simp only[PS]
   refine TY 13 (.agg #[.bool false,.int .i64 (t % 2),.string rp]) rfl aS ?_;simp only[PS];refine EZ (rs:=[4,14]) (by kernel_rfl) (by simp) ?_;refine CY rfl (λK hK=>?_) (CY rfl (λK hK=>?_) EX)
   focus
    go_simp;refine hK.o _ _ aS (λ_=>?_);clear hK K
    try simp only[PS]
    refine RD 14 rfl (λK hK=>?_);go_simp;refine hK.o _ _ (⟨aH.x 0,aH.x 1,aH.x 2,aH.x 3,aO.row.x 4⟩) (λcC=>?_);clear hK K
    try simp only[PS]
    refine RD 15 rfl (λK hK=>?_);refine QO _ (by rfl) _ _ _ (by rfl) base underlying116 HI.o rfl (by omega) (.slice va os.length vc) os.length _ (by rfl) aO.own ⟨w5.heap.size,0,none⟩ 1 1 [.bool false,.int .i64 (t % 2),.string rp] (by rfl) rfl (World.news_of_block (AY w5 _)) (WD _ _ _) (by have:=aC.size;simp<;>omega) (w5.heap.size+1) (by simp) ?_;intro g9 aM w9 aD aA aF aW;have aB:=db (W:=w) (x:=(false,t % 2,rp)) aK (by have:=aC.size;omega) ((bF.i hb).j (aC.i (by omega))) aD aA aF;have aE:=aH.z aA (λe=>by have:=(h.own.lt w.heap.size e.symm).2;omega);have aI:=LE aB;have q9:=aB.1.x 0;have aX:=aB.1.x 4;have r9:=aB.1.q 0;have bW:=aB.1.lt;have bP:w.heap.size≠g:=by omega
    clear aD aA aF aB;refine hK.o _ _ (⟨aE.x 0,aE.x 1,aE.x 2,aE.x 3,aX⟩) (λaT=>?_);clear hK K
    try simp only[PS]
    refine TY 16 (.pointer (some ⟨g,0,none⟩)) rfl aT (TY 17 (.pointer (some ⟨g,0,none⟩)) rfl aT ?_);simp only[PS];refine RD 18 rfl (λK hK=>?_);go_simp;have aJ:=aE.other ⟨g,0,none⟩ (by show g≠w.heap.size;omega) (.slice (some ⟨g9,0,none⟩) (os.length+1) aM);refine hK.o _ _ (⟨aJ.x 0,aJ.x 1,aJ.x 2,aJ.x 3,aI.o.2.1.row.x 4⟩) (λcE=>?_)
   rotate_left
   focus
    go_simp;refine hK.o _ _ (⟨aH.x 0,aH.x 1,aH.x 2,aH.x 3,aO.row.x 4⟩) (λaY=>?_);clear hK K
    try simp only[PS]
    refine RD 4 rfl (λK hK=>?_);go_simp;refine hK.o _ _ aY (λ_=>?_);clear hK K
    try simp only[PS]
    refine RD 15 rfl (λK hK=>?_);refine QO _ (by rfl) _ _ _ (by rfl) base underlying116 HI.o rfl (by omega) (.slice va os.length vc) os.length _ (by rfl) aO.own ⟨w5.heap.size,0,none⟩ 1 1 [.bool false,.int .i64 (t % 2),.string rp] (by rfl) rfl (World.news_of_block (AY w5 _)) (WD _ _ _) (by have:=aC.size;simp<;>omega) (w5.heap.size+1) (by simp) ?_;intro g9 aM w9 aD aA aF aW;have aB:=db (W:=w) (x:=(false,t % 2,rp)) aK (by have:=aC.size;omega) ((bF.i hb).j (aC.i (by omega))) aD aA aF;have aE:=aH.z aA (λe=>by have:=(h.own.lt w.heap.size e.symm).2;omega);have aI:=LE aB;have q9:=aB.1.x 0;have aX:=aB.1.x 4;have r9:=aB.1.q 0;have bW:=aB.1.lt;have bP:w.heap.size≠g:=by omega
    clear aD aA aF aB;refine hK.o _ _ (⟨aE.x 0,aE.x 1,aE.x 2,aE.x 3,aX⟩) (λaU=>?_);clear hK K
    try simp only[PS]
    refine TY 16 (.pointer (some ⟨g,0,none⟩)) rfl aU (TY 17 (.pointer (some ⟨g,0,none⟩)) rfl aU ?_);simp only[PS];refine RD 18 rfl (λK hK=>?_);go_simp;have aJ:=aE.other ⟨g,0,none⟩ (by show g≠w.heap.size;omega) (.slice (some ⟨g9,0,none⟩) (os.length+1) aM);refine hK.o _ _ (⟨aJ.x 0,aJ.x 1,aJ.x 2,aJ.x 3,aI.o.2.1.row.x 4⟩) (λcF=>?_)
   rotate_left
  rotate_left 2
 rotate_left 3
 all_goals
  clear hK K
  try simp only[PS]
  refine DN ?_;go_end0;exact⟨⟨_,rfl⟩,⟨_,aI.o.2.1⟩,aI.o.2.2.2⟩
theorem zW(base g:Nat)(v:Value)(os:List NM)(aA nm lf wd:Int)(w:World)(h:Wrt w base g v os aA nm lf wd)(hb:base<=w.heap.size)(hl:os.length<=1000)(aD:0<=aA)(aE:aA<=100000)(aG:0<=nm)(aH:nm<=2000000000):Calls prog 174 #[.pointer (some ⟨g,0,none⟩)] w λe w'=>e=.returned (.func (.func 214) #[] #[.pointer (some ⟨w.heap.size,0,none⟩)])/\Row w' w.heap.size [.pointer (some ⟨g,0,none⟩)]/\(∃v',Wrt w' base g v' (os++[(false,aA,MP 3 lf nm empty wd)]) (aA+1) (nm+1) lf wd/\∀k,v'.ownBlock=some k->k≠w.heap.size)/\Below base w w':=by
 have aI:∀(fn:Fn) (first cap:Array Value) (w:World),(Instr.makeFunc fn first cap).run prog w=.ok (.func fn first cap) w:=λ_ _ _ _=>rfl
 have aB:∀o,Below w.heap.size w (w.alloc o):=λo=>LG _ _
 have HN:=LE (ue base g v os aA nm lf wd _ (h.I (aB (.cells #[.pointer (some ⟨g,0,none⟩)] 186))) (AL hb (aB _).size) hl aD aE aG aH);go_enter func174,ntmps174;go_wp2_with (go_at_call 177;refine HN.o.i ?_;rintro e w1 ⟨⟨x,rfl⟩,v',hW,aF,aC⟩);go_ret;have lg:=h.row.lt;refine⟨rfl,(ME w #[.pointer (some ⟨g,0,none⟩)] 186).wk aC (by omega) (λe=>by have:=(h.own.lt w.heap.size e.symm).2;omega),⟨v',hW,λk hk e=>?_⟩,((aB _).i hb).j aF⟩;subst e;rcases aC.own _ hk with h1|h1
 ·have:=(h.own.lt _ h1).2;omega
 rw[AU]at h1;omega
theorem Dc(base g B:Nat)(v:Value)(os:List NM)(aB nm lf:Int)(n m:Nat)(p:Option Addr)(b:List Ch)(cc:Nat)(w:World)(h:Wrt w base g v os aB nm lf (n:Int))(hB:Row w B [.pointer (some ⟨g,0,none⟩)])(aG:B≠g)(aH:some B≠v.ownBlock)(aR:Chs w p b)(aP:b.length<=1048576)(aQ:∀x∈b,x.1.size<=1048576/\x.2.1.size<=1048576)(hb:base<=w.heap.size)(hl:os.length+(NQ (LX b) lf nm n m).length<=1000)(hm:n+m=56)(aU:1<=n)(aV:n<=8)(aL:0<=aB)(aM:aB<=10000)(aS:0<=nm)(aT:nm<=1900000000):Calls prog 214 #[.slice p b.length cc,.pointer (some ⟨B,0,none⟩)] w λe w'=>(∃x,e=.returned x)/\∃v',Wrt w' base g v' (os++MG aB (NQ (LX b) lf nm n m)) (aB+((NQ (LX b) lf nm n m).length:Int)) (nm+((NQ (LX b) lf nm n m).length:Int)) lf (n:Int)/\Below base w w'/\WK g w v w' v':=by
 have HF:=LE (λW (hW:Chs W p b)=>nr p b cc W hW aP aQ);have hO:=XT b;go_enter func214,ntmps214;go_wp2_with fail;refine AP (S:=λw'=>w'.cell? ⟨B,0,none⟩=some (.pointer (some ⟨g,0,none⟩))) (by kernel_rfl) (hB.drew.x 0) (λaE=>?_);refine TY 0 (.pointer (some ⟨g,0,none⟩)) rfl aE (TY 1 (.slice p b.length cc) rfl aE ?_);simp only[PS];refine RD 2 rfl (λK hK=>?_);refine LK (by rfl) 131 #[.slice p b.length cc] (by go_simp) (HF.o _ (aR.I (AB _ _).drew)) ?_;rintro e w4 ⟨rfl,aN⟩;refine⟨_,rfl,?_⟩;have aA:Below w.heap.size w w4:=(AB _ _).drew.j aN;have aD:=hB.I aA;refine hK.o _ _ (aD.x 0) (λaI=>?_);clear hK K
 try simp only[PS]
 refine RD 3 rfl (λK hK=>?_);refine LK (by rfl) 134 #[.pointer (some ⟨g,0,none⟩),.string (LX b)] (by go_simp) (oU base g v os aB nm lf n m _ _ (h.I aA) (AL hb aA.size) (by omega) hl hm aU aV aL aM aS aT) ?_;rintro e w5 ⟨⟨x,rfl⟩,v',aK,aO,aC⟩;refine⟨_,rfl,?_⟩;have aF:=aD.wk aC aG aH;refine hK.o _ _ (aF.x 0) (λaJ=>?_);clear hK K
 try simp only[PS]
 refine DN ?_;go_end0;exact⟨⟨_,rfl⟩,v',aK,(aA.i hb).j aO,(⟨aA.size,λ_ h=>.inl h,λb hb _ _=>aA.block b hb⟩:WK g w v w4 v).j aC⟩
