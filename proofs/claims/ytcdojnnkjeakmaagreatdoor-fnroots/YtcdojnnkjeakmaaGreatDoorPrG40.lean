import Derived.Test.YtcdojnnkjeakmaaGreatDoorPrPfK
import Derived.Test.YtcdojnnkjeakmaaGreatDoorPrFnA
import Derived.Test.YtcdojnnkjeakmaaGreatDoorPrWoB
import Derived.Test.YtcdojnnkjeakmaaGreatDoorPrG39
import Derived.Test.YtcdojnnkjeakmaaGreatDoorPrG52
import Derived.Test.YtcdojnnkjeakmaaGreatDoorPrG37
set_option maxHeartbeats 16000000
set_option maxRecDepth 8000
set_option linter.unusedVariables false
set_option linter.unusedSimpArgs false
namespace Go.Proofs.YtcdojnnkjeakmaaGreatDoor
open Go.RowKit
theorem Ops.take {w:World} {a:Option Addr} {rs:List (Bool×Int×ByteArray)} (h:Ops w a rs) (m:Nat):Ops w a (rs.take m):=by
 rcases h with h | ⟨b,o,h1,h2,h3⟩
 ·exact .inl (by rw [h];simp)
 ·refine .inr ⟨b,o,h1,h2,fun i hi=>?_⟩
  have aA:i<rs.length/\i<m:=by simp at hi;omega
  have e:(rs.take m).getD i (false,0,ByteArray.empty)=rs.getD i (false,0,ByteArray.empty):=by simp [List.getD,List.getElem?_take,aA.2]
  rw [e];exact h3 i aA.1
theorem Row.lowB {w w':World} {R base:Nat} {cs:List Value} (h:Row w R cs) (hb:Below base w w') (hR:R<base):Row w' R cs :=
 ⟨Nat.lt_of_lt_of_le h.lt hb.size,fun i v hv=>(hb.cell (p:=⟨R,i,none⟩) hR).trans (h.cell i v hv),fun i hi=>(hb.frozen (p:=⟨R,i,none⟩) hR).trans (h.froz i hi)⟩
theorem OwnS.setp {w:World} {a:Option Addr} {cs:List Value} (h:OwnS w a cs) (p:Addr) (hp:∀ g,a=some ⟨g,0,none⟩->cs≠[]->p.block≠g) (v:Value):OwnS (w.setCell p v) a cs:=by
 rcases h with h | ⟨g,h1,h2⟩
 ·exact .inl h
 ·by_cases hc:cs=[]
  ·exact .inl hc
  ·exact .inr ⟨g,h1,h2.other p (hp g h1 hc) v⟩
theorem QPH (ss:List ByteArray):q95 (ss.map zFD)=ss:=by
 unfold q95;rw [List.map_map];exact List.map_id'' (fun s=>ZXs s) ss
theorem ZvU (ws:List (Int×ByteArray)):XbJ (ZiU ws)=ws:=by
 unfold XbJ ZiU;rw [List.map_map];exact List.map_id'' (fun x=>by show (x.1,strOfNums (zFD x.2))=x;rw [ZXs]) ws
theorem DV.form {w:World} {base X g n:Nat} {v:Value} {ps:List (List Int)} {hs:List (Int×List Int)} (h:DV w base X g n v ps hs) (aA:∀ p∈hs,p.2.length=64):∃ a c,v=.slice a hs.length c/\Hld w a hs:=by
 rcases yUO h.own with ⟨e,h0⟩ | ⟨g,c,e,_,_,hr⟩
 ·exact ⟨_,_,by rw [e,h0],.inl (List.eq_nil_of_length_eq_zero h0)⟩
 ·exact ⟨_,_,e,hr.hld aA⟩
theorem k38:∀ (l:List (Bool×Int×ByteArray)) (d:List ByteArray×List (Int×ByteArray)),(JKX l d).1.length=d.1.length
 | [],_=>rfl
 | o::r,d=>by rw [JKX,k38 r,zKN]
theorem XJb:∀ (l:List (Bool×Int×ByteArray)) (d:List ByteArray×List (Int×ByteArray)),vlG d.1 d.2=true->vlG (JKX l d).1 (JKX l d).2=true
 | [],_,h=>h
 | o::r,d,h=>XJb r _ (ZO0 d o h)
theorem ZgY (base X g n:Nat) (v:Value) (ss:List ByteArray) (ws:List (Int×ByteArray)) (s:Bool) (aA:Int) (d:ByteArray) (w:World) (h:DV w base X g n v (ss.map zFD) (ZiU ws)) (hn:ss.length=n) (aB:vlG ss ws=true) (hd:d.size<=1048576) (aC:base<=w.heap.size) :
  Calls Tryz.prog 34 #[.pointer (some ⟨X,0,none⟩),.agg #[.bool s,.int .i64 aA,.string d]] w fun e w'=>(∃ x,e=.returned x)/\(∃ v',DV w' base X g n v' ((opD (ss,ws) (s,aA,d)).1.map zFD) (ZiU (opD (ss,ws) (s,aA,d)).2))/\Below base w w':=by
 cases s with
 | true =>
  rw [zSd];refine (xld base X g n v ss ws aA d w h hn aB aC).mono ?_;rintro e w' ⟨h1,h2,h3⟩;exact ⟨h1,⟨_,h2⟩,h3⟩
 | false =>
  cases hc:wOk ss.length (aA,d) with
  | false =>
   rw [zuS (ss,ws) (aA,d) (.inl hc)];refine (jKn base X g n v ss ws aA d w h hn aB hd (.inl hc) aC).mono ?_;rintro e w' ⟨h1,h2,h3⟩;exact ⟨h1,⟨_,h2⟩,h3⟩
  | true =>
   by_cases hl:ws.length<300
   ·rw [zhd (ss,ws) (aA,d) hc hl]
    exact zph base X g n v ss ws aA d w h hn aB hc hl aC
   ·rw [zuS (ss,ws) (aA,d) (.inr hl)]
    refine (jKn base X g n v ss ws aA d w h hn aB hd (.inr hl) aC).mono ?_;rintro e w' ⟨h1,h2,h3⟩;exact ⟨h1,⟨_,h2⟩,h3⟩
def pfN (z:Int) (n:Nat):Nat:=min z.toNat n
theorem k1Q (z:Int) (n:Nat):pfN z n<=n:=Nat.min_le_right _ _
set_option maxRecDepth 100000 in
theorem jIE (a:Option Addr) (ss:List ByteArray) (c:Nat) (a':Option Addr) (ws:List (Int×ByteArray)) (c':Nat) (f:Option Addr) (rs:List (Bool×Int×ByteArray)) (cf:Nat) (z:Int) (m:Nat) (w:World) (h:Strs w a ss) (h':Wrs w a' ws) (hz:Ops w f rs) (eC:rs.length<=cf) (dZ:rs.length<=1048576) (bY:pfN z rs.length=m) (dK:∀ x∈rs,x.2.2.size<=1048576) (aS:vlG ss ws=true) :
  Calls Tryz.prog 10 #[Zoj a ss.length c a' ws.length c',.slice f rs.length cf,.int .i64 z] w fun e w'=>∃ a1 c1 aB aJ,e=.returned (Zoj a1 (JKX (rs.take (m)) (ss,ws)).1.length c1 aB (JKX (rs.take (m)) (ss,ws)).2.length aJ)/\OwnD w' a1 (JKX (rs.take (m)) (ss,ws)).1 aB (JKX (rs.take (m)) (ss,ws)).2/\(∀ g,blk a1 (JKX (rs.take (m)) (ss,ws)).1.length=some g->w.heap.size<=g)/\(∀ g,blk aB (JKX (rs.take (m)) (ss,ws)).2.length=some g->w.heap.size<=g)/\Below w.heap.size w w':=by
 obtain ⟨⟨dR,b7,dN⟩,cC,hw⟩:=q67 aS
 have bQ:∀ o1 o2,Below w.heap.size w ((w.alloc o1).alloc o2):=fun o1 o2=>((Below.refl _ _).alloc (Nat.le_refl _) _).alloc (by simp) _
 have eI:m<=rs.length:=by rw [<-bY];exact k1Q _ _
 obtain ⟨RS,aN⟩:∃ RS,Hid (RS=rs.take (m)):=⟨_,hid rfl⟩;have aC:RS.length=m:=by rw [aN.out];simp;omega
 have cP:Ops w f RS:=by rw [aN.out];exact hz.take (m)
 have cY:Hid (∀ x∈RS,x.2.2.size<=1048576):=fun x hx=>dK x (by rw [aN.out] at hx;exact List.mem_of_mem_take hx)
 rw [<-aN.out];obtain ⟨aH,aD⟩:∃ aH,Hid (aH=JKX RS (ss,ws)):=⟨_,hid rfl⟩;rw [<-aD.out];go_enter Tryz.func10,Tryz.ntmps10;go_wp2_with fail;refine (jU6 a ss c a' ws c' _ (h.below (bQ _ _)) (h'.below (bQ _ _)) (by omega) (by omega) (fun s hs=>by have:=cC s hs;omega) (fun x hx=>by have:=of_decide_eq_true (hw x hx);omega)).mono ?_;rw [aS];rintro e w1 ⟨rfl,aP⟩;have cL:=(bQ _ _).trans (aP.mono (by simp;omega));obtain ⟨q1,q2⟩:=y6s aP;have rR:=(kR4 (w.alloc (.cells #[.slice a ss.length c,.slice a' ws.length c'] 31)) #[.slice none 0 0,.slice none 0 0] 31 (w.heap.size+1) (by simp)).below aP;have aF:=hid rR;have aL:=hid cL;clear rR aP cL;go_wp2_with fail;refine (Xt0 a ss c a' ws c' _ (h.below aL.out) (h'.below aL.out) b7 dN (fun s hs=>by have:=cC s hs;omega) (fun x hx=>by have:=of_decide_eq_true (hw x hx);omega)).mono ?_;rintro e w2 ⟨g,v,rfl,bW,aA,hg,bI⟩;clear q1 q2;have aI:=hid (aF.out.below bI);have aV:Hid (w.heap.size+1+1<=g):=by have:=aF.out.lt;show _<=_;omega
 have bZ:=hid (Below.then aL.out (Nat.le_refl _) bI);have dV:g<w2.heap.size:=bW.lt;have eJ:=aV.out;rw [<-qOd] at aA
 have aX:∀ k,v.ownBlock=some k->g+1<=k/\k<w2.heap.size:=fun k hk=>aA.lt k hk
 have cH:DV (w2.alloc (.cells #[.slice (some ⟨g,0,none⟩) ss.length ss.length,v] 72)) (w.heap.size+1+1) w2.heap.size g ss.length v (ss.map zFD) (ZiU ws) :=
  ⟨xER _ _ _,bW.below (zE5 _ _),(jcb aA (zE5 _ _)).mono (by omega),fun e=>by have:=aX _ e;omega,fun e=>by have:=aX _ e;omega,by omega,by omega,by omega⟩
 have aE:w.heap.size+1+1<=(w2.alloc (.cells #[.slice (some ⟨g,0,none⟩) ss.length ss.length,v] 72)).heap.size:=by simp;omega
 have aK:=hid cH;have aO:=hid (aI.out.alloc (.cells #[.slice (some ⟨g,0,none⟩) ss.length ss.length,v] 72));have aM:=hid (Below.then bZ.out (Nat.le_refl _) (zE5 w2 (.cells #[.slice (some ⟨g,0,none⟩) ss.length ss.length,v] 72)))
 obtain ⟨av,cv,hv⟩:∃ a c,v=.slice a ws.length c:=by
  rw [<-qOd];rcases yUO aA with ⟨e,h0⟩ | ⟨g,c,e,_⟩
  ·exact ⟨_,_,by rw [e,h0]⟩
  ·exact ⟨_,_,e⟩
 subst hv;have dE:=hid aS;clear cH bW aA bI aL aF bZ aI aX;go_upto_region 4 with fail;obtain ⟨wq,bC⟩:∃ wq,wq=w2.alloc (.cells #[.slice (some ⟨g,0,none⟩) ss.length ss.length,.slice av ws.length cv] 72):=⟨_,rfl⟩;rw [<-bC] at aK aO aM aE ⊢;go_cut [22,23,24] from 16 to 24 (fun sv nv iv wx=>sv=.slice f m cf/\nv=.int .i64 (m:Int)/\iv=.int .i64 0/\wx=wq)
 case first =>
  clear aK aO aM aE cP bC;unfold pfN at bY;have dQ:¬ ((cf:Int)<(m:Int)):=by omega
  by_cases h0:z<0
  ·obtain rfl:m=0:=by omega
   go_wp2_with fail;go_meet;exact ⟨by first | rfl | (congr 1;omega),by first | rfl | (congr 1;omega),rfl,rfl⟩
  ·have eD:0<=z:=by omega
   by_cases h1:z<(rs.length:Int)
   ·obtain ⟨zn,rfl⟩:∃ zn:Nat,z=(zn:Int):=⟨z.toNat,by omega⟩
    obtain rfl:m=zn:=by omega
    go_wp2_with fail;go_meet;exact ⟨by first | rfl | (congr 1;omega),by first | rfl | (congr 1;omega),rfl,rfl⟩
   ·obtain rfl:m=rs.length:=by omega
    by_cases h2:z=(rs.length:Int)
    ·subst h2
     go_wp2_with fail;go_meet;exact ⟨by first | rfl | (congr 1;omega),by first | rfl | (congr 1;omega),rfl,rfl⟩
    ·have eL:(rs.length:Int)<z:=by omega
     go_wp2_with fail;go_meet;exact ⟨by first | rfl | (congr 1;omega),by first | rfl | (congr 1;omega),rfl,rfl⟩
 case rest =>
 obtain ⟨rfl,rfl,rfl,cU⟩:=hcut;clear bC;subst cU;go_wp2;go_loopw [9,24] (fun _ i wr=>∃ (k:Nat) (d:List ByteArray×List (Int×ByteArray)) (v:Value),k<=m/\i=.int .i64 k/\d.1.length=ss.length/\Hid (vlG d.1 d.2=true)/\Hid (JKX (RS.drop k) d=aH)/\Hid (DV wr (w.heap.size+1+1) w2.heap.size g ss.length v (d.1.map zFD) (ZiU d.2))/\Hid (Row wr (w.heap.size+1) [.slice none 0 0,.slice none 0 0])/\Hid (Below w.heap.size w wr)/\w.heap.size+1+1<=wr.heap.size) (fun _ i _=>m-(intOf i).toNat)
 case atStart=>exact ⟨0,(ss,ws),_,Nat.zero_le _,rfl,rfl,dE,by show _=_;rw [List.drop_zero,aD.out],aK,aO,aM,aE⟩
 case round =>
  obtain ⟨k,d,v,hk,rfl,aQ,aY,HK,aG,aF,aR,cM⟩:=hrel
  by_cases bH:k<m
  ·obtain ⟨b,o,s0,n1,s2,rfl,dO,eF,eM,HS⟩:=(cP.below aR.out).at (k:=k) (by rw [aC];exact bH)
   have aU:(s0,n1,s2)∈RS:=by rw [HS.out];simp [List.getD,aC,bH]
   have cW:s2.size<=1048576:=cY.out _ aU
   have bG:∀ ob,Below wr.heap.size wr (wr.alloc ob):=fun ob=>zE5 _ _
   have dM:=hid (fun ob=>ZgY (w.heap.size+1+1) w2.heap.size g ss.length v d.1 d.2 s0 n1 s2 (wr.alloc ob) (aG.out.below (bG ob)) aQ aY.out cW (Nat.le_trans cM (bG ob).size));go_wp2_with (go_at_call 34;refine (dM.out _).mono ?_;rintro e w4 ⟨⟨x,rfl⟩,⟨v',cT⟩,bU⟩);have bV:=hid cT;have cE:=hid (((bG (.cells #[.bool s0,.int .i64 n1,.string s2] 38)).mono cM).trans bU)
   have dL:Hid (JKX (RS.drop (k+1)) (opD d (s0,n1,s2))=aH):=by
    show _=_;rw [<-HK.out,JGy RS k (false,0,ByteArray.empty) (by rw [aC];exact bH),<-HS.out,JKX]
   have dJ:=bU.size;clear cT bU;go_wp2;go_roundw
   case rel=>exact ⟨k+1,_,v',by omega,by go_num,by rw [zKN];exact aQ,ZO0 d _ aY.out,dL,bV,aF.out.lowB cE.out (by omega),aR.out.trans (cE.out.mono (by omega)),by simp at dJ;omega⟩
   case measure=>simp [intOf];omega
  ·have bJ:Hid (d=aH):=by
    have:=HK.out;rw [List.drop_of_length_le (by rw [aC];omega)] at this;exact this
   clear HK aD aK aO aM;obtain rfl:=bJ.out;obtain ⟨⟨cZ,dU,eB⟩,aW,cS⟩:=q67 aY.out;have cN:=hid (JcP (ws:=d.2) fun x hx=>by have:=of_decide_eq_true (cS x hx);omega);obtain ⟨a2,c2,hv,cJ⟩:=aG.out.form cN.out;rw [qOd] at hv;have q0:=aG.out.rx.cell 0 _ rfl;have q1:=aG.out.rx.cell 1 _ rfl;rw [hv] at q1;have cV:=hid cJ;clear cZ aW cS cJ;go_wp2_with fail;refine (v19 (some ⟨g,0,none⟩) (d.1.map zFD) ss.length ss.length a2 (ZiU d.2) d.2.length c2 (by simp [aQ]) (qOd _) _ aG.out.pr.plt cV.out b7 (by omega) aG.out.pr.len cN.out).mono ?_;rintro e w5 ⟨a1,c1,aB,aJ,rfl,aT,cK,cI,aZ⟩;rw [QPH,ZvU] at aT;have rR:=aF.out.below aZ;have r0:=rR.cell 0 _ rfl;have r1:=rR.cell 1 _ rfl;obtain ⟨dY,eK⟩:=rR.z2;have dI:=hid (Below.then aR.out (Nat.le_refl _) aZ);have dH:=hid aT;have eG:=aR.out.size
   have cF:Hid (∀ g,blk a1 ss.length=some g->w.heap.size+1<g):=fun g hg=>by have h1:=cK g hg;omega
   have cO:Hid (∀ g,blk aB d.2.length=some g->w.heap.size+1<g):=fun g hg=>by have h1:=cI g hg;omega
   clear aT cK cI aZ rR q0 q1;go_wp2;rw [aQ];have eH:d.1.length≠0:=by omega
   have b8:∀ (wz:World) (u:Value) (i:Nat),OwnD wz a1 d.1 aB d.2->OwnD (wz.setCell ⟨w.heap.size+1,i,none⟩ u) a1 d.1 aB d.2:=fun wz u i ho=>by
    refine ⟨ho.s.setp _ (fun g3 e3 cQ e=>?_) _,ho.p.setp _ (fun g3 e3 cQ e=>?_) _,ho.ne⟩
    ·have:=cF.out g3 (by rw [e3];exact qdd g3 0 _ (by omega))
     have e':w.heap.size+1=g3:=e;omega
    ·have:=cO.out g3 (by rw [e3];exact qdd g3 0 _ (fun e0=>cQ (by rw [List.eq_nil_of_length_eq_zero e0];rfl)))
     have e':w.heap.size+1=g3:=e;omega
   refine bodyPost_ret (v:=Zoj a1 ss.length c1 aB d.2.length aJ) (by simp [results,Tryz.results10,go_sem,r0,r1]) rfl ⟨a1,c1,aB,aJ,rfl,b8 _ _ _ (b8 _ _ _ dH.out),fun g hg=>by have:=cF.out g hg;omega,fun g hg=>by have:=cO.out g hg;omega,?_⟩;exact (dI.out.setCell (by show w.heap.size<=w.heap.size+1;omega) _).setCell (by show w.heap.size<=w.heap.size+1;omega) _
theorem kBJ (a:Option Addr) (ss:List ByteArray) (c:Nat) (a':Option Addr) (ws:List (Int×ByteArray)) (c':Nat) (f:Option Addr) (rs:List (Bool×Int×ByteArray)) (cf:Nat) (z:Int) (w:World) (h:Strs w a ss) (h':Wrs w a' ws) (hz:Ops w f rs) (aE:rs.length<=cf) (aD:rs.length<=1048576) (aF:∀ x∈rs,x.2.2.size<=1048576) (aC:vlG ss ws=true) :
  Calls Tryz.prog 10 #[Zoj a ss.length c a' ws.length c',.slice f rs.length cf,.int .i64 z] w fun e w'=>∃ a1 c1 aA aB,e=.returned (Zoj a1 (JKX (rs.take (pfN z rs.length)) (ss,ws)).1.length c1 aA (JKX (rs.take (pfN z rs.length)) (ss,ws)).2.length aB)/\OwnD w' a1 (JKX (rs.take (pfN z rs.length)) (ss,ws)).1 aA (JKX (rs.take (pfN z rs.length)) (ss,ws)).2/\(∀ g,blk a1 (JKX (rs.take (pfN z rs.length)) (ss,ws)).1.length=some g->w.heap.size<=g)/\(∀ g,blk aA (JKX (rs.take (pfN z rs.length)) (ss,ws)).2.length=some g->w.heap.size<=g)/\Below w.heap.size w w':=by
 exact jIE a ss c a' ws c' f rs cf z _ w h h' hz aE aD rfl aF aC
theorem xaK (a:Option Addr) (ss:List ByteArray) (c:Nat) (a':Option Addr) (ws:List (Int×ByteArray)) (c':Nat) (v z:Value) (w:World) (h:Strs w a ss) (h':Wrs w a' ws) (hl:ss.length<=1048576) (aF:ws.length<=1048576) (hs:∀ s∈ss,s.size<=1048576) (aE:∀ x∈ws,x.2.size<=1048576) (aC:vlG ss ws=false) :
  Calls Tryz.prog 10 #[Zoj a ss.length c a' ws.length c',v,z] w fun e w'=>e=.returned (Zoj none 0 0 none 0 0)/\Below w.heap.size w w':=by
 have aB:∀ o1 o2,Below w.heap.size w ((w.alloc o1).alloc o2):=fun o1 o2=>((Below.refl _ _).alloc (Nat.le_refl _) _).alloc (by simp) _
 go_enter Tryz.func10,Tryz.ntmps10;go_wp2_with fail;refine (jU6 a ss c a' ws c' _ (h.below (aB _ _)) (h'.below (aB _ _)) hl aF hs aE).mono ?_;rw [aC];rintro e w1 ⟨rfl,aA⟩;have aD:=hid ((aB _ _).trans (aA.mono (by simp;omega)));have rR:=(kR4 (w.alloc (.cells #[.slice a ss.length c,.slice a' ws.length c'] 31)) #[.slice none 0 0,.slice none 0 0] 31 (w.heap.size+1) (by simp)).below aA;have r0:=rR.cell 0 _ rfl;have r1:=rR.cell 1 _ rfl;obtain ⟨aH,aG⟩:=rR.z2;clear rR aA;go_wp2;exact bodyPost_ret (v:=Zoj none 0 0 none 0 0) (by simp [results,Tryz.results10,go_sem,r0,r1]) rfl ⟨rfl,(aD.out.setCell (by show w.heap.size<=w.heap.size+1;omega) _).setCell (by show w.heap.size<=w.heap.size+1;omega) _⟩
def pfR (ss:List ByteArray) (ws:List (Int×ByteArray)) (rs:List (Bool×Int×ByteArray)) (z:Int):List ByteArray×List (Int×ByteArray):=if vlG ss ws=true then JKX (rs.take (pfN z rs.length)) (ss,ws) else ([],[])
theorem qbO (a:Option Addr) (ss:List ByteArray) (c:Nat) (a':Option Addr) (ws:List (Int×ByteArray)) (c':Nat) (f:Option Addr) (rs:List (Bool×Int×ByteArray)) (cf:Nat) (z:Int) (w:World) (h:Strs w a ss) (h':Wrs w a' ws) (hz:Ops w f rs) (aH:rs.length<=cf) (aF:rs.length<=1048576) (aE:∀ x∈rs,x.2.2.size<=1048576) (hl:ss.length<=1048576) (aG:ws.length<=1048576) (hs:∀ s∈ss,s.size<=1048576) (aD:∀ x∈ws,x.2.size<=1048576) :
  Calls Tryz.prog 10 #[Zoj a ss.length c a' ws.length c',.slice f rs.length cf,.int .i64 z] w fun e w'=>∃ a1 c1 aB aC,e=.returned (Zoj a1 (pfR ss ws rs z).1.length c1 aB (pfR ss ws rs z).2.length aC)/\OwnD w' a1 (pfR ss ws rs z).1 aB (pfR ss ws rs z).2/\(∀ g,blk a1 (pfR ss ws rs z).1.length=some g->w.heap.size<=g)/\(∀ g,blk aB (pfR ss ws rs z).2.length=some g->w.heap.size<=g)/\Below w.heap.size w w':=by
 by_cases aA:vlG ss ws=true
 ·have e1:pfR ss ws rs z=JKX (rs.take (pfN z rs.length)) (ss,ws):=by simp [pfR,aA]
  rw [e1];exact kBJ a ss c a' ws c' f rs cf z w h h' hz aH aF aE aA
 ·have e1:pfR ss ws rs z=([],[]):=by simp [pfR,aA]
  rw [e1];refine (xaK a ss c a' ws c' _ _ w h h' hl aG hs aD (by simpa using aA)).mono ?_;rintro e w' ⟨rfl,hb⟩;exact ⟨none,0,none,0,rfl,⟨.inl rfl,.inl rfl,.inl rfl⟩,(fun g hg=>by cases hg),(fun g hg=>by cases hg),hb⟩
section
theorem zTB (a n:Int):yVH vWo a n=none:=by
 have h:Jvc vWo n=none:=by
  apply XRd
  rintro ⟨h1,h2,h3,h4,h5⟩
  have hk:rpK (vWo.extract n.toNat 64)=0:=by
   obtain ⟨k,rfl⟩:∃ k:Nat,n=(k:Int):=⟨n.toNat,by omega⟩;have:k=1\/k=2\/k=3\/k=4\/k=5\/k=6\/k=7\/k=8:=by omega
   rcases this with rfl | rfl | rfl | rfl | rfl | rfl | rfl | rfl<;>decide
  rw [hk] at h5;unfold ZQp at h5;rw [if_neg (by unfold Xhw;simp)] at h5;rw [<-h5] at h3;exact absurd h3 (by decide)
 unfold yVH;rw [h]
theorem Qmk (h f:Int):(ySc h f).size=5:=by
 unfold ySc;rw [ByteArray.size_append];rfl
structure RoOk (t h f l n:Int):Prop where
 t0:1<=t
 t1:t<=1000000000
 hf:jJV h f
 l0:1<=l
 l1:l<=60000
 n0:1<=n
 n1:n<=8
section
variable {t h f l n:Int}
theorem RoOk.page (x:RoOk t h f l n):Xhw 4 l t (ySc h f) n=true:=by
 have:=x.t0;have:=x.t1;have:=x.l0;have:=x.l1;have:=x.n0;have:=x.n1;unfold Xhw;rw [Qmk];refine decide_eq_true ⟨x.n0,x.n1,by omega,by omega,x.l0,x.l1,x.t0,x.t1,by omega,by omega⟩
theorem RoOk.form (x:RoOk t h f l n):QCt t h f l n=XQs 4 l t (ySc h f) n.toNat:=by
 unfold QCt ZQp;rw [if_pos x.hf,if_pos x.page]
theorem kXV (hs:(QCt t h f l n).size≠0):RoOk t h f l n:=by
 unfold QCt at hs
 split at hs
 ·rename_i hok
  unfold ZQp at hs
  split at hs
  ·rename_i hp
   have:=of_decide_eq_true hp;exact ⟨this.2.2.2.2.2.2.1,this.2.2.2.2.2.2.2.1,hok,this.2.2.2.2.1,this.2.2.2.2.2.1,this.1,this.2.1⟩
  ·exact absurd rfl hs
 ·exact absurd rfl hs
theorem RoOk.res (x:RoOk t h f l n):Jvc (QCt t h f l n) n=some (4,l,t,ySc h f):=by
 have:=x.n0;obtain ⟨k,rfl⟩:∃ k:Nat,n=(k:Int):=⟨n.toNat,by omega⟩;rw [x.form];exact jAG 4 l t _ k x.page
theorem RoOk.size (x:RoOk t h f l n):(QCt t h f l n).size=64:=(v5k x.res).1
theorem QII (a b:ByteArray):zFD (a++b)=zFD a++zFD b:=by
 unfold zFD;simp
theorem RoOk.parts (x:RoOk t h f l n):ptH (ySc h f)=h/\ptF (ySc h f)=f:=by
 obtain ⟨a1,a2,a3,a4⟩:=x.hf;have e1:zFD (strOfNums (be 1 h))=be 1 h:=XYX _ (ZWG 1 h);have e4:zFD (strOfNums (be 4 f))=be 4 f:=XYX _ (ZWG 4 f);have l1:(be 1 h).length=1:=rfl;have l4:(be 4 f).length=4:=rfl;unfold ptH ptF ySc;rw [QII,e1,e4]
 constructor
 ·rw [List.take_left' l1]
  exact Q0t h a1 (by omega)
 ·rw [List.drop_left' l1,List.take_of_length_le (by rw [l4];omega)]
  exact XUK f (by omega) (by omega)
theorem RoOk.root (x:RoOk t h f l n) (a:Int):yVH (QCt t h f l n) a n=if t % 2=a then some (t,h,f,l) else none:=by
 unfold yVH;rw [x.res];show (if _ then _ else _)=_;rw [x.parts.1,x.parts.2]
 by_cases ha:t % 2=a
 ·rw [if_pos ha,if_pos ⟨Qmk h f,rfl,ha⟩]
 ·rw [if_neg ha,if_neg (fun k=>ha k.2.2)]
end
def z20:List ByteArray:=List.replicate 20 vWo
theorem JR4:z20.length=20:=by simp [z20]
theorem ZHr {s:ByteArray} (h:s∈z20):s=vWo:=by
 unfold z20 at h;exact List.eq_of_mem_replicate h
theorem kUU (ws:List (Int×ByteArray)) (hl:ws.length<=300) (hw:∀ x∈ws,(x.1=0\/x.1=1)/\x.2.size=64):vlG z20 ws=true:=by
 refine Zof (by rw [JR4];omega) (fun s hs=>by rw [ZHr hs];decide) (fun x hx=>?_);have:=hw x hx;rw [JR4];refine decide_eq_true ?_;omega
theorem JML (ws:List (Int×ByteArray)) (x:Int×ByteArray) (hl:ws.length<=100) (hw:∀ x∈ws,(x.1=0\/x.1=1)/\x.2.size=64) (h1:x.1=0\/x.1=1) (h2:x.2.size=64):pfR z20 ws [(false,x)] 1=(z20,ws++[x]):=by
 unfold pfR;rw [if_pos (kUU ws (by omega) hw)];show opD (z20,ws) (false,x)=_;refine zhd _ _ (decide_eq_true ?_) (by show ws.length<300;omega);show 0<=x.1/\x.1<((z20.length:Nat):Int)/\_;rw [JR4];omega
section
variable {t h f l n:Int}
theorem kzX (ws:List (Int×ByteArray)) (hl:ws.length<=300) (hw:∀ x∈ws,(x.1=0\/x.1=1)/\x.2.size=64) (h0:1<=n) (h1:n<=8):frD z20 ws n=jkc ((xhE ws z20).getD 0 ByteArray.empty) ((xhE ws z20).getD 1 ByteArray.empty) n:=by
 unfold frD;rw [if_pos ⟨kUU ws hl hw,h0,h1⟩]
theorem xF8 (h0:1<=n) (h1:n<=8):frD z20 [] n=(0,0,1,0):=by
 rw [kzX [] (by simp) (fun x hx=>by cases hx) h0 h1];show jkc vWo vWo n=_;unfold jkc;rw [zTB,zTB];rfl
theorem vZL (t:Int):t % 2=0\/t % 2=1:=by omega
theorem RoOk.e (x:RoOk t h f l n):frD z20 [(t % 2,QCt t h f l n)] n=(t,h,f,l):=by
 have ht:=x.t0;rw [kzX _ (by simp) (fun y hy=>by rw [List.mem_singleton.1 hy];exact ⟨vZL t,x.size⟩) x.n0 x.n1];rcases vZL t with e | e<;>rw [e]
 ·show jkc (QCt t h f l n) vWo n=_
  unfold jkc;rw [zTB,x.root,if_pos e];show (if (0:Int)<t then _ else _)=_;rw [if_pos (by omega)]
 ·show jkc vWo (QCt t h f l n) n=_
  unfold jkc;rw [zTB,x.root,if_pos e];show (if (0:Int)<t then _ else _)=_;rw [if_pos (by omega)]
theorem RoOk.up {t' h' f' l':Int} (x:RoOk t h f l n) (y:RoOk t' h' f' l' n) (ht:t'=t+1):frD z20 [(t % 2,QCt t h f l n),(t' % 2,QCt t' h' f' l' n)] n=(t',h',f',l'):=by
 have h0:=x.t0;rw [kzX _ (by simp) (fun z hz=>by simp only [List.mem_cons,List.not_mem_nil,or_false] at hz;rcases hz with rfl | rfl;exact ⟨vZL t,x.size⟩;exact ⟨vZL t',y.size⟩) x.n0 x.n1];rcases vZL t with e | e
 ·have e':t' % 2=1:=by omega
  rw [e,e'];show jkc (QCt t h f l n) (QCt t' h' f' l' n) n=_;unfold jkc;rw [y.root,x.root,if_pos e,if_pos e'];show (if (if (0:Int)<t then (t,h,f,l) else (0,0,1,0)).1<t' then _ else _)=_;rw [if_pos (by omega:(0:Int)<t),if_pos (by show t<t';omega)]
 ·have e':t' % 2=0:=by omega
  rw [e,e'];show jkc (QCt t' h' f' l' n) (QCt t h f l n) n=_;unfold jkc;rw [y.root,x.root,if_pos e,if_pos e'];show (if (if (0:Int)<t' then (t',h',f',l') else (0,0,1,0)).1<t then _ else (if (0:Int)<t' then (t',h',f',l') else (0,0,1,0)))=_;rw [if_pos (by omega:(0:Int)<t'),if_neg (by show ¬ t'<t;omega)]
theorem RoOk.down {t' h' f' l':Int} (x:RoOk t h f l n) (y:RoOk t' h' f' l' n) (ht:t'=t-1):frD z20 [(t % 2,QCt t h f l n),(t' % 2,QCt t' h' f' l' n)] n=(t,h,f,l):=by
 have h0:=x.t0;have h1:=y.t0;rw [kzX _ (by simp) (fun z hz=>by simp only [List.mem_cons,List.not_mem_nil,or_false] at hz;rcases hz with rfl | rfl;exact ⟨vZL t,x.size⟩;exact ⟨vZL t',y.size⟩) x.n0 x.n1];rcases vZL t with e | e
 ·have e':t' % 2=1:=by omega
  rw [e,e'];show jkc (QCt t h f l n) (QCt t' h' f' l' n) n=_;unfold jkc;rw [y.root,x.root,if_pos e,if_pos e'];show (if (if (0:Int)<t then (t,h,f,l) else (0,0,1,0)).1<t' then _ else (if (0:Int)<t then (t,h,f,l) else (0,0,1,0)))=_;rw [if_pos (by omega:(0:Int)<t),if_neg (by show ¬ t<t';omega)]
 ·have e':t' % 2=0:=by omega
  rw [e,e'];show jkc (QCt t' h' f' l' n) (QCt t h f l n) n=_;unfold jkc;rw [y.root,x.root,if_pos e,if_pos e'];show (if (if (0:Int)<t' then (t',h',f',l') else (0,0,1,0)).1<t then _ else _)=_;rw [if_pos (by omega:(0:Int)<t'),if_pos (by show t'<t;omega)]
theorem RoOk.wrong {t' h' f' l':Int} (x:RoOk t h f l n) (y:RoOk t' h' f' l' n) (ht:t'=t+1):frD z20 [(t % 2,QCt t h f l n),(t % 2,QCt t' h' f' l' n)] n=(0,0,1,0):=by
 rw [kzX _ (by simp) (fun z hz=>by simp only [List.mem_cons,List.not_mem_nil,or_false] at hz;rcases hz with rfl | rfl;exact ⟨vZL t,x.size⟩;exact ⟨vZL t,y.size⟩) x.n0 x.n1];rcases vZL t with e | e<;>rw [e]
 ·show jkc (QCt t' h' f' l' n) vWo n=_
  unfold jkc;rw [zTB,y.root,if_neg (by omega)];rfl
 ·show jkc vWo (QCt t' h' f' l' n) n=_
  unfold jkc;rw [zTB,y.root,if_neg (by omega)];rfl
end
end
section
abbrev kAU (ss:List ByteArray) (ws:List (Int×ByteArray)) (aA size n:Int):Prop:=vlG ss ws=true/\(1<=n/\n<=8)/\0<=aA/\0<=size/\aA<=(ss.length:Int)/\size<=(ss.length:Int)-aA
def scD (ss:List ByteArray) (ws:List (Int×ByteArray)) (aB size first aA n:Int):Scd :=
 if kAU ss ws aB size n then vb3 (fun k=>(xhE ws ss).getD k ByteArray.empty) aB.toNat first n size.toNat 0 0 aA ByteArray.empty ([],0,aA) else ([],0,0)
def xPk (w w':World) (e:Ending) (x:Scd):Prop:=∃ y,e=.returned (.agg #[y,.int .i64 x.2.1,.int .i64 x.2.2])/\w'.ownsRow w.heap.size 9 1 y x.1.length (x.1.map Value.string)/\Below w.heap.size w w'
structure ScB (w0 w:World) (RB G XB OT WS:Nat) (S:List Value) (cx:Nat) (xp:Value) (y:Value) (ents:List ByteArray) (u l wk wl wm:Int) (wp:ByteArray):Prop where
 rb:Row w RB [.slice none 0 0,.int .i64 0,.int .i64 0]
 sec:Row w G S
 xb:Row w XB [.slice (some ⟨G,0,none⟩) S.length cx,xp]
 ot:Row w OT [y,.int .i64 u,.int .i64 l]
 ws:Row w WS [.int .i64 wk,.int .i64 wl,.int .i64 wm,.string wp]
 own:w.ownsRow w0.heap.size 9 1 y ents.length (ents.map Value.string)
 o1:w0.heap.size<=RB
 o2:RB<G
 o3:G<XB
 o4:XB<OT
 o5:OT<WS
 yo:∀ k,y.ownBlock=some k->WS<k
 be:Below w0.heap.size w0 w
section
variable {w0 w w':World} {RB G XB OT WS:Nat} {S:List Value} {cx:Nat} {xp:Value} {y:Value} {ents:List ByteArray} {u l wk wl wm:Int} {wp:ByteArray}
theorem ScB.below (h:ScB w0 w RB G XB OT WS S cx xp y ents u l wk wl wm wp) (hb:Below w.heap.size w w'):ScB w0 w' RB G XB OT WS S cx xp y ents u l wk wl wm wp :=
 ⟨h.rb.below hb,h.sec.below hb,h.xb.below hb,h.ot.below hb,h.ws.below hb,jcb h.own hb,h.o1,h.o2,h.o3,h.o4,h.o5,h.yo,h.be.trans (hb.mono h.be.size)⟩
theorem ScB.own_ne (h:ScB w0 w RB G XB OT WS S cx xp y ents u l wk wl wm wp) {k:Nat} (hk:k<=WS):y.ownBlock≠some k:=fun e=>by have:=h.yo k e;omega
theorem ScB.setWas (h:ScB w0 w RB G XB OT WS S cx xp y ents u l wk wl wm wp) (k' l' m':Int) (p':ByteArray) :
  ScB w0 ((((w.setCell ⟨WS,0,none⟩ (.int .i64 k')).setCell ⟨WS,1,none⟩ (.int .i64 l')).setCell ⟨WS,2,none⟩ (.int .i64 m')).setCell ⟨WS,3,none⟩ (.string p')) RB G XB OT WS S cx xp y ents u l k' l' m' p':=by
 have o1:=h.o1;have o2:=h.o2;have o3:=h.o3;have o4:=h.o4;have o5:=h.o5
 have aA:∀ {g:Nat} {cs:List Value},g≠WS->Row w g cs->Row ((((w.setCell ⟨WS,0,none⟩ (.int .i64 k')).setCell ⟨WS,1,none⟩ (.int .i64 l')).setCell ⟨WS,2,none⟩ (.int .i64 m')).setCell ⟨WS,3,none⟩ (.string p')) g cs:=fun hg hr =>
  (((hr.other _ (Ne.symm hg) _).other _ (Ne.symm hg) _).other _ (Ne.symm hg) _).other _ (Ne.symm hg) _
 have hy:=h.own_ne (Nat.le_refl WS)
 have bs:∀ {x:World},Below w0.heap.size w0 x->∀ i v,Below w0.heap.size w0 (x.setCell ⟨WS,i,none⟩ v):=fun hx i v=>hx.setCell (by show w0.heap.size<=WS;omega) _
 exact ⟨aA (by omega) h.rb,aA (by omega) h.sec,aA (by omega) h.xb,aA (by omega) h.ot,(((h.ws.set 0 (by simp) _).set 1 (by simp) _).set 2 (by simp) _).set 3 (by simp) _,
  ownsRow_setCell_other (ownsRow_setCell_other (ownsRow_setCell_other (ownsRow_setCell_other h.own hy _) hy _) hy _) hy _,o1,o2,o3,o4,o5,h.yo,bs (bs (bs (bs h.be _ _) _ _) _ _) _ _⟩
theorem ScB.setEnd (h:ScB w0 w RB G XB OT WS S cx xp y ents u l wk wl wm wp) (u' l':Int) :
  ScB w0 ((w.setCell ⟨OT,1,none⟩ (.int .i64 u')).setCell ⟨OT,2,none⟩ (.int .i64 l')) RB G XB OT WS S cx xp y ents u' l' wk wl wm wp:=by
 have o1:=h.o1;have o2:=h.o2;have o3:=h.o3;have o4:=h.o4;have o5:=h.o5
 have aA:∀ {g:Nat} {cs:List Value},g≠OT->Row w g cs->Row ((w.setCell ⟨OT,1,none⟩ (.int .i64 u')).setCell ⟨OT,2,none⟩ (.int .i64 l')) g cs:=fun hg hr=>(hr.other _ (Ne.symm hg) _).other _ (Ne.symm hg) _
 have hy:=h.own_ne (k:=OT) (by omega)
 have bs:∀ {x:World},Below w0.heap.size w0 x->∀ i v,Below w0.heap.size w0 (x.setCell ⟨OT,i,none⟩ v):=fun hx i v=>hx.setCell (by show w0.heap.size<=OT;omega) _
 exact ⟨aA (by omega) h.rb,aA (by omega) h.sec,aA (by omega) h.xb,(h.ot.set 1 (by simp) _).set 2 (by simp) _,aA (by omega) h.ws,
  ownsRow_setCell_other (ownsRow_setCell_other h.own hy _) hy _,o1,o2,o3,o4,o5,h.yo,bs (bs h.be _ _) _ _⟩
theorem ScB.push (h:ScB w0 w RB G XB OT WS S cx xp y ents u l wk wl wm wp) {y':Value} {ents':List ByteArray} {H:Nat} (aB:w'.ownsRow w0.heap.size 9 1 y' ents'.length (ents'.map Value.string)) (hg:w.grownBy w' y.ownBlock) (aE:y.ownBlock=y'.ownBlock\/y'.ownBlock=some H) (hH:w.heap.size<=H) :
  ScB w0 (w'.setCell ⟨OT,0,none⟩ y') RB G XB OT WS S cx xp y' ents' u l wk wl wm wp:=by
 have o1:=h.o1;have o2:=h.o2;have o3:=h.o3;have o4:=h.o4;have o5:=h.o5;have lW:=h.ws.lt
 have aC:∀ k,y'.ownBlock=some k->WS<k:=fun k hk=>by
  rcases aE with e | e
  ·exact h.yo k (e.trans hk)
  ·rw [e] at hk;cases hk;omega
 have gr:∀ {g:Nat} {cs:List Value},g<=WS->Row w g cs->Row w' g cs:=fun aG hr=>hr.grown hg (fun e=>h.own_ne aG e.symm)
 have aA:∀ {g:Nat} {cs:List Value},g≠OT->Row w' g cs->Row (w'.setCell ⟨OT,0,none⟩ y') g cs:=fun hg hr=>hr.other _ (Ne.symm hg) _
 have aD:y'.ownBlock≠some OT:=fun e=>by have:=aC OT e;omega
 have aF:Below w0.heap.size w0 w':=h.be.trans (jJX hg h.be.size (fun g e=>(h.own.lt g e).1))
 exact ⟨aA (by omega) (gr (by omega) h.rb),aA (by omega) (gr (by omega) h.sec),aA (by omega) (gr (by omega) h.xb),(gr (by omega) h.ot).set 0 (by simp) _,aA (by omega) (gr (Nat.le_refl _) h.ws),
  ownsRow_setCell_other aB aD _,o1,o2,o3,o4,o5,aC,aF.setCell (by show w0.heap.size<=OT;omega) _⟩
end
theorem vbI (wk wl wm:Int) (wp:ByteArray) (k l m:Int) (p:ByteArray) (w:World):Calls Tryz.prog 102 #[QAw wk wl wm wp,QAw k l m p] w fun e w'=>e=.returned (.bool (yoh wk wl k l))/\Below w.heap.size w w':=by
 have aB:∀ o1 o2,Below w.heap.size w ((w.alloc o1).alloc o2):=fun o1 o2=>((Below.refl _ _).alloc (Nat.le_refl _) _).alloc (by simp) _
 obtain ⟨B,hB⟩:∃ B,yoh wk wl k l=B:=⟨_,rfl⟩;have HB:=hid hB;rw [hB];clear hB
 by_cases h1:l<wl
 ·have e:B=false:=by rw [<-HB.out];unfold yoh;simp;omega
  subst e;clear HB;go_enter Tryz.func102,Tryz.ntmps102;go_wp2;go_ret;exact ⟨rfl,aB _ _⟩
 ·by_cases h3:k=3
  ·subst h3
   by_cases hw:wk=1
   ·have e:B=false:=by rw [<-HB.out];unfold yoh;simp [hw]
    subst e;clear HB;go_enter Tryz.func102,Tryz.ntmps102;go_wp2;go_ret;exact ⟨rfl,aB _ _⟩
   ·have e:B=true:=by rw [<-HB.out];unfold yoh;simp [hw];omega
    have aC:(wk != 1)=true:=by simp [hw]
    subst e;clear HB;go_enter Tryz.func102,Tryz.ntmps102;go_wp2;go_ret;exact ⟨rfl,aB _ _⟩
  ·by_cases aA:k=1\/k=2
   ·by_cases hw:wk=1
    ·by_cases hl:wl=l
     ·have e:B=true:=by rw [<-HB.out];unfold yoh;rcases aA with rfl | rfl<;>simp [hw,hl]
      subst e;clear HB;rcases aA with rfl | rfl<;>(go_enter Tryz.func102,Tryz.ntmps102;go_wp2;go_ret;exact ⟨rfl,aB _ _⟩)
     ·have e:B=false:=by rw [<-HB.out];unfold yoh;rcases aA with rfl | rfl<;>simp [hw,hl]
      have aF:(wl == l)=false:=by simp [hl]
      subst e;clear HB;rcases aA with rfl | rfl<;>(go_enter Tryz.func102,Tryz.ntmps102;go_wp2;go_ret;exact ⟨rfl,aB _ _⟩)
    ·have e:B=true:=by rw [<-HB.out];unfold yoh;rcases aA with rfl | rfl<;>simp [hw]<;>omega
     have aC:(wk != 1)=true:=by simp [hw]
     subst e;clear HB;rcases aA with rfl | rfl<;>(go_enter Tryz.func102,Tryz.ntmps102;go_wp2;go_ret;exact ⟨rfl,aB _ _⟩)
   ·have aD:¬ k=1:=fun e=>aA (.inl e)
    have aE:¬ k=2:=fun e=>aA (.inr e)
    have e:B=false:=by rw [<-HB.out];unfold yoh;simp [h3,aD,aE]
    subst e;clear HB aA;go_enter Tryz.func102,Tryz.ntmps102;go_wp2;go_ret;exact ⟨rfl,aB _ _⟩
end
section
def qAf:List ByteArray->List Pr->Option (List Pr)
 | [],rs=>some rs
 | e::es,rs=>match yjX e with
  | none=>none
  | some b=>if apC rs b=0 then qAf es (apU rs b) else none
theorem kVn:∀ (es:List ByteArray) (rs:List Pr),z0q rs=true->∀ r,qAf es rs=some r->z0q r=true
 | [],rs,h,r,hr=>by cases hr;exact h
 | e::es,rs,h,r,hr=>by
  rw [qAf] at hr
  split at hr
  ·cases hr
  ·split at hr
   ·rename_i hc
    exact kVn es _ (jZe hc) r hr
   ·cases hr
theorem kIa {e:ByteArray} {es:List ByteArray} {rs:List Pr} (h:yjX e=none):qAf (e::es) rs=none:=by rw [qAf,h]
theorem qep {e:ByteArray} {es:List ByteArray} {rs:List Pr} {b:List Ch} (h:yjX e=some b) (hc:apC rs b≠0):qAf (e::es) rs=none:=by rw [qAf,h];simp only;rw [if_neg hc]
theorem QhE {e:ByteArray} {es:List ByteArray} {rs:List Pr} {b:List Ch} (h:yjX e=some b) (hc:apC rs b=0):qAf (e::es) rs=qAf es (apU rs b):=by rw [qAf,h];simp only;rw [if_pos hc]
theorem vv3:z0q []=true:=by decide
theorem ytq {rs:List Pr} (h:z0q rs=true):rs.length<=100/\∀ x∈rs,x.1.size<=1048576/\x.2.size<=1048576:=by
 obtain ⟨h1,h2,h3⟩:=(ZaP rs).1 h;refine ⟨h1,fun x hx=>?_⟩;obtain ⟨k1,k2⟩:=h2 x hx;unfold kOk at k1;unfold vOk at k2;simp at k1 k2;omega
theorem JQk {b:List Ch} (h:kpJ b=true):b.length<=20/\∀ x∈b,x.1.size<=1048576/\x.2.1.size<=1048576:=by
 obtain ⟨h1,h2⟩:=q4Z h;refine ⟨by omega,fun x hx=>?_⟩;obtain ⟨k1,k2⟩:=vBC (h2 x hx);unfold kOk at k1;unfold vOk at k2;simp at k1 k2;omega
def k6M (x:RtT):Prop:=(0<=x.1/\x.1<=1000000000)/\(0<=x.2.1/\x.2.1<=1)/\(1<=x.2.2.1/\x.2.2.1<=999999000)/\(0<=x.2.2.2/\x.2.2.2<=60000)
theorem v47 {s:ByteArray} {a n:Int} {x:RtT} (h:yVH s a n=some x):k6M x:=by
 unfold yVH at h
 split at h
 ·cases h
 ·rename_i k l m p hp
  have hr:=v5k hp
  split at h
  ·rename_i hh
   cases h
   obtain ⟨h1,h2,h3⟩:=hh
   have hf:jJV (ptH p) (ptF p):=by
    by_cases e:jJV (ptH p) (ptF p)
    ·exact e
    ·exfalso
     unfold QCt at h2;rw [if_neg e] at h2;have aA:=hr.1;rw [<-h2] at aA;exact absurd aA (by decide)
   unfold jJV at hf;unfold k6M;simp only;omega
  ·cases h
theorem Z3f {b:RtT} {o:Option RtT} (hb:k6M b) (ho:∀ x,o=some x->k6M x):k6M (xBi b o):=by
 unfold xBi
 split
 ·exact hb
 ·rename_i r
  split
  ·exact ho _ rfl
  ·exact hb
theorem x4o (s0 s1:ByteArray) (n:Int):k6M (jkc s0 s1 n):=by
 unfold jkc;exact Z3f (Z3f (by unfold k6M;simp) (fun x hx=>v47 hx)) (fun x hx=>v47 hx)
theorem zNB {ss:List ByteArray} {ws:List (Int×ByteArray)} {n:Int} (h:vlG ss ws=true/\1<=n/\n<=8):k6M (frD ss ws n):=by
 unfold frD;rw [if_pos h];exact x4o _ _ _
def opX (ss:List ByteArray) (ws:List (Int×ByteArray)) (n:Int):Scd:=scD ss ws (2+(frD ss ws n).2.1*hv ss.length) (hv ss.length) (frD ss ws n).2.2.1 (frD ss ws n).2.2.2 n
theorem ZuJ {S:Int} (h:8<=S/\S<=200):2+2*hv S<=S:=by unfold hv;rw [if_pos h];omega
theorem xYL {H q:Int} (h:0<=H/\H<=1) (hq:0<=q):0<=H*q/\H*q<=q:=by
 have:H=0\/H=1:=by omega
 rcases this with rfl | rfl<;>omega
theorem qIh {ss:List ByteArray} {ws:List (Int×ByteArray)} {n:Int} (h:vlG ss ws=true/\1<=n/\n<=8):kAU ss ws (2+(frD ss ws n).2.1*hv ss.length) (hv ss.length) n:=by
 have hg:=zNB h;obtain ⟨⟨aD,aA,aC⟩,aB,hw⟩:=q67 h.1;have h1:=QU8 (S:=(ss.length:Int)) (by omega);have h2:=ZuJ (S:=(ss.length:Int)) (by omega);have h3:=xYL hg.2.1 (q:=hv ss.length) (by omega);exact ⟨h.1,h.2,by omega,by omega,by omega,by omega⟩
theorem qTB {ss:List ByteArray} {ws:List (Int×ByteArray)} {n:Int} (h:vlG ss ws=true/\1<=n/\n<=8):(0<=(opX ss ws n).2.1/\(opX ss ws n).2.1<=hv ss.length)/\(0<=(opX ss ws n).2.2/\(opX ss ws n).2.2<=60000)/\(opX ss ws n).1.length<=99/\∀ e∈(opX ss ws n).1,e.size<=6336:=by
 have hg:=zNB h;have aA:=qIh h;obtain ⟨⟨aB,aC,aE⟩,aD,hw⟩:=q67 h.1;have h1:=QU8 (S:=(ss.length:Int)) (by omega);unfold opX scD;rw [if_pos aA];obtain ⟨q,hq⟩:∃ q:Nat,hv ss.length=(q:Int):=⟨(hv ss.length).toNat,by omega⟩;rw [hq] at h1 ⊢;simp only [Int.toNat_natCast];have u1:=qNA (fun k=>(xhE ws ss).getD k ByteArray.empty) (2+(frD ss ws n).2.1*(q:Int)).toNat (frD ss ws n).2.2.1 n q 0 0 (frD ss ws n).2.2.2 ByteArray.empty ([],0,(frD ss ws n).2.2.2) (by simp);have u2:=vp8 (fun k=>(xhE ws ss).getD k ByteArray.empty) (2+(frD ss ws n).2.1*(q:Int)).toNat (frD ss ws n).2.2.1 n q 0 0 (frD ss ws n).2.2.2 ByteArray.empty ([],0,(frD ss ws n).2.2.2);have u3:=zjC (fun k=>(xhE ws ss).getD k ByteArray.empty) (2+(frD ss ws n).2.1*(q:Int)).toNat (frD ss ws n).2.2.1 n q 0 0 (frD ss ws n).2.2.2 ByteArray.empty ([],0,(frD ss ws n).2.2.2) 6336 (by show 0+64*q<=6336;omega) (by intro e he;cases he);simp only [List.length_nil] at u3
 refine ⟨by omega,?_,by omega,u3.1⟩;have:=hg.2.2.2;rcases u2 with u2 | u2
 ·rw [u2];exact this
 ·omega
def Zfa (ss:List ByteArray) (ws:List (Int×ByteArray)) (n:Int):Dd :=
 if vlG ss ws=true/\1<=n/\n<=8 then
  match qAf (opX ss ws n).1 [] with
  | none=>noD 2
  | some rs =>
   if 60000<(opX ss ws n).2.2+1 then noD 3
   else if hv ss.length-1<xee (ZZG rs) n then noD 4
   else if hv ss.length<=(opX ss ws n).2.1 then kGX n ss.length ((opX ss ws n).2.2+1) (frD ss ws n).1 (frD ss ws n).2.1 (frD ss ws n).2.2.1 rs
   else ⟨0,n,ss.length,(opX ss ws n).2.2+1,(frD ss ws n).1,(frD ss ws n).2.1,(frD ss ws n).2.2.1,(frD ss ws n).2.2.2,(opX ss ws n).2.1+1,0,rs,
    [(false,2+(frD ss ws n).2.1*hv ss.length+(opX ss ws n).2.1,ZQp 3 ((opX ss ws n).2.2+1) ((frD ss ws n).2.2.1+(opX ss ws n).2.1) ByteArray.empty n),(true,0,ByteArray.empty)]⟩
 else noD 1
section
variable {ss:List ByteArray} {ws:List (Int×ByteArray)} {n T H F R U L:Int} {es:List ByteArray} {rs:List Pr}
theorem ZJP (h:¬ (vlG ss ws=true/\1<=n/\n<=8)):Zfa ss ws n=noD 1:=by unfold Zfa;rw [if_neg h]
theorem vuT (h:vlG ss ws=true/\1<=n/\n<=8) (h2:opX ss ws n=(es,U,L)) (h3:qAf es []=none):Zfa ss ws n=noD 2:=by
 unfold Zfa;rw [if_pos h,h2];simp only;rw [h3]
theorem yfb (h:vlG ss ws=true/\1<=n/\n<=8) (h2:opX ss ws n=(es,U,L)) (h3:qAf es []=some rs) (h4:60000<L+1):Zfa ss ws n=noD 3:=by
 unfold Zfa;rw [if_pos h,h2];simp only;rw [h3];simp only;rw [if_pos h4]
theorem jzU (h:vlG ss ws=true/\1<=n/\n<=8) (h2:opX ss ws n=(es,U,L)) (h3:qAf es []=some rs) (h4:¬ 60000<L+1) (h5:hv ss.length-1<xee (ZZG rs) n):Zfa ss ws n=noD 4:=by
 unfold Zfa;rw [if_pos h,h2];simp only;rw [h3];simp only;rw [if_neg h4,if_pos h5]
theorem QeI (h:vlG ss ws=true/\1<=n/\n<=8) (h1:frD ss ws n=(T,H,F,R)) (h2:opX ss ws n=(es,U,L)) (h3:qAf es []=some rs) (h4:¬ 60000<L+1) (h5:¬ hv ss.length-1<xee (ZZG rs) n) (h6:hv ss.length<=U):Zfa ss ws n=kGX n ss.length (L+1) T H F rs:=by
 unfold Zfa;rw [if_pos h,h2,h1];simp only;rw [h3];simp only;rw [if_neg h4,if_neg h5,if_pos h6]
theorem XMy (h:vlG ss ws=true/\1<=n/\n<=8) (h1:frD ss ws n=(T,H,F,R)) (h2:opX ss ws n=(es,U,L)) (h3:qAf es []=some rs) (h4:¬ 60000<L+1) (h5:¬ hv ss.length-1<xee (ZZG rs) n) (h6:¬ hv ss.length<=U) :
  Zfa ss ws n=⟨0,n,ss.length,L+1,T,H,F,R,U+1,0,rs,[(false,2+H*hv ss.length+U,ZQp 3 (L+1) (F+U) ByteArray.empty n),(true,0,ByteArray.empty)]⟩:=by
 unfold Zfa;rw [if_pos h,h2,h1];simp only;rw [h3];simp only;rw [if_neg h4,if_neg h5,if_neg h6]
end
theorem xA5 {W S L T H F:Int} {rs:List Pr} (hl:rs.length<=1048576) (aA:z5m W S L T H F rs):(kGX W S L T H F rs).rs.length<=1048576/\(kGX W S L T H F rs).ops.length<=1000:=by
 unfold kGX
 cases h2:j5U S T F with
 | false=>simp [noD]
 | true =>
  obtain ⟨⟨h1,aB⟩,h3,h4,h5,h6,h7,h8⟩:=aA;have hq:=QU8 h3;have hm:=XPX L (F+hv S) W.toNat (56-W.toNat) (by omega) (by omega) (by omega) (ZZG rs);rw [show ((W.toNat:Nat):Int)=W by omega] at hm;simp only [if_true,mvD,List.length_append,xp9];refine ⟨hl,?_⟩;simp;omega
theorem z2d (ss:List ByteArray) (ws:List (Int×ByteArray)) (n:Int):(Zfa ss ws n).rs.length<=1048576/\(Zfa ss ws n).ops.length<=1000:=by
 by_cases h:vlG ss ws=true/\1<=n/\n<=8
 ·obtain ⟨T,H,F,R,aA⟩:∃ T H F R,frD ss ws n=(T,H,F,R):=⟨_,_,_,_,rfl⟩
  obtain ⟨es,U,L,hX⟩:∃ es U L,opX ss ws n=(es,U,L):=⟨_,_,_,rfl⟩;have hg:=zNB h;have hx:=qTB h;rw [aA] at hg;rw [hX] at hx;unfold k6M at hg;simp only at hg hx;obtain ⟨⟨aB,aC,aE⟩,_,_⟩:=q67 h.1
  cases hf:qAf es [] with
  | none=>rw [vuT h hX hf];simp [noD]
  | some rs =>
   have aD:=(ytq (kVn es [] vv3 rs hf)).1
   by_cases h4:60000<L+1
   ·rw [yfb h hX hf h4];simp [noD]
   ·by_cases h5:hv ss.length-1<xee (ZZG rs) n
    ·rw [jzU h hX hf h4 h5];simp [noD]
    ·by_cases h6:hv ss.length<=U
     ·rw [QeI h aA hX hf h4 h5 h6]
      exact xA5 (by omega) ⟨h.2,by omega,by omega,hg.1,hg.2.1,hg.2.2.1,by omega⟩
     ·rw [XMy h aA hX hf h4 h5 h6]
      simp;omega
 ·rw [ZJP h];simp [noD]
end
structure Ev where
 K:Int
 b:List Ch
 cut:Int
 fs:List Int
def Wo.call (x:Wo) (e:Ev):Dd×Bool :=
 if e.K=1 then (Zfa x.ss x.ws x.w,!x.up)
 else if e.K=2 then (QUx x.W x.S x.L x.T x.H x.F x.R x.U x.O x.rs e.b,x.up)
 else if e.K=3 then (jej x.W x.S x.L x.T x.H x.F x.R x.U x.O x.rs,x.up)
 else if e.K=4 then (JfS x.W x.S x.L x.T x.H x.F x.R x.U x.O x.rs,x.up)
 else (noD 0,false)
def Wo.pow (x:Wo) (fs:List Int):Wo:={ x with ss:=jYf fs x.ss x.ws,ws:=[],up:=false,W:=0,S:=0,L:=0,T:=0,H:=0,F:=0,R:=0,U:=0,O:=0,rs:=[] }
def ZJ5 (e:Ev) (d:Dd):Bool:=decide (0<=e.cut/\e.cut<=d.ops.length)
def evN (e:Ev) (d:Dd):Nat:=if 0<=e.cut/\e.cut<=d.ops.length then e.cut.toNat else d.ops.length
theorem X7G (e:Ev) (d:Dd):evN e d<=d.ops.length:=by unfold evN;split<;>omega
def xmh (aA:List OpT):List ByteArray:=aA.filterMap fun o=>if o.1=true then none else some o.2.2
theorem ZaG (l:List OpT) (o:OpT):xmh (l++[o])=xmh l++(if o.1=true then [] else [o.2.2]):=by
 unfold xmh;rw [List.filterMap_append]
 by_cases h:o.1=true<;>simp [h]
theorem yHD (l:List OpT):(xmh l).length<=l.length:=List.length_filterMap_le _ _
def ZmL (x:Wo) (e:Ev) (d:Dd):List ByteArray:=x.ts++xmh (d.ops.take (evN e d))
def evP (x:Wo) (e:Ev) (d:Dd):List (List Pr):=if e.K=2 then x.P++[d.rs] else x.P
def Wo.ran (x:Wo) (e:Ev) (d:Dd):Wo:={ x with ss:=(pfR x.ss x.ws d.ops (evN e d)).1,ws:=(pfR x.ss x.ws d.ops (evN e d)).2,P:=evP x e d,ts:=ZmL x e d }
def Wo.upS (x:Wo) (d:Dd):Wo:={ x with up:=true,W:=d.W,S:=d.S,L:=d.L,T:=d.T,H:=d.H,F:=d.F,R:=d.R,U:=d.U,O:=d.O,rs:=d.rs }
def Wo.doE (x:Wo) (e:Ev):Wo :=
 if e.K=5 then x.pow e.fs
 else if (x.call e).2=false\/(x.call e).1.C≠0 then x
 else if 2000<(ZmL x e (x.call e).1).length\/200<(evP x e (x.call e).1).length then x
 else if ZJ5 e (x.call e).1=true then (x.ran e (x.call e).1).pow e.fs
 else if e.K=2 then (x.ran e (x.call e).1).upS (x.call e).1
 else { (x.ran e (x.call e).1).upS (x.call e).1 with P:=[(x.call e).1.rs] }
structure Wo.ok (x:Wo):Prop where
 d:vlG x.ss x.ws=true\/(x.ss=[]/\x.ws=[])
 s:z0q x.rs=true
 p:x.P.length<=200/\∀ r∈x.P,z0q r=true
 t:x.ts.length<=2000/\∀ s∈x.ts,s.size<=64
theorem Wo.ok.le {x:Wo} (h:x.ok):x.le 1048576:=by
 have hs:=ytq h.s
 have hd:(x.ss.length<=1048576/\∀ s∈x.ss,s.size<=1048576)/\(x.ws.length<=1048576/\∀ s∈x.ws,s.2.size<=1048576):=by
  rcases h.d with h | ⟨h1,h2⟩
  ·obtain ⟨⟨h1,h2,h3⟩,h4,h5⟩:=q67 h
   refine ⟨⟨by omega,fun s hs=>by have:=h4 s hs;omega⟩,by omega,fun s hs=>?_⟩;have:=of_decide_eq_true (h5 s hs);omega
  ·rw [h1,h2];simp
 exact ⟨hd.1.1,hd.1.2,hd.2.1,hd.2.2,by omega,hs.2,by have:=h.p.1;omega,fun r hr=>by have:=ytq (h.p.2 r hr);exact ⟨by omega,this.2⟩,by have:=h.t.1;omega,fun s hs=>by have:=h.t.2 s hs;omega⟩
theorem ZZf (k l m:Int) (p:ByteArray) (n:Int):(ZQp k l m p n).size<=64:=by
 unfold ZQp
 split
 ·rename_i h
  have hd:=of_decide_eq_true (by unfold Xhw at h;exact h);rw [X5y _ _ _ _ _ (by omega)];exact Nat.le_refl _
 ·simp
theorem ZAG (s:ByteArray) (l f:Int) (n m:Nat):∀ p∈zhI s l f n m,p.size<=64:=by
 unfold zhI
 split
 ·intro p hp
  obtain ⟨i,_,rfl⟩:=List.mem_map.1 hp;exact ZZf _ _ _ _ _
 ·simp
theorem yxu (q:Int) (l:List ByteArray) (h:∀ p∈l,p.size<=64):∀ o∈qWl q l,o.2.2.size<=64:=by
 intro o ho;obtain ⟨i,hi,rfl⟩:=List.mem_mapIdx.1 ho;exact h _ (List.getElem_mem _)
theorem yHa (L F:Int) (n m:Nat) (aA:List (List Ch)):∀ p∈qMR L F n m aA,p.size<=64:=by
 have aC:∀ (aA:List (List Ch)) (aB:List ByteArray),(∀ p∈aB,p.size<=64)->∀ p∈aA.foldl (zM2 L F n m) aB,p.size<=64:=by
  intro aA
  induction aA with
  | nil=>intro aB h;exact h
  | cons b aA ih =>
   intro aB h;refine ih _ ?_;unfold zM2;intro p hp;rcases List.mem_append.1 hp with hp | hp
   ·exact h p hp
   ·exact ZAG _ _ _ _ _ p hp
 refine aC aA _ ?_;intro p hp;rw [List.mem_singleton.1 hp];exact ZZf _ _ _ _ _
def Dd.ok (d:Dd):Prop:=z0q d.rs=true/\d.ops.length<=1000/\∀ o∈d.ops,o.2.2.size<=64
theorem yEs (C:Int):(noD C).ok:=⟨vv3,by simp [noD],by simp [noD]⟩
theorem xkL (W S L T H F:Int) (rs:List Pr) (h:z0q rs=true) (hl:(kGX W S L T H F rs).ops.length<=1000):(kGX W S L T H F rs).ok:=by
 refine ⟨?_,hl,?_⟩<;>unfold kGX<;>split
 ·exact h
 ·exact vv3
 ·intro o ho
  unfold mvD at ho;simp only [List.mem_append,List.mem_cons,List.not_mem_nil,or_false] at ho;rcases ho with ho | rfl | rfl | rfl
  ·exact yxu _ _ (yHa _ _ _ _ _) o ho
  ·simp
  ·show (QCt _ _ _ _ _).size<=64
   unfold QCt
   split
   ·exact ZZf _ _ _ _ _
   ·simp
  ·simp
 ·simp [noD]
theorem ZLl (W S L T H F R U O:Int) (rs:List Pr) (b:List Ch):(QUx W S L T H F R U O rs b).ok:=by
 have hb:=(ZNi W S L T H F R U O rs b).2
 refine ⟨?_,hb,?_⟩<;>unfold QUx<;>(repeat' split)<;>first | exact vv3 | (simp [noD];done) | skip
 ·rename_i h _ _
  show z0q (apR rs b)=true;unfold apR;rw [if_pos h];exact jZe h
 ·exact yxu _ _ (ZAG _ _ _ _ _)
theorem Zns (W S L T H F R U O:Int) (rs:List Pr):(jej W S L T H F R U O rs).ok:=by
 unfold jej
 split
 ·rename_i h
  obtain ⟨_,_,_,_,_,_,_,_,h9⟩:=qTq h
  exact ⟨by first | exact h9 | exact h9.1,by simp,by simp⟩
 ·exact yEs 1
theorem zLq (W S L T H F R U O:Int) (rs:List Pr) (hl:rs.length<=1048576):(JfS W S L T H F R U O rs).ok:=by
 have hb:=(yV3 W S L T H F R U O rs hl).2;unfold JfS at hb ⊢
 split
 ·rename_i h
  rw [if_pos h] at hb;obtain ⟨_,_,_,_,_,_,_,_,h9⟩:=qTq h;exact xkL _ _ _ _ _ _ _ (by first | exact h9 | exact h9.1) hb
 ·exact yEs 1
theorem k7r (ss:List ByteArray) (ws:List (Int×ByteArray)) (n:Int):(Zfa ss ws n).ok:=by
 have hb:=(z2d ss ws n).2;unfold Zfa at hb ⊢
 split
 ·rename_i h
  rw [if_pos h] at hb
  cases hf:qAf (opX ss ws n).1 [] with
  | none=>exact yEs 2
  | some rs =>
   rw [hf] at hb;have hs:=kVn _ _ vv3 _ hf;simp only at hb ⊢
   split
   ·exact yEs 3
   ·rename_i h3
    rw [if_neg h3] at hb
    split
    ·exact yEs 4
    ·rename_i h4
     rw [if_neg h4] at hb
     split
     ·rename_i h5
      rw [if_pos h5] at hb;exact xkL _ _ _ _ _ _ _ hs hb
     ·refine ⟨hs,by simp,?_⟩
      intro o ho;simp only [List.mem_cons,List.not_mem_nil,or_false] at ho;rcases ho with rfl | rfl
      ·exact ZZf _ _ _ _ _
      ·simp
 ·exact yEs 1
theorem Wo.ok.call {x:Wo} (h:x.ok) (e:Ev):(x.call e).1.ok:=by
 have:=(ytq h.s).1;unfold Wo.call
 split
 ·exact k7r _ _ _
 ·split
  ·exact ZLl _ _ _ _ _ _ _ _ _ _ _
  ·split
   ·exact Zns _ _ _ _ _ _ _ _ _ _
   ·split
    ·exact zLq _ _ _ _ _ _ _ _ _ _ (by omega)
    ·exact yEs 0
theorem v05 (zs:List Int):∀ (hs:List (Int×List Int)) (i:Nat) (ps:List (List Int)),(∀ p∈hs,p.2.length=64)->(∀ p∈ps,p.length=64)->∀ p∈Xab zs i hs ps,p.length=64
 | [],_,_,_,h2=>h2
 | x::r,i,ps,h1,h2=>by
  rw [Xab]
  by_cases hk:x.1.toNat<ps.length
  ·refine v05 zs r (i+1) _ (fun p hp=>h1 p (List.mem_cons_of_mem _ hp)) (fun p hp=>?_)
   rcases List.mem_or_eq_of_mem_set hp with hp | rfl
   ·exact h2 p hp
   ·have e1:=h1 x List.mem_cons_self
    have e2:=h2 (ps.getD x.1.toNat []) (by simp [List.getD,hk]);unfold zcH;simp only [List.length_append,List.length_take,List.length_drop];omega
  ·rw [List.set_eq_of_length_le (by omega)]
   exact v05 zs r (i+1) _ (fun p hp=>h1 p (List.mem_cons_of_mem _ hp)) h2
theorem xTP (fs:List Int) (ss:List ByteArray) (ws:List (Int×ByteArray)) (h:vlG ss ws=true):∀ s∈q95 (Xab fs 0 (ZiU ws) (ss.map zFD)),(s.size:Int)=64:=by
 obtain ⟨_,h4,h5⟩:=q67 h;intro s hs;obtain ⟨l,hl,rfl⟩:=List.mem_map.1 hs
 have:=v05 fs (ZiU ws) 0 (ss.map zFD) (fun p hp=>by
  obtain ⟨x,hx,rfl⟩:=List.mem_map.1 hp;have:=(Zc1 (h5 x hx)).2
  simp only [vgz];omega) (fun p hp=>by
  obtain ⟨x,hx,rfl⟩:=List.mem_map.1 hp;have:=h4 x hx
  simp only [vgz];omega) l hl
 rw [strOfNums_size,this];rfl
theorem X6c (fs:List Int) (ss:List ByteArray) (ws:List (Int×ByteArray)):vlG (jYf fs ss ws) []=true\/(jYf fs ss ws=[]/\([]:List (Int×ByteArray))=[]):=by
 unfold jYf
 split
 ·rename_i h
  refine .inl ?_;obtain ⟨⟨h1,h2,h3⟩,h4,h5⟩:=q67 h;refine Zof ⟨by simp [q95,jjn];omega,by simp [q95,jjn];omega,by simp⟩ (fun s hs=>?_) (by simp);exact xTP fs ss ws h s hs
 ·exact .inr ⟨rfl,rfl⟩
theorem Wo.ok.pow {x:Wo} (h:x.ok) (fs:List Int):(x.pow fs).ok:=⟨X6c fs x.ss x.ws,vv3,h.p,h.t⟩
theorem Q27 (ss:List ByteArray) (ws:List (Int×ByteArray)) (aA:List OpT) (z:Int):vlG (pfR ss ws aA z).1 (pfR ss ws aA z).2=true\/((pfR ss ws aA z).1=[]/\(pfR ss ws aA z).2=[]):=by
 unfold pfR
 split
 ·rename_i h;exact .inl (XJb _ (ss,ws) h)
 ·exact .inr ⟨rfl,rfl⟩
theorem Wo.ok.ran {x:Wo} (h:x.ok) (e:Ev) {d:Dd} (hd:d.ok) (hn:(ZmL x e d).length<=2000/\(evP x e d).length<=200):(x.ran e d).ok:=by
 obtain ⟨h1,h2,h3⟩:=hd
 have aA:∀ s∈ZmL x e d,s.size<=64:=by
  intro s hs;rcases List.mem_append.1 hs with hs | hs
  ·exact h.t.2 s hs
  ·obtain ⟨o,ho,he⟩:=List.mem_filterMap.1 hs
   split at he
   ·cases he
   ·injection he with he
    rw [<-he];exact h3 o (List.mem_of_mem_take ho)
 have hP:∀ r∈evP x e d,z0q r=true:=by
  unfold evP
  split
  ·intro r hr
   rcases List.mem_append.1 hr with hr | hr
   ·exact h.p.2 r hr
   ·rw [List.mem_singleton.1 hr];exact h1
  ·exact h.p.2
 exact ⟨Q27 _ _ _ _,h.s,⟨hn.2,hP⟩,⟨hn.1,aA⟩⟩
theorem Wo.ok.doE {x:Wo} (h:x.ok) (e:Ev):(x.doE e).ok:=by
 have hd:=h.call e;unfold Wo.doE;generalize (x.call e)=c at hd ⊢;obtain ⟨d,aB⟩:=c;obtain ⟨h1,h2,h3⟩:=hd
 split
 ·exact h.pow _
 ·split
  ·exact h
  ·split
   ·exact h
   ·rename_i hn
    simp only at hn h1 h2 h3 ⊢;have aA:=h.ran e (d:=d) ⟨h1,h2,h3⟩ (by omega)
    split
    ·exact aA.pow _
    ·split
     ·exact ⟨aA.d,h1,aA.p,aA.t⟩
     ·exact ⟨aA.d,h1,⟨by simp,fun r hr=>by rw [List.mem_singleton.1 hr];exact h1⟩,aA.t⟩
section
structure DepF (w:World) (F:Nat->Prop) (P:World->Prop):Prop where
 now:P w
 keep:∀ w',Below 0 w w'->(∀ b,F b->b<w.heap.size->w'.heap[b]?=w.heap[b]?)->P w'
section
variable {w w':World} {F G:Nat->Prop} {P Q:World->Prop}
theorem DepF.step (h:DepF w F P) (h0:Below 0 w w') (hk:∀ b,F b->b<w.heap.size->w'.heap[b]?=w.heap[b]?):DepF w' F P :=
 ⟨h.keep w' h0 hk,fun w2 h1 h2=>h.keep w2 (h0.trans (h1.mono (Nat.zero_le _))) (fun b hb hl=>(h2 b hb (Nat.lt_of_lt_of_le hl h0.size)).trans (hk b hb hl))⟩
theorem DepF.below (h:DepF w F P) (hb:Below w.heap.size w w'):DepF w' F P:=h.step (hb.mono (Nat.zero_le _)) (fun b _ hl=>hb.block b hl)
theorem DepF.grown {r:Option Nat} (h:DepF w F P) (hg:w.grownBy w' r) (hr:∀ g,r=some g->¬ F g):DepF w' F P :=
 h.step (jJX hg (Nat.zero_le _) (fun _ _=>Nat.zero_le _)) (fun b hb hl=>hg.block b hl (fun e=>hr b e.symm hb))
theorem DepF.mono (h:DepF w F P) (hF:∀ b,b<w.heap.size->F b->G b):DepF w G P:=⟨h.now,fun w' h1 h2=>h.keep w' h1 (fun b hb hl=>h2 b (hF b hl hb) hl)⟩
theorem DepF.map (h:DepF w F P) (f:∀ W,P W->Q W):DepF w F Q:=⟨f _ h.now,fun w' h1 h2=>f _ (h.keep w' h1 h2)⟩
theorem DepF.and (h:DepF w F P) (k:DepF w F Q):DepF w F (fun W=>P W/\Q W):=⟨⟨h.now,k.now⟩,fun w' h1 h2=>⟨h.keep w' h1 h2,k.keep w' h1 h2⟩⟩
theorem QoP (h:P w) (hs:∀ w',Below w.heap.size w w'->P w'):DepF w (fun b=>b<w.heap.size) P :=
 ⟨h,fun w' h1 h2=>hs w' ⟨h1.os,h1.tape,h1.output,h1.size,fun b hb=>h2 b hb hb⟩⟩
theorem xat {lo hi:Nat} (h:Dep w lo hi P) (hF:∀ b,lo<=b->b<hi->F b):DepF w F P :=
 ⟨h.now,fun w' h1 h2=>h.keep w' (fun b h3 h4=>h2 b (hF b h3 h4) (Nat.lt_of_lt_of_le h4 h.top)) (Nat.le_trans h.top h1.size)⟩
theorem zHg (h:∀ W,P W):DepF w F P:=⟨h _,fun w' _ _=>h _⟩
end
def PstF (w:World) (F:Nat->Prop) (p:Option Addr) (P:List (List Pr)):Prop :=
 P=[]\/∃ b o,p=some ⟨b,o,none⟩/\b<w.heap.size/\F b/\∀ i,i<P.length->∃ p' c',w.cell? ⟨b,o+i,none⟩=some (.slice p' (P.getD i []).length c')/\DepF w F (fun W=>Prs W p' (P.getD i []))
section
variable {w w':World} {F G:Nat->Prop} {p:Option Addr} {P:List (List Pr)}
theorem PstF.step (h:PstF w F p P) (h0:Below 0 w w') (hk:∀ b,F b->b<w.heap.size->w'.heap[b]?=w.heap[b]?):PstF w' F p P:=by
 rcases h with h | ⟨b,o,h1,h2,h3,h4⟩
 ·exact .inl h
 ·refine .inr ⟨b,o,h1,Nat.lt_of_lt_of_le h2 h0.size,h3,fun i hi=>?_⟩
  obtain ⟨p',c',h5,h6⟩:=h4 i hi;exact ⟨p',c',(World.cell?_of_block (a:=⟨b,o+i,none⟩) (hk b h3 h2)).trans h5,h6.step h0 hk⟩
theorem PstF.mono (h:PstF w F p P) (hF:∀ b,b<w.heap.size->F b->G b):PstF w G p P:=by
 rcases h with h | ⟨b,o,h1,h2,h3,h4⟩
 ·exact .inl h
 ·refine .inr ⟨b,o,h1,h2,hF b h2 h3,fun i hi=>?_⟩
  obtain ⟨p',c',h5,h6⟩:=h4 i hi;exact ⟨p',c',h5,h6.mono hF⟩
theorem PstF.pst (h:PstF w F p P):Pst w p P:=by
 rcases h with h | ⟨b,o,h1,h2,h3,h4⟩
 ·exact .inl h
 ·refine .inr ⟨b,o,h1,h2,fun i hi=>?_⟩
  obtain ⟨p',c',h5,h6⟩:=h4 i hi;exact ⟨p',c',h5,h6.now⟩
theorem PstF.below (h:PstF w F p P) (hb:Below w.heap.size w w'):PstF w' F p P:=h.step (hb.mono (Nat.zero_le _)) (fun b _ hl=>hb.block b hl)
end
structure WoF (x:Wo) (w:World) (F:Nat->Prop) (q:Wp):Prop where
 h1:DepF w F (fun W=>Strs W q.a x.ss)
 h2:DepF w F (fun W=>Wrs W q.a' x.ws)
 h3:DepF w F (fun W=>Prs W q.s x.rs)
 h4:PstF w F q.p x.P
 h5:DepF w F (fun W=>Strs W q.t x.ts)
section
variable {x:Wo} {w w':World} {F G:Nat->Prop} {q:Wp}
theorem WoF.step (h:WoF x w F q) (h0:Below 0 w w') (hk:∀ b,F b->b<w.heap.size->w'.heap[b]?=w.heap[b]?):WoF x w' F q:=⟨h.h1.step h0 hk,h.h2.step h0 hk,h.h3.step h0 hk,h.h4.step h0 hk,h.h5.step h0 hk⟩
theorem WoF.below (h:WoF x w F q) (hb:Below w.heap.size w w'):WoF x w' F q:=h.step (hb.mono (Nat.zero_le _)) (fun b _ hl=>hb.block b hl)
theorem WoF.grown {r:Option Nat} (h:WoF x w F q) (hg:w.grownBy w' r) (hr:∀ g,r=some g->¬ F g):WoF x w' F q :=
 h.step (jJX hg (Nat.zero_le _) (fun _ _=>Nat.zero_le _)) (fun b hb hl=>hg.block b hl (fun e=>hr b e.symm hb))
theorem WoF.mono (h:WoF x w F q) (hF:∀ b,b<w.heap.size->F b->G b):WoF x w G q:=⟨h.h1.mono hF,h.h2.mono hF,h.h3.mono hF,h.h4.mono hF,h.h5.mono hF⟩
theorem WoF.at (h:WoF x w F q):x.at w q:=⟨h.h1.now,h.h2.now,h.h3.now,h.h4.pst,h.h5.now⟩
end
def QRt (w w':World) (F:Nat->Prop) (e:Ending) (x:Wo):Prop:=∃ q,e=.returned (Zov x q)/\WoF x w' (fun b=>F b\/w.heap.size<=b) q/\Below w.heap.size w w'
theorem q5E {w:World} {F:Nat->Prop} {p:Option Addr} {P:List (List Pr)} (h:PstF w F p P):∃ news:List Value,news.length=P.length/\(∀ u∈news,u.oneCell'=true)/\(∀ i,i<P.length->∃ p' c',news[i]?=some (.slice p' (P.getD i []).length c')/\DepF w F (fun W=>Prs W p' (P.getD i [])))/\(P=[]\/∃ b o,p=some ⟨b,o,none⟩/\b<w.heap.size/\∀ i u,news[i]?=some u->w.cell? ⟨b,o+i,none⟩=some u):=by
 rcases h with h | ⟨b,o,h1,h2,h3,h4⟩
 ·exact ⟨[],by simp [h],by simp,by simp [h],.inl h⟩
 ·have hc:∀ i,i<P.length->∃ u,w.cell? ⟨b,o+i,none⟩=some u:=fun i hi=>by obtain ⟨p',c',h5,_⟩:=h4 i hi;exact ⟨_,h5⟩
  refine ⟨(List.range P.length).map fun i=>(w.cell? ⟨b,o+i,none⟩).getD undef,by simp,fun u hu=>?_,fun i hi=>?_,.inr ⟨b,o,h1,h2,fun i u hu=>?_⟩⟩
  ·obtain ⟨i,hi,rfl⟩:=List.mem_map.1 hu
   obtain ⟨p',c',h5,_⟩:=h4 i (List.mem_range.1 hi);rw [h5];rfl
  ·obtain ⟨p',c',h5,h6⟩:=h4 i hi
   exact ⟨p',c',by simp [hi,h5],h6⟩
  ·obtain ⟨hi,e⟩:=List.getElem?_eq_some_iff.1 hu
   simp only [List.length_map,List.length_range] at hi;obtain ⟨p',c',h5,_⟩:=h4 i hi;rw [<-e];simp [h5]
theorem xCS (w:World) (o:Obj):Below w.heap.size w (w.alloc o):=(Below.refl _ _).alloc (Nat.le_refl _) _
theorem JoX (b j:Nat):(⟨b,0,none⟩:Addr).add j=⟨b,j,none⟩:=by unfold Addr.add;split<;>simp_all
theorem JWx (x:Int) (h0:-9223372036854775808<=x) (h1:x<=9223372036854775807):IntKind.i64.wrap x=x:=by
 simp [IntKind.wrap,IntKind.bits,IntKind.signed];omega
theorem Zoz {w:World} {g i:Nat} {v:Value} (h:w.cell? ⟨g,i,none⟩=some v):g<w.heap.size:=by
 by_cases hg:g<w.heap.size
 ·exact hg
 ·simp [World.cell?,Array.getElem?_eq_none (by omega:w.heap.size<=g)] at h
theorem xLn {w:World} {base:Nat} {e:TypeId} {size:Nat} {g n cap:Nat} {xs:List Value} (h:w.ownsRow base e size (.slice (some ⟨g,0,none⟩) n cap) n xs):base<=g:=by
 rcases h.2 with h | ⟨g',aA,aB,h1,h2,_⟩
 ·cases h.1
 ·injection h1 with h1
  injection h1 with h1;injection h1 with h1;omega
theorem ymZ {P:Program} {w:World} {F:Nat->Prop} {p:Option Addr} {Q:List (List Pr)} (h:PstF w F p Q) (t e:TypeId) (ht:P.underlying t=some (.slice e)) (c:Nat):∃ news,(∀ w',Below w.heap.size w w'->Src P 1 t (.slice p Q.length c) Q.length news w')/\news.length=Q.length/\(∀ i,i<Q.length->∃ p' c',news[i]?=some (.slice p' (Q.getD i []).length c')/\DepF w F (fun W=>Prs W p' (Q.getD i []))):=by
 obtain ⟨news,h1,h2,h3,h4⟩:=q5E h;refine ⟨news,fun w' hb=>?_,h1,h3⟩;rcases h4 with h4 | ⟨b,o,rfl,hl,h5⟩
 ·subst h4
  have:news=[]:=List.eq_nil_of_length_eq_zero h1;subst this
  cases p with
  | none=>exact Src.ofNil w' ht c
  | some x=>exact Src.ofSlice w' ht x 0 c [] (by simp) (by simp) (by simp)
 ·refine Src.ofSlice w' ht ⟨b,o,none⟩ Q.length c news (by omega) (fun j u hu=>?_) h2
  have ha:(⟨b,o,none⟩:Addr).add j=⟨b,o+j,none⟩:=by unfold Addr.add;split<;>simp_all
  rw [ha];exact (hb.cell (p:=⟨b,o+j,none⟩) hl).trans (h5 j u hu)
theorem Xiu {w:World} {F G:Nat->Prop} {g:Nat} {P:List (List Pr)} {rs:List Pr} {news:List Value} {oa:Option Addr} {oc:Nat} (hl:news.length=P.length) (h:∀ i,i<P.length->∃ p' c',news[i]?=some (.slice p' (P.getD i []).length c')/\DepF w F (fun W=>Prs W p' (P.getD i []))) (hr:Row w g (news++[.slice oa rs.length oc])) (hg:F g) (hd:DepF w F (fun W=>Prs W oa rs)):PstF w F (some ⟨g,0,none⟩) (P++[rs]):=by
 refine .inr ⟨g,0,rfl,hr.lt,hg,fun i hi=>?_⟩;rw [List.length_append,List.length_singleton] at hi
 by_cases h2:i<P.length
 ·obtain ⟨p',c',h3,h4⟩:=h i h2
  have e:(P++[rs]).getD i []=P.getD i []:=by simp [List.getD,List.getElem?_append_left h2]
  rw [e,Nat.zero_add];exact ⟨p',c',hr.cell i _ (by rw [List.getElem?_append_left (by omega)];exact h3),h4⟩
 ·obtain rfl:i=P.length:=by omega
  have e:(P++[rs]).getD P.length []=rs:=by simp [List.getD]
  rw [e,Nat.zero_add];exact ⟨oa,oc,hr.cell _ _ (by rw [<-hl];simp),hd⟩
theorem kFy {w:World} {F:Nat->Prop} {g:Nat} {rs:List Pr} {oa:Option Addr} {oc:Nat} (hr:Row w g [.slice oa rs.length oc]) (hg:F g) (hd:DepF w F (fun W=>Prs W oa rs)):PstF w F (some ⟨g,0,none⟩) [rs] :=
 Xiu (G:=F) (P:=[]) (news:=[]) rfl (fun i hi=>absurd hi (by simp)) hr hg hd
theorem Qzt {P:Program} {w:World} (t ty e:TypeId) (i:TypeInfo) (z:Value) (size aB:Nat) (ht:P.underlying t=some (.slice e)) (hi:P.info? e=some i) (hz:i.zero=some z) (aD:i.size=size) (aJ:i.bytes=aB) (aI:z.cells.size=size)
  (b B:Nat) (h0:w.ownsRow B e size (.slice (some ⟨b,0,none⟩) 0 0) 0 []) (v:Value) (n:Nat) (news:List Value) (aA:Src P size t v n news w) (hn:n<=1048576) (aK:n*aB<=281474976710656) (hB:B<=w.heap.size) :
  ∃ g cap wx,(Builtin.append_ #[t,t] ty #[.slice (some ⟨b,0,none⟩) 0 0,v]).run P w=.ok (.slice (some ⟨g,0,none⟩) n cap) wx/\wx.ownsRow B e size (.slice (some ⟨g,0,none⟩) n cap) n news/\(g=b\/g=w.heap.size)/\Below w.heap.size w wx:=by
 subst aD aJ
 by_cases aL:n=0
 ·subst aL
  have aF:news=[]:=List.eq_nil_of_length_eq_zero (by have:=aA.newsLen;omega);subst aF;have aC:=run_append_room_src (P:=P) w t t ty e i ht hi b 0 0 0 v 0 [] aA (by omega) (by simp) (by simp);exact ⟨_,_,_,aC,h0,.inl rfl,Below.refl _ _⟩
 ·have aE:(Builtin.firstCells i.size 0 (.slice (some ⟨b,0,none⟩) 0 0)).run P w.drew=.ok ([]:List Value).toArray w.drew:=run_firstCells_some w.drew i.size 0 _ 0 0 [] (by simp) (by simp)
  have aC:=run_append_grow_src (P:=P) w t t ty e i z ht hi hz (some ⟨b,0,none⟩) 0 0 [] aE v n news aA (by omega) (by omega) (by rw [Nat.zero_add,Q33 n (by omega)];exact aK);refine ⟨_,_,_,by rw [aC,Nat.zero_add],?_,.inr rfl,(Below.refl _ _).drew.alloc (Nat.le_refl _) _⟩;have aH:=grownCap_ge w (0+n) 0 e;have aG:=grownCap_le_maxLen w (0+n) 0 e (by unfold maxLen;omega);rw [Nat.zero_add] at aH aG;refine ⟨aA.newsLen,.inr ⟨w.heap.size,_,_,rfl,hB,heap_alloc_new w.drew _,aH,aG,?_,?_⟩⟩
  ·simp [size_zeroCells,aA.newsLen,aI]
   rw [<-Nat.add_mul]
   congr 1
   omega
  ·simp [aA.newsLen]
theorem Z4q {P:Program} {w:World} {aF:Array Oper} {aB:List Oper} {o:Oper} {a:Act} {Q:Exit->Act->World->Prop} (aG:o.guard=none) (s x:Operand) (t:TypeId)
  (ho:o.op=.call { callee:=.builtin .append,args:=#[s,x],argTypes:=#[t,t] }) (e:TypeId) (i:TypeInfo) (z:Value) (size aA:Nat) (ht:P.underlying t=some (.slice e)) (hi:P.info? e=some i) (hz:i.zero=some z) (aC:i.size=size) (aI:i.bytes=aA) (aH:z.cells.size=size)
  (b B:Nat) (hs:a.eval s=.slice (some ⟨b,0,none⟩) 0 0) (h0:w.ownsRow B e size (.slice (some ⟨b,0,none⟩) 0 0) 0 []) (v:Value) (hx:a.eval x=v) (n:Nat) (news:List Value) (aD:Src P size t v n news w) (hn:n<=1048576) (aJ:n*aA<=281474976710656) (hB:B<=w.heap.size)
  (h:∀ g cap wx,wx.ownsRow B e size (.slice (some ⟨g,0,none⟩) n cap) n news->(g=b\/g=w.heap.size)->Below w.heap.size w wx->wpList P aF Q aB (a.put o.dst (.slice (some ⟨g,0,none⟩) n cap)) wx):wpList P aF Q (o::aB) a w:=by
 refine wpList_plain aG fun K hK=>?_
 obtain ⟨g,cap,wx,aE,h1,h2,h3⟩:=Qzt (P:=P) (w:=w) t o.type e i z size aA ht hi hz aC aI aH b B h0 v n news aD hn aJ hB;unfold Oper.wp;simp [execOp,ho,resolve,invoke,builtin,hs,hx,aE,Result.andThen];exact hK _ _ (h g cap wx h1 h2 h3)
theorem z98 {P:Program} {w:World} {aE:Array Oper} {o:Oper} {a:Act} {K:Act->World->Prop} {Q:Exit->Act->World->Prop} {E:Prop} (aF:o.guard=none) (s x:Operand) (t:TypeId)
  (ho:o.op=.call { callee:=.builtin .append,args:=#[s,x],argTypes:=#[t,t] }) (e:TypeId) (i:TypeInfo) (z:Value) (size aA:Nat) (ht:P.underlying t=some (.slice e)) (hi:P.info? e=some i) (hz:i.zero=some z) (aB:i.size=size) (aH:i.bytes=aA) (aG:z.cells.size=size)
  (b B:Nat) (hs:a.eval s=.slice (some ⟨b,0,none⟩) 0 0) (h0:w.ownsRow B e size (.slice (some ⟨b,0,none⟩) 0 0) 0 []) (v:Value) (hx:a.eval x=v) (n:Nat) (news:List Value) (aC:Src P size t v n news w) (hn:n<=1048576) (aI:n*aA<=281474976710656) (hB:B<=w.heap.size)
  (h:∀ g cap wx,wx.ownsRow B e size (.slice (some ⟨g,0,none⟩) n cap) n news->(g=b\/g=w.heap.size)->Below w.heap.size w wx->K (a.put o.dst (.slice (some ⟨g,0,none⟩) n cap)) wx) :
  if Region.wanted o (yielded aE a.tmps)=true then Oper.wp P o a w K Q else E:=by
 have hw:Region.wanted o (yielded aE a.tmps)=true:=by simp [Region.wanted,aF]
 rw [if_pos hw];obtain ⟨g,cap,wx,aD,h1,h2,h3⟩:=Qzt (P:=P) (w:=w) t o.type e i z size aA ht hi hz aB aH aG b B h0 v n news aC hn aI hB;unfold Oper.wp;simp [execOp,ho,resolve,invoke,builtin,hs,hx,aD,Result.andThen];exact h g cap wx h1 h2 h3
end
section
theorem XGx (w:World) (X i:Nat) (v:Value):w.grownBy (w.setCell ⟨X,i,none⟩ v) (some X) :=
 ⟨rfl,rfl,rfl,by rw [World.size_setCell];exact Nat.le_refl _,fun j hj hr=>Below.heap_setCell _ _ _ _ (fun e=>hr (congrArg some e))⟩
theorem Dep.setc {w:World} {lo hi:Nat} {F:World->Prop} (h:Dep w lo hi F) (X i:Nat) (v:Value) (hX:X<lo\/hi<=X):Dep (w.setCell ⟨X,i,none⟩ v) lo hi F :=
 h.grown (XGx w X i v) (fun g e=>by cases e;exact hX)
theorem JOt {w:World} {B:Nat} {e:TypeId} {k:Nat} {a:Option Addr} {m c:Nat} {cs:List Value} (h:w.ownsRow B e k (.slice a m c) m cs):Dep w B w.heap.size (fun W=>W.ownsRow B e k (.slice a m c) m cs):=by
 refine ⟨h,Nat.le_refl _,fun w' h1 h2=>?_⟩;rcases h.2 with h3 | ⟨g,cap,aA,k1,k2,k3,k4⟩
 ·exact ⟨h.1,.inl h3⟩
 ·have hg:g<w.heap.size:=by
   rcases Nat.lt_or_ge g w.heap.size with hl | hl
   ·exact hl
   ·rw [Array.getElem?_eq_none hl] at k3;cases k3
  exact ⟨h.1,.inr ⟨g,cap,aA,k1,k2,(h1 g k2 hg).trans k3,k4⟩⟩
theorem jl1 {w:World} {lo hi:Nat} {F G:World->Prop} (h:Dep w lo hi F) (f:∀ W,F W->G W):Dep w lo hi G:=⟨f _ h.now,h.top,fun w' h1 h2=>f _ (h.keep w' h1 h2)⟩
theorem XsO {w:World} {B:Nat} {e:TypeId} {a:Option Addr} {m c:Nat} {o:List Ch} (h:w.ownsRow B e 3 (.slice a m c) o.length (jlM o)):Chs w a o:=by
 rcases yUO h with ⟨h1,h2⟩ | ⟨g,cap,h1,h2⟩
 ·exact .inl (List.eq_nil_of_length_eq_zero h2)
 ·cases h1
  exact (kX5 h).chs
theorem JWp {w:World} {B:Nat} {e:TypeId} {a:Option Addr} {m c:Nat} {zs:List Int} (h:w.ownsRow B e 1 (.slice a m c) zs.length (zs.map (Value.int .i64))):Ints w a zs:=by
 rcases yUO h with ⟨h1,h2⟩ | ⟨g,cap,h1,h2⟩
 ·exact .inl (List.eq_nil_of_length_eq_zero h2)
 ·cases h1
  have hr:=kX5 h;exact .inr ⟨g,0,rfl,hr.lt,fun i hi=>by rw [Nat.zero_add];exact hr.cell i _ (by simp [List.getD,hi])⟩
structure EvD (w0 w:World) (R:Nat) (a:Option Addr) (n c:Nat) (q:Int) (K:Int) (ba:Option Addr) (bc:Nat) (b:List Ch) (cut:Int) (hi:Nat) (y:Value) (fs:List Int):Prop where
 x:BdX w0 w 3 1 R a n c q y fs.length (fs.map (Value.int .i64)) (w0.heap.size+1) [.int .i64 K,.slice ba b.length bc,.int .i64 cut,y]
 bt:Dep w (w0.heap.size+2) hi (fun W=>Chs W ba b)
 rb:Row w w0.heap.size [.int .i64 0,.slice none 0 0,.int .i64 0,.slice none 0 0]
 yo:∀ g,y.ownBlock=some g->hi<=g
 eh:w0.heap.size+2<=hi
section
variable {w0 w w':World} {R:Nat} {a:Option Addr} {n c:Nat} {q q':Int} {K K':Int} {ba:Option Addr} {bc:Nat} {b:List Ch} {cut:Int} {hi:Nat} {y:Value} {fs:List Int}
theorem EvD.rd (h:EvD w0 w R a n c q K ba bc b cut hi y fs):Rdr w R a n c q:=h.x.s.rd
theorem EvD.pick (h:EvD w0 w R a n c q K ba bc b cut hi y fs) (hr:Rdr w' R a n c q') (hg:w.grownBy w' (some R)):EvD w0 w' R a n c q' K ba bc b cut hi y fs :=
 ⟨h.x.pick hr hg,h.bt.grown hg (fun g e=>by cases e;have:=h.x.s.lR;omega),h.rb.grown hg (fun e=>by have:=h.x.s.lR;injection e with e;omega),h.yo,h.eh⟩
theorem EvD.below (h:EvD w0 w R a n c q K ba bc b cut hi y fs) (hb:Below w.heap.size w w'):EvD w0 w' R a n c q K ba bc b cut hi y fs :=
 ⟨h.x.below hb,h.bt.below hb,h.rb.below hb,h.yo,h.eh⟩
theorem EvD.drew (h:EvD w0 w R a n c q K ba bc b cut hi y fs):EvD w0 w.drew R a n c q K ba bc b cut hi y fs:=h.below (Below.refl _ _).drew
theorem EvD.lt (h:EvD w0 w R a n c q K ba bc b cut hi y fs):w0.heap.size+2<=w.heap.size:=by have:=h.x.row.lt;omega
theorem EvD.kind (h:EvD w0 w R a n c q K ba bc b cut hi y fs) (k:Int):EvD w0 (w.setCell ⟨w0.heap.size+1,0,none⟩ (.int .i64 k)) R a n c q k ba bc b cut hi y fs :=
 ⟨h.x.set 0 (by simp) _,h.bt.setc _ _ _ (.inl (by omega)),h.rb.grown (XGx _ _ _ _) (fun e=>by injection e with e;omega),h.yo,h.eh⟩
theorem EvD.cutTo (h:EvD w0 w R a n c q K ba bc b cut hi y fs) (k:Int):EvD w0 (w.setCell ⟨w0.heap.size+1,2,none⟩ (.int .i64 k)) R a n c q K ba bc b k hi y fs :=
 ⟨h.x.set 2 (by simp) _,h.bt.setc _ _ _ (.inl (by omega)),h.rb.grown (XGx _ _ _ _) (fun e=>by injection e with e;omega),h.yo,h.eh⟩
theorem EvD.batch {bs:List Ch} {va:Option Addr} {vc:Nat} (h:EvD w0 w R a n c q K none 0 [] cut hi (.slice none 0 0) []) (hr:Rdr w' R a n c q') (hg:w.grownBy w' (some R)) (ho:w'.ownsRow w.heap.size 117 3 (.slice va bs.length vc) bs.length (jlM bs)) :
  EvD w0 (w'.setCell ⟨w0.heap.size+1,1,none⟩ (.slice va bs.length vc)) R a n c q' K va vc bs cut w'.heap.size (.slice none 0 0) []:=by
 have h1:=h.pick hr hg;have hl:=h.lt;have hs:=hg.size;refine ⟨h1.x.set 1 (by simp) _,?_,h1.rb.grown (XGx _ _ _ _) (fun e=>by injection e with e;omega),fun g e=>(by cases e),by omega⟩;exact ((jl1 (JOt ho) fun W k=>XsO k).wide (by omega) (Nat.le_refl _) (Nat.le_refl _)).setc _ _ _ (.inl (by omega))
theorem EvD.fate {z:Int} {g cap H:Nat} (h:EvD w0 w R a n c q K ba bc b cut hi y fs) (aA:w'.ownsRow w0.heap.size 3 1 (.slice (some ⟨g,0,none⟩) (fs.length+1) cap) (fs.length+1) (fs.map (Value.int .i64)++[.int .i64 z])) (hg:w.grownBy w' y.ownBlock) (aB:y.ownBlock=some g\/g=H) (hH:w.heap.size<=H) :
  EvD w0 (w'.setCell ⟨w0.heap.size+1,3,none⟩ (.slice (some ⟨g,0,none⟩) (fs.length+1) cap)) R a n c q K ba bc b cut hi (.slice (some ⟨g,0,none⟩) (fs.length+1) cap) (fs++[z]):=by
 have hl:=h.lt;have ht:=h.bt.top;have aC:hi<=g:=by rcases aB with e | e;exact h.yo g e;omega
 have he:=h.eh;have ob:(Value.slice (some ⟨g,0,none⟩) (fs.length+1) cap).ownBlock=some g:=rfl
 have xo:(Value.slice (some ⟨g,0,none⟩) (fs.length+1) cap).ownBlock≠some (w0.heap.size+1):=fun e=>by rw [ob] at e;injection e with e;omega
 have e1:(fs++[z]).map (Value.int .i64)=fs.map (Value.int .i64)++[.int .i64 z]:=by simp
 have e2:(fs++[z]).length=fs.length+1:=by simp
 have P:=h.x.s.push aA hg;have R1:=h.x.row.grown hg (fun e=>h.x.xo e.symm);have X1:BdX w0 w' 3 1 R a n c q (.slice (some ⟨g,0,none⟩) (fs.length+1) cap) (fs.length+1) (fs.map (Value.int .i64)++[.int .i64 z]) (w0.heap.size+1) [.int .i64 K,.slice ba b.length bc,.int .i64 cut,y]:=⟨P,R1,xo,h.x.xb⟩;have X2:=X1.set 3 (by simp) (.slice (some ⟨g,0,none⟩) (fs.length+1) cap);refine ⟨by rw [e1,e2];exact X2,(h.bt.grown hg (fun k e=>.inr (h.yo k e))).setc _ _ _ (.inl (by omega)),(h.rb.grown hg (fun e=>by have:=h.yo _ e.symm;omega)).grown (XGx _ _ _ _) (fun e=>by injection e with e;omega),fun k e=>by rw [ob] at e;injection e with e;omega,he⟩
theorem EvD.fin {ya:Option Addr} {m yc:Nat} (h:EvD w0 w R a n c q K ba bc b cut hi (.slice ya m yc) fs) (hm:m=fs.length) (WF:World) (e:WF=(((w.setCell ⟨w0.heap.size,0,none⟩ (.int .i64 K)).setCell ⟨w0.heap.size,1,none⟩ (.slice ba b.length bc)).setCell ⟨w0.heap.size,2,none⟩ (.int .i64 cut)).setCell ⟨w0.heap.size,3,none⟩ (.slice ya m yc)) :
  Row WF w0.heap.size [.int .i64 K,.slice ba b.length bc,.int .i64 cut,.slice ya m yc]/\Dep WF w0.heap.size WF.heap.size (fun W=>Chs W ba b)/\Dep WF w0.heap.size WF.heap.size (fun W=>Ints W ya fs)/\Rdr WF R a n c q/\w0.grownBy WF (some R):=by
 subst hm;have hr:=(((h.rb.set 0 (by simp) (.int .i64 K)).set 1 (by simp) (.slice ba b.length bc)).set 2 (by simp) (.int .i64 cut)).set 3 (by simp) (.slice ya fs.length yc);have G:=ZpU (ZpU (ZpU (XGx w w0.heap.size 0 (.int .i64 K)) (XGx _ w0.heap.size 1 (.slice ba b.length bc))) (XGx _ w0.heap.size 2 (.int .i64 cut))) (XGx _ w0.heap.size 3 (.slice ya fs.length yc));rw [<-e] at hr G;have hl:=h.lt;have hs:=G.size;have hb:Below w0.heap.size w WF:=jJX G (by omega) (fun g e=>by cases e;exact Nat.le_refl _);have ho:=h.x.s.own.kept G (.inr (fun e=>by have:=h.yo _ e;have:=h.eh;omega))
 refine ⟨hr,(h.bt.grown G (fun g e=>by cases e;exact .inl (by omega))).wide (by omega) (by have:=h.bt.top;omega) (Nat.le_refl _),jl1 (JOt ho) fun W k=>JWp k,h.rd.keep (N:=w0.heap.size) h.x.s.lR h.x.s.ga hb,?_⟩
 have g0:=h.x.s.gr;exact ⟨hb.os.trans g0.os,hb.tape.trans g0.tape,hb.output.trans g0.output,Nat.le_trans g0.size hb.size,fun i hi hr=>(hb.block i hi).trans (g0.block i hi hr)⟩
end
end
def zrK (w w':World) (e:Ending) (ss:List ByteArray) (ws:List (Int×ByteArray)):Prop:=∃ g c g' c',e=.returned (Zoj (some ⟨g,0,none⟩) ss.length c (some ⟨g',0,none⟩) ws.length c')/\w'.ownsRow w.heap.size 9 1 (.slice (some ⟨g,0,none⟩) ss.length c) ss.length (ss.map Value.string)/\w'.ownsRow w.heap.size 97 2 (.slice (some ⟨g',0,none⟩) ws.length c') ws.length (yaV ws)/\g≠g'/\Below w.heap.size w w'
theorem X4E (a:Option Addr) (ss:List ByteArray) (c:Nat) (a':Option Addr) (ws:List (Int×ByteArray)) (c':Nat) (w:World) (h:Strs w a ss) (h':Wrs w a' ws) (hl:ss.length<=1048576) (cM:ws.length<=1048576) :
  Calls Tryz.prog 32 #[Zoj a ss.length c a' ws.length c'] w fun e w'=>zrK w w' e ss ws:=by
 obtain ⟨i0,aX,bH,bC,aW⟩:=q00 kDp;have HI:=hid (And.intro aX (And.intro bH (And.intro bC aW)));clear aX bH bC aW;obtain ⟨i1,aX,bH,bC,aW⟩:=q00 yGS;have HJ:=hid (And.intro aX (And.intro bH (And.intro bC aW)));clear aX bH bC aW;unfold Zoj;go_enter Tryz.func32,Tryz.ntmps32;go_wp2_with fail;generalize aZ:w.alloc _=v1;obtain ⟨b1,z1,bA⟩:=bx1 aZ;clear aZ;generalize bG:v1.alloc _=v2;obtain ⟨b2,z2,bR⟩:=bx1 bG;clear bG;rw [z1] at bR;have HZ:Hid (v2.heap.size=w.heap.size+1+1):=hid (by omega);have hE:Below w.heap.size w v2:=b1.trans (b2.mono (by omega));replace bA:=bA.below b2;clear b1 b2 z1 z2
 have HK:Hid (∀ W,Below v2.heap.size v2 W->W.cell? ⟨w.heap.size,0,none⟩=some (.slice a ss.length c)/\W.cell? ⟨w.heap.size,1,none⟩=some (.slice a' ws.length c')):=fun W hb=>⟨(bA.below hb).now.cell 0 _ rfl,(bA.below hb).now.cell 1 _ rfl⟩
 refine wp_region_held_drew (S:=fun w'=>w'.cell? ⟨w.heap.size,0,none⟩=some (.slice a ss.length c)/\w'.cell? ⟨w.heap.size,1,none⟩=some (.slice a' ws.length c')) (by kernel_rfl) (HK.out _ (Below.refl _ _).drew) (fun bI=>?_);refine TY 1 (.pointer (some ⟨w.heap.size,0,none⟩)) rfl bI (TY 2 (.slice a ss.length c) rfl bI (TY 5 (.pointer (some ⟨w.heap.size,1,none⟩)) rfl bI (TY 6 (.slice a' ws.length c') rfl bI ?_)));simp only [PS];refine wpAnyH_ready (rs:=[0,4]) (by kernel_rfl) (by simp) ?_;refine AllReadyH.cons rfl (fun Kq aE=>?_) (AllReadyH.cons rfl (fun Kq aE=>?_) AllReadyH.nil)
 ·obtain ⟨y0,aM⟩:∃ y,y=v2.drew:=⟨_,rfl⟩
  rw [<-aM];have aU:Below v2.heap.size v2 y0:=by rw [aM];exact (Below.refl _ _).drew
  clear aM;go_simp;have aV:=xCS y0 (.cells #[] 9);have aG:=World.ownsRow_lit (w:=y0) (e:=9) (size:=1) (base:=w.heap.size) #[] 0 (by have:=aU.size;have:=HZ.out;omega) (by simp) (by simp);have l0:=(show (y0.alloc (.cells #[] 9)).heap.size=y0.heap.size+1 by simp);obtain ⟨y1,aO⟩:∃ y,y=y0.alloc (.cells #[] 9):=⟨_,rfl⟩;obtain ⟨b0,aN⟩:∃ y,y=y0.heap.size:=⟨_,rfl⟩;rw [<-aO] at aV aG l0 ⊢;rw [<-aN] at aG ⊢;have aQ:=aU.trans (aV.mono aU.size);have E0:=hid aN;have bJ:=hid l0;clear l0;clear aO;clear aN;refine aE.out _ _ (HK.out _ aQ) (fun cE=>?_)
  try simp only [PS]
  refine wpAnyH_ready (rs:=[3,4]) (by kernel_rfl) (by simp) ?_;refine AllReadyH.cons rfl (fun Kq aE=>?_) (AllReadyH.cons rfl (fun Kq aE=>?_) AllReadyH.nil)
  ·refine z98 (by rfl) _ _ 28 (by rfl) 9 i0 (.string ByteArray.empty) 1 16 Tryz.underlying28 HI.out.1 HI.out.2.1 HI.out.2.2.1 HI.out.2.2.2 rfl b0 w.heap.size (by rfl) aG _ (by rfl) ss.length _ (QKc (h.below (hE.trans (aQ.mono hE.size))) _ _ Tryz.underlying28 _) (by omega) (by omega) (by have:=aQ.size;have:=hE.size;omega) ?_
   intro g3 aB y2 aC aH aR;have aL:=aQ.trans (aR.mono aQ.size);have b8:g3<y2.heap.size:=(aC.lt _ rfl).2;refine aE.out _ _ (HK.out _ aL) (fun cH=>?_)
   try simp only [PS]
   refine RD 4 rfl (fun Kq aE=>?_);go_simp;have aS:=xCS y2 (.cells #[] 97);have aD:=World.ownsRow_lit (w:=y2) (e:=97) (size:=2) (base:=w.heap.size) #[] 0 (by have:=aL.size;have:=HZ.out;omega) (by simp) (by simp);have l2:=(show (y2.alloc (.cells #[] 97)).heap.size=y2.heap.size+1 by simp);obtain ⟨y3,aO⟩:∃ y,y=y2.alloc (.cells #[] 97):=⟨_,rfl⟩;obtain ⟨b4,aF⟩:∃ y,y=y2.heap.size:=⟨_,rfl⟩;rw [<-aO] at aS aD l2 ⊢;rw [<-aF] at aD ⊢;have aJ:=aL.trans (aS.mono aL.size);have E4:=hid aF;have cJ:=hid l2;clear l2;clear aO;clear aF;have aC:=jcb aC aS;refine aE.out _ _ (HK.out _ aJ) (fun cL=>?_)
   try simp only [PS]
   refine RD 7 rfl (fun Kq aE=>?_);refine z98 (by rfl) _ _ 29 (by rfl) 97 i1 (.agg #[.int .i64 0,.string ByteArray.empty]) 2 24 Tryz.underlying29 HJ.out.1 HJ.out.2.1 HJ.out.2.2.1 HJ.out.2.2.2 rfl b4 w.heap.size (by rfl) aD _ (by rfl) ws.length _ (Qom (h'.below (hE.trans (aJ.mono hE.size))) _ _ Tryz.underlying29 _) (by omega) (by omega) (by have:=aJ.size;have:=hE.size;omega) ?_;intro g7 aA y4 aK aI aT;have aP:=aJ.trans (aT.mono aJ.size);have aC:=jcb aC aT;refine aE.out _ _ (HK.out _ aP) (fun bU=>?_)
   try simp only [PS]
   refine TY 8 (.agg #[.slice (some ⟨g3,0,none⟩) ss.length aB,.slice (some ⟨g7,0,none⟩) ws.length aA]) rfl bU ?_;simp only [PS];refine RD 9 rfl (fun Kq aE=>?_);have R2:=(bR.below aP).now;have k0:=R2.cell 0 _ rfl;have k1:=R2.cell 1 _ rfl;obtain ⟨f0,f1⟩:=R2.z2;have kl:=R2.lt;go_simp;refine aE.out _ _ ((HK.out _ aP).imp (fun k=>(World.cell?_setCell_far _ _ _ _ (by simp)).trans ((World.cell?_setCell_far _ _ _ _ (by simp)).trans k)) (fun k=>(World.cell?_setCell_far _ _ _ _ (by simp)).trans ((World.cell?_setCell_far _ _ _ _ (by simp)).trans k))) (fun cK=>?_)
   try simp only [PS]
   refine DN ?_;go_wp2_with fail;have rF:=(R2.set 0 (by simp) (.slice (some ⟨g3,0,none⟩) ss.length aB)).set 1 (by simp) (.slice (some ⟨g7,0,none⟩) ws.length aA);have s0:=aU.size;have sz:=HZ.out;have e0:=E0.out;have e4:=E4.out;have t0:=aV.size;have t1:=aR.size;have t2:=aS.size;have t3:=aT.size;have q0:=bJ.out;have q2:=cJ.out
   have gA:g3≠w.heap.size+1:=fun e=>by clear aC aK;rcases aH with aH | aH<;>omega
   have gB:g7≠w.heap.size+1:=fun e=>by rcases aI with aI | aI<;>omega
   have gC:g3≠g7:=by rcases aH with aH | aH<;>rcases aI with aI | aI<;>omega
   clear q0 q2 sz e0 e4;have o3:=ownsRow_setCell_other (a:=⟨w.heap.size+1,1,none⟩) (ownsRow_setCell_other (a:=⟨w.heap.size+1,0,none⟩) aC (fun e=>gA (by injection e)) (.slice (some ⟨g3,0,none⟩) ss.length aB)) (fun e=>gA (by injection e)) (.slice (some ⟨g7,0,none⟩) ws.length aA);have o7:=ownsRow_setCell_other (a:=⟨w.heap.size+1,1,none⟩) (ownsRow_setCell_other (a:=⟨w.heap.size+1,0,none⟩) aK (fun e=>gB (by injection e)) (.slice (some ⟨g3,0,none⟩) ss.length aB)) (fun e=>gB (by injection e)) (.slice (some ⟨g7,0,none⟩) ws.length aA);have c0:=rF.cell 0 _ rfl;have c1:=rF.cell 1 _ rfl;have hF:Below w.heap.size w ((y4.setCell ⟨w.heap.size+1,0,none⟩ (.slice (some ⟨g3,0,none⟩) ss.length aB)).setCell ⟨w.heap.size+1,1,none⟩ (.slice (some ⟨g7,0,none⟩) ws.length aA)):=((hE.trans (aP.mono hE.size)).setCell (by simp) _).setCell (by simp) _;refine bodyPost_ret (v:=.agg #[.slice (some ⟨g3,0,none⟩) ss.length aB,.slice (some ⟨g7,0,none⟩) ws.length aA]) (by simp [results,Tryz.results32,go_sem,c0,c1]) rfl ⟨g3,aB,g7,aA,rfl,o3,o7,gC,hF⟩
  ·go_simp
   have aR:=xCS y1 (.cells #[] 97);have aD:=World.ownsRow_lit (w:=y1) (e:=97) (size:=2) (base:=w.heap.size) #[] 0 (by have:=aQ.size;have:=HZ.out;omega) (by simp) (by simp);have l1:=(show (y1.alloc (.cells #[] 97)).heap.size=y1.heap.size+1 by simp);obtain ⟨y2,aO⟩:∃ y,y=y1.alloc (.cells #[] 97):=⟨_,rfl⟩;obtain ⟨b4,aF⟩:∃ y,y=y1.heap.size:=⟨_,rfl⟩;rw [<-aO] at aR aD l1 ⊢;rw [<-aF] at aD ⊢;have aL:=aQ.trans (aR.mono aQ.size);have E4:=hid aF;have bV:=hid l1;clear l1;clear aO;clear aF;have aG:=jcb aG aR;refine aE.out _ _ (HK.out _ aL) (fun cI=>?_)
   try simp only [PS]
   refine RD 3 rfl (fun Kq aE=>?_);refine z98 (by rfl) _ _ 28 (by rfl) 9 i0 (.string ByteArray.empty) 1 16 Tryz.underlying28 HI.out.1 HI.out.2.1 HI.out.2.2.1 HI.out.2.2.2 rfl b0 w.heap.size (by rfl) aG _ (by rfl) ss.length _ (QKc (h.below (hE.trans (aL.mono hE.size))) _ _ Tryz.underlying28 _) (by omega) (by omega) (by have:=aL.size;have:=hE.size;omega) ?_;intro g3 aB y3 aC aH aS;have aJ:=aL.trans (aS.mono aL.size);have b8:g3<y3.heap.size:=(aC.lt _ rfl).2;have aD:=jcb aD aS;refine aE.out _ _ (HK.out _ aJ) (fun cC=>?_)
   try simp only [PS]
   refine RD 7 rfl (fun Kq aE=>?_);refine z98 (by rfl) _ _ 29 (by rfl) 97 i1 (.agg #[.int .i64 0,.string ByteArray.empty]) 2 24 Tryz.underlying29 HJ.out.1 HJ.out.2.1 HJ.out.2.2.1 HJ.out.2.2.2 rfl b4 w.heap.size (by rfl) aD _ (by rfl) ws.length _ (Qom (h'.below (hE.trans (aJ.mono hE.size))) _ _ Tryz.underlying29 _) (by omega) (by omega) (by have:=aJ.size;have:=hE.size;omega) ?_;intro g7 aA y4 aK aI aT;have aP:=aJ.trans (aT.mono aJ.size);have aC:=jcb aC aT;refine aE.out _ _ (HK.out _ aP) (fun bQ=>?_)
   try simp only [PS]
   refine TY 8 (.agg #[.slice (some ⟨g3,0,none⟩) ss.length aB,.slice (some ⟨g7,0,none⟩) ws.length aA]) rfl bQ ?_;simp only [PS];refine RD 9 rfl (fun Kq aE=>?_);have R2:=(bR.below aP).now;have k0:=R2.cell 0 _ rfl;have k1:=R2.cell 1 _ rfl;obtain ⟨f0,f1⟩:=R2.z2;have kl:=R2.lt;go_simp;refine aE.out _ _ ((HK.out _ aP).imp (fun k=>(World.cell?_setCell_far _ _ _ _ (by simp)).trans ((World.cell?_setCell_far _ _ _ _ (by simp)).trans k)) (fun k=>(World.cell?_setCell_far _ _ _ _ (by simp)).trans ((World.cell?_setCell_far _ _ _ _ (by simp)).trans k))) (fun cF=>?_)
   try simp only [PS]
   refine DN ?_;go_wp2_with fail;have rF:=(R2.set 0 (by simp) (.slice (some ⟨g3,0,none⟩) ss.length aB)).set 1 (by simp) (.slice (some ⟨g7,0,none⟩) ws.length aA);have s0:=aU.size;have sz:=HZ.out;have e0:=E0.out;have e4:=E4.out;have t0:=aV.size;have t1:=aR.size;have t2:=aS.size;have t3:=aT.size;have q0:=bJ.out;have q1:=bV.out
   have gA:g3≠w.heap.size+1:=fun e=>by clear aC aK;rcases aH with aH | aH<;>omega
   have gB:g7≠w.heap.size+1:=fun e=>by rcases aI with aI | aI<;>omega
   have gC:g3≠g7:=by rcases aH with aH | aH<;>rcases aI with aI | aI<;>omega
   clear q0 q1 sz e0 e4;have o3:=ownsRow_setCell_other (a:=⟨w.heap.size+1,1,none⟩) (ownsRow_setCell_other (a:=⟨w.heap.size+1,0,none⟩) aC (fun e=>gA (by injection e)) (.slice (some ⟨g3,0,none⟩) ss.length aB)) (fun e=>gA (by injection e)) (.slice (some ⟨g7,0,none⟩) ws.length aA);have o7:=ownsRow_setCell_other (a:=⟨w.heap.size+1,1,none⟩) (ownsRow_setCell_other (a:=⟨w.heap.size+1,0,none⟩) aK (fun e=>gB (by injection e)) (.slice (some ⟨g3,0,none⟩) ss.length aB)) (fun e=>gB (by injection e)) (.slice (some ⟨g7,0,none⟩) ws.length aA);have c0:=rF.cell 0 _ rfl;have c1:=rF.cell 1 _ rfl;have hF:Below w.heap.size w ((y4.setCell ⟨w.heap.size+1,0,none⟩ (.slice (some ⟨g3,0,none⟩) ss.length aB)).setCell ⟨w.heap.size+1,1,none⟩ (.slice (some ⟨g7,0,none⟩) ws.length aA)):=((hE.trans (aP.mono hE.size)).setCell (by simp) _).setCell (by simp) _;refine bodyPost_ret (v:=.agg #[.slice (some ⟨g3,0,none⟩) ss.length aB,.slice (some ⟨g7,0,none⟩) ws.length aA]) (by simp [results,Tryz.results32,go_sem,c0,c1]) rfl ⟨g3,aB,g7,aA,rfl,o3,o7,gC,hF⟩
 ·obtain ⟨y0,aM⟩:∃ y,y=v2.drew:=⟨_,rfl⟩
  rw [<-aM];have aU:Below v2.heap.size v2 y0:=by rw [aM];exact (Below.refl _ _).drew
  clear aM;go_simp;have aV:=xCS y0 (.cells #[] 97);have aD:=World.ownsRow_lit (w:=y0) (e:=97) (size:=2) (base:=w.heap.size) #[] 0 (by have:=aU.size;have:=HZ.out;omega) (by simp) (by simp);have l0:=(show (y0.alloc (.cells #[] 97)).heap.size=y0.heap.size+1 by simp);obtain ⟨y1,aO⟩:∃ y,y=y0.alloc (.cells #[] 97):=⟨_,rfl⟩;obtain ⟨b4,aF⟩:∃ y,y=y0.heap.size:=⟨_,rfl⟩;rw [<-aO] at aV aD l0 ⊢;rw [<-aF] at aD ⊢;have aQ:=aU.trans (aV.mono aU.size);have E4:=hid aF;have bJ:=hid l0;clear l0;clear aO;clear aF;refine aE.out _ _ (HK.out _ aQ) (fun bZ=>?_)
  try simp only [PS]
  refine RD 0 rfl (fun Kq aE=>?_);go_simp;have aR:=xCS y1 (.cells #[] 9);have aG:=World.ownsRow_lit (w:=y1) (e:=9) (size:=1) (base:=w.heap.size) #[] 0 (by have:=aQ.size;have:=HZ.out;omega) (by simp) (by simp);have l1:=(show (y1.alloc (.cells #[] 9)).heap.size=y1.heap.size+1 by simp);obtain ⟨y2,aO⟩:∃ y,y=y1.alloc (.cells #[] 9):=⟨_,rfl⟩;obtain ⟨b0,aN⟩:∃ y,y=y1.heap.size:=⟨_,rfl⟩;rw [<-aO] at aR aG l1 ⊢;rw [<-aN] at aG ⊢;have aL:=aQ.trans (aR.mono aQ.size);have E0:=hid aN;have bV:=hid l1;clear l1;clear aO;clear aN;have aD:=jcb aD aR;refine aE.out _ _ (HK.out _ aL) (fun bY=>?_)
  try simp only [PS]
  refine RD 3 rfl (fun Kq aE=>?_);refine z98 (by rfl) _ _ 28 (by rfl) 9 i0 (.string ByteArray.empty) 1 16 Tryz.underlying28 HI.out.1 HI.out.2.1 HI.out.2.2.1 HI.out.2.2.2 rfl b0 w.heap.size (by rfl) aG _ (by rfl) ss.length _ (QKc (h.below (hE.trans (aL.mono hE.size))) _ _ Tryz.underlying28 _) (by omega) (by omega) (by have:=aL.size;have:=hE.size;omega) ?_;intro g3 aB y3 aC aH aS;have aJ:=aL.trans (aS.mono aL.size);have b8:g3<y3.heap.size:=(aC.lt _ rfl).2;have aD:=jcb aD aS;refine aE.out _ _ (HK.out _ aJ) (fun bW=>?_)
  try simp only [PS]
  refine RD 7 rfl (fun Kq aE=>?_);refine z98 (by rfl) _ _ 29 (by rfl) 97 i1 (.agg #[.int .i64 0,.string ByteArray.empty]) 2 24 Tryz.underlying29 HJ.out.1 HJ.out.2.1 HJ.out.2.2.1 HJ.out.2.2.2 rfl b4 w.heap.size (by rfl) aD _ (by rfl) ws.length _ (Qom (h'.below (hE.trans (aJ.mono hE.size))) _ _ Tryz.underlying29 _) (by omega) (by omega) (by have:=aJ.size;have:=hE.size;omega) ?_;intro g7 aA y4 aK aI aT;have aP:=aJ.trans (aT.mono aJ.size);have aC:=jcb aC aT;refine aE.out _ _ (HK.out _ aP) (fun aY=>?_)
  try simp only [PS]
  refine TY 8 (.agg #[.slice (some ⟨g3,0,none⟩) ss.length aB,.slice (some ⟨g7,0,none⟩) ws.length aA]) rfl aY ?_;simp only [PS];refine RD 9 rfl (fun Kq aE=>?_);have R2:=(bR.below aP).now;have k0:=R2.cell 0 _ rfl;have k1:=R2.cell 1 _ rfl;obtain ⟨f0,f1⟩:=R2.z2;have kl:=R2.lt;go_simp;refine aE.out _ _ ((HK.out _ aP).imp (fun k=>(World.cell?_setCell_far _ _ _ _ (by simp)).trans ((World.cell?_setCell_far _ _ _ _ (by simp)).trans k)) (fun k=>(World.cell?_setCell_far _ _ _ _ (by simp)).trans ((World.cell?_setCell_far _ _ _ _ (by simp)).trans k))) (fun b7=>?_)
  try simp only [PS]
  refine DN ?_;go_wp2_with fail;have rF:=(R2.set 0 (by simp) (.slice (some ⟨g3,0,none⟩) ss.length aB)).set 1 (by simp) (.slice (some ⟨g7,0,none⟩) ws.length aA);have s0:=aU.size;have sz:=HZ.out;have e0:=E0.out;have e4:=E4.out;have t0:=aV.size;have t1:=aR.size;have t2:=aS.size;have t3:=aT.size;have q0:=bJ.out;have q1:=bV.out
  have gA:g3≠w.heap.size+1:=fun e=>by clear aC aK;rcases aH with aH | aH<;>omega
  have gB:g7≠w.heap.size+1:=fun e=>by rcases aI with aI | aI<;>omega
  have gC:g3≠g7:=by rcases aH with aH | aH<;>rcases aI with aI | aI<;>omega
  clear q0 q1 sz e0 e4;have o3:=ownsRow_setCell_other (a:=⟨w.heap.size+1,1,none⟩) (ownsRow_setCell_other (a:=⟨w.heap.size+1,0,none⟩) aC (fun e=>gA (by injection e)) (.slice (some ⟨g3,0,none⟩) ss.length aB)) (fun e=>gA (by injection e)) (.slice (some ⟨g7,0,none⟩) ws.length aA);have o7:=ownsRow_setCell_other (a:=⟨w.heap.size+1,1,none⟩) (ownsRow_setCell_other (a:=⟨w.heap.size+1,0,none⟩) aK (fun e=>gB (by injection e)) (.slice (some ⟨g3,0,none⟩) ss.length aB)) (fun e=>gB (by injection e)) (.slice (some ⟨g7,0,none⟩) ws.length aA);have c0:=rF.cell 0 _ rfl;have c1:=rF.cell 1 _ rfl;have hF:Below w.heap.size w ((y4.setCell ⟨w.heap.size+1,0,none⟩ (.slice (some ⟨g3,0,none⟩) ss.length aB)).setCell ⟨w.heap.size+1,1,none⟩ (.slice (some ⟨g7,0,none⟩) ws.length aA)):=((hE.trans (aP.mono hE.size)).setCell (by simp) _).setCell (by simp) _;refine bodyPost_ret (v:=.agg #[.slice (some ⟨g3,0,none⟩) ss.length aB,.slice (some ⟨g7,0,none⟩) ws.length aA]) (by simp [results,Tryz.results32,go_sem,c0,c1]) rfl ⟨g3,aB,g7,aA,rfl,o3,o7,gC,hF⟩
section
theorem ZAx:(Tryz.prog.info? 62).map (·.size)=some 16:=by kernel_rfl
theorem Qvn (w:World) (b o:Nat) (vs:List Value):w.grownBy (w.setCells b o vs) (some b) :=
 ⟨(zyN b vs o w).1,(zyN b vs o w).2.1,(zyN b vs o w).2.2,Nat.le_of_eq (QUl b vs o w).symm,fun i hi hr=>zWW b vs o w i (fun e=>hr (congrArg some e))⟩
theorem Row.sets {w:World} {g:Nat} {cs:List Value} (h:Row w g cs) (vs:List Value) (hl:vs.length=cs.length):Row (w.setCells g 0 vs) g vs:=by
 have ht:w.there g 0 vs.length:=h.there hl;have hr:=World.rangeAt_setCells_same w g 0 vs ht;have aA:=World.there_setCells ht g 0 vs;refine ⟨by rw [QUl];exact h.lt,fun i v hv=>?_,fun i hi=>?_⟩
 ·have:=hr i v hv;rwa [Nat.zero_add] at this
 ·have:=(aA i hi).2;rwa [Nat.zero_add] at this
theorem PstF.grown {w w':World} {F:Nat->Prop} {p:Option Addr} {P:List (List Pr)} {r:Option Nat} (h:PstF w F p P) (hg:w.grownBy w' r) (hr:∀ g,r=some g->¬ F g):PstF w' F p P :=
 h.step (jJX hg (Nat.zero_le _) (fun _ _=>Nat.zero_le _)) (fun b hb hl=>hg.block b hl (fun e=>hr b e.symm hb))
theorem xdC:(Tryz.prog.info? 59).map (·.size)=some 10:=by kernel_rfl
theorem jAy {P:Program} {aC:Array Oper} {aA:List Oper} {op:Oper} {a:Act} {w:World} {Q:Exit->Act->World->Prop} (aD:op.guard=none) (s:TypeId) (x:Operand) (f:Nat) (ho:op.op=.fieldAddr s x f) (v:Value) (aB:(Instr.fieldAt s (a.eval x) f).run P w=.ok v w) (h:wpList P aC Q aA (a.put op.dst v) w):wpList P aC Q (op::aA) a w:=by
 refine wpList_plain aD fun K hK=>?_
 unfold Oper.wp execOp;simp only [ho,aB,Sem.run_bind,Sem.run_pure,Result.andThen_ok];exact hK _ _ h
section
variable {w:World} {g:Nat} {pre cs post:List Value}
theorem Row.rangeMid (h:Row w g (pre++cs++post)):w.rangeAt g pre.length cs:=fun j v hv=>by
 have hj:j<cs.length:=(List.getElem?_eq_some_iff.1 hv).1;exact h.cell (pre.length+j) v (by rw [List.append_assoc,List.getElem?_append_right (by omega),List.getElem?_append_left (by omega),<-hv];congr 1;omega)
theorem Row.thereMid (h:Row w g (pre++cs++post)) {n:Nat} (hn:n=cs.length):w.there g pre.length n:=fun j hj=>by
 subst hn;exact ⟨by rw [h.rangeMid j cs[j] (List.getElem?_eq_getElem hj)];rfl,h.froz (pre.length+j) (by simp;omega)⟩
theorem Row.setsMid (h:Row w g (pre++cs++post)) (vs:List Value) (hl:vs.length=cs.length):Row (w.setCells g pre.length vs) g (pre++vs++post):=by
 have ht:w.there g pre.length vs.length:=h.thereMid hl;refine ⟨by rw [QUl];exact h.lt,fun i v hv=>?_,fun i hi=>by rw [World.frozen?_setCells];exact h.froz i (by simp at hi ⊢;omega)⟩
 by_cases h1:i<pre.length
 ·rw [World.cell?_setCells_out g vs _ w ⟨g,i,none⟩ (fun _ _=>.inl h1)]
  refine h.cell i v ?_;rw [List.append_assoc,List.getElem?_append_left h1] at hv ⊢;exact hv
 ·by_cases h2:i<pre.length+vs.length
  ·have:=World.rangeAt_setCells_same w g pre.length vs ht (i-pre.length) v (by rw [List.append_assoc,List.getElem?_append_right (by omega),List.getElem?_append_left (by omega)] at hv;exact hv)
   rwa [show pre.length+(i-pre.length)=i by omega] at this
  ·rw [World.cell?_setCells_out g vs _ w ⟨g,i,none⟩ (fun _ _=>.inr (by show pre.length+vs.length<=i;omega))]
   refine h.cell i v ?_;rw [List.append_assoc,List.getElem?_append_right (by omega),List.getElem?_append_right (by omega)] at hv ⊢;rw [<-hl];exact hv
end
end
end Go.Proofs.YtcdojnnkjeakmaaGreatDoor
namespace Go.Proofs.YtcdojnnkjeakmaaGreatDoor
open Go.RowKit Go.Proofs.YtcdojnnkjeakmaaGreatDoor.nw
def yNz (n wd:Int):Wo:={ w:=wd,ss:=newSS n,ws:=[],up:=false,W:=0,S:=0,L:=0,T:=0,H:=0,F:=0,R:=0,U:=0,O:=0,rs:=[],P:=[[]],ts:=[] }
theorem js8 {n wd:Int} (hn:8<=n/\n<=200):(yNz n wd).ok:=by
 refine ⟨.inl ?_,vv3,⟨by simp [yNz],fun r hr=>?_⟩,⟨by simp [yNz],fun s hs=>by simp [yNz] at hs⟩⟩
 ·show vlG (newSS n) []=true
  unfold newSS;rw [if_pos hn];exact Zof (by rw [List.length_replicate];simp;omega) (fun s hs=>by rw [List.eq_of_mem_replicate hs];decide) (fun x hx=>by cases hx)
 ·simp [yNz] at hr
  subst hr;exact vv3
theorem ZY5 (n wd:Int) (w:World) (hn:8<=n/\n<=200) (h1:1<=wd/\wd<=8):Calls Tryz.prog 59 #[.int .i64 n,.int .i64 wd] w fun e w'=>QRt w w' (fun _=>False) e (yNz n wd):=by
 refine (nw_s_yes n wd w hn h1).mono ?_;rintro e w' ⟨a,c,a',c',p,cp,rfl,h1,h2,h3,h4,hb⟩;have hd:=JKD (lo:=w.heap.size) h1 Z3Z (fun g hg=>(h3 g hg).1);refine ⟨⟨a,c,a',c',none,0,p,cp,none,0⟩,rfl,⟨(xat hd (fun b hb _=>.inr hb)).map fun U k=>k.strs,zHg fun _=>.inl rfl,zHg fun _=>.inl rfl,?_,zHg fun _=>.inl rfl⟩,hb⟩;obtain ⟨g,rfl,hr⟩:=h2.resolve_left (by simp [nops]);exact kFy (oa:=none) (oc:=0) hr (.inr (h4 g rfl)) (zHg fun _=>.inl rfl)
theorem jau {P:Program} {aB:Array Oper} {o:Oper} {a:Act} {w:World} {K:Act->World->Prop} {Q:Exit->Act->World->Prop} {E:Prop} (aC:o.guard=none) (ty:TypeId) (x y:Operand) (ho:o.op=.store ty x y) (b k:Nat) (aA:Array Value) (hx:a.eval x=.pointer (some ⟨b,k,none⟩)) (hy:a.eval y=.agg aA) (ht:w.there b k aA.size) (hi:(P.info? ty).map (·.size)=some aA.size) (h1:aA.all (·.oneCell')=true)
  (h:K (a.put o.dst undef) (w.setCells b k aA.toList)):if Region.wanted o (yielded aB a.tmps)=true then Oper.wp P o a w K Q else E:=by
 have hw:Region.wanted o (yielded aB a.tmps)=true:=by simp [Region.wanted,aC]
 rw [if_pos hw];exact wp_store_mid ty x y ho b k aA hx hy ht hi h1 h
theorem Q2q {P:Program} {aA:Array Oper} {o:Oper} {a:Act} {w:World} {K:Act->World->Prop} {Q:Exit->Act->World->Prop} {E:Prop} (aB:o.guard=none) (ty:TypeId) (x:Operand) (ho:o.op=.load ty x) (b k:Nat) (hx:a.eval x=.pointer (some ⟨b,k,none⟩)) (cs:List Value) (d:TypeDesc) (hc:w.rangeAt b k cs) (hu:P.underlying ty=some d) (hd:d.isRow=true) (hi:(P.info? ty).map (·.size)=some cs.length)
  (h:K (a.put o.dst (.agg cs.toArray)) w):if Region.wanted o (yielded aA a.tmps)=true then Oper.wp P o a w K Q else E:=by
 have hw:Region.wanted o (yielded aA a.tmps)=true:=by simp [Region.wanted,aB]
 rw [if_pos hw];exact wp_load_mid ty x ho b k hx cs d hc hu hd hi h
end Go.Proofs.YtcdojnnkjeakmaaGreatDoor
namespace Go.Proofs.YtcdojnnkjeakmaaGreatDoor
open Go.RowKit
section
abbrev WrT:=Int×ByteArray
structure SpS (w wx:World) (R:Nat) (a:Option Addr) (n c:Nat) (p:Int) (A4 B g sc:Nat) (ss:List ByteArray) (g' sc':Nat) (ws:List WrT):Prop where
 rd:Rdr wx R a n c p
 gr:w.grownBy wx (some R)
 lR:R<w.heap.size
 ga:∀ g o,a=some ⟨g,o,none⟩->0<n->g<w.heap.size
 r4:Row wx A4 [.slice none 0 0,.slice none 0 0]
 r5:Row wx B [.slice (some ⟨g,0,none⟩) ss.length sc,.slice (some ⟨g',0,none⟩) ws.length sc']
 hA:w.heap.size<=A4
 hB:A4<B
 so:wx.ownsRow (A4+1) 9 1 (.slice (some ⟨g,0,none⟩) ss.length sc) ss.length (ss.map Value.string)
 wo:wx.ownsRow (A4+1) 97 2 (.slice (some ⟨g',0,none⟩) ws.length sc') ws.length (yaV ws)
 n1:g≠B
 n2:g'≠B
 ne:g≠g'
section
variable {w wx wy:World} {R:Nat} {a:Option Addr} {n c:Nat} {p p':Int} {A4 B g sc:Nat} {ss:List ByteArray} {g' sc':Nat} {ws:List WrT}
theorem SpS.lt (h:SpS w wx R a n c p A4 B g sc ss g' sc' ws):w.heap.size<=wx.heap.size:=h.gr.size
theorem SpS.lg (h:SpS w wx R a n c p A4 B g sc ss g' sc' ws):(A4+1<=g/\g<wx.heap.size)/\(A4+1<=g'/\g'<wx.heap.size):=⟨h.so.lt g rfl,h.wo.lt g' rfl⟩
theorem SpS.below (h:SpS w wx R a n c p A4 B g sc ss g' sc' ws) (hb:Below wx.heap.size wx wy):SpS w wy R a n c p A4 B g sc ss g' sc' ws :=
 ⟨h.rd.below hb,ZpU h.gr (Qbp _ hb),h.lR,h.ga,h.r4.below hb,h.r5.below hb,h.hA,h.hB,jcb h.so hb,jcb h.wo hb,h.n1,h.n2,h.ne⟩
theorem SpS.drew (h:SpS w wx R a n c p A4 B g sc ss g' sc' ws):SpS w wx.drew R a n c p A4 B g sc ss g' sc' ws:=h.below (Below.refl _ _).drew
theorem SpS.pick (h:SpS w wx R a n c p A4 B g sc ss g' sc' ws) (hr:Rdr wy R a n c p') (hg:wx.grownBy wy (some R)):SpS w wy R a n c p' A4 B g sc ss g' sc' ws:=by
 have h1:=h.lR;have h2:=h.hA;have h3:=h.hB;have h4:=h.lg;exact ⟨hr,ZpU h.gr hg,h.lR,h.ga,h.r4.grown hg (fun e=>by injection e with e;omega),h.r5.grown hg (fun e=>by injection e with e;omega),h.hA,h.hB,h.so.kept hg (.inr (fun e=>by have e:=Option.some.inj e;(try dsimp only at e);omega)),h.wo.kept hg (.inr (fun e=>by have e:=Option.some.inj e;(try dsimp only at e);omega)),h.n1,h.n2,h.ne⟩
theorem js2 (hr:Rdr wx R a n c p) (g0:w.grownBy wx (some R)) (lR:R<w.heap.size) (ga:∀ g o,a=some ⟨g,o,none⟩->0<n->g<w.heap.size) (hb:Below w.heap.size wx wy):Rdr wy R a n c p/\w.grownBy wy (some R) :=
 ⟨hr.keep (N:=w.heap.size) lR ga hb,⟨hb.os.trans g0.os,hb.tape.trans g0.tape,hb.output.trans g0.output,Nat.le_trans g0.size hb.size,fun i hi hr=>(hb.block i hi).trans (g0.block i hi hr)⟩⟩
theorem SpS.sect (h:SpS w wx R a n c p A4 B g sc ss g' sc' ws) (k:Nat) (hk:k<ss.length) (s:ByteArray):SpS w (wx.setCell ⟨g,k,none⟩ (.string s)) R a n c p A4 B g sc (ss.set k s) g' sc' ws:=by
 have h2:=h.hA;have h3:=h.hB;have h4:=h.lg;have G:wx.grownBy (wx.setCell ⟨g,k,none⟩ (.string s)) (some g):=XGx wx g k _;have hb:Below w.heap.size wx (wx.setCell ⟨g,k,none⟩ (.string s)):=(Below.refl _ _).setCell (by show _<=g;omega) _;obtain ⟨q1,q2⟩:=js2 h.rd h.gr h.lR h.ga hb;have aB:=h.ne;have aA:=h.n1;have so:=(h.so.stored k (.string s)).1;rw [show (ss.map Value.string).set k (.string s)=(ss.set k s).map Value.string by rw [List.map_set]] at so;exact ⟨q1,q2,h.lR,h.ga,h.r4.grown G (fun e=>by injection e with e;omega),by rw [List.length_set];exact h.r5.grown G (fun e=>by injection e with e;omega),h.hA,h.hB,by rw [List.length_set];exact so,h.wo.kept G (.inr (fun e=>by have e:=Option.some.inj e;(try dsimp only at e);omega)),h.n1,h.n2,h.ne⟩
theorem SpS.pushW (h:SpS w wx R a n c p A4 B g sc ss g' sc' ws) {k cap H:Nat} {aA:List WrT} (aB:wy.ownsRow (A4+1) 97 2 (.slice (some ⟨k,0,none⟩) aA.length cap) aA.length (yaV aA)) (hg:wx.grownBy wy (some g')) (aC:(some g':Option Nat)=some k\/k=H) (hH:wx.heap.size<=H) :
  Row wy B [.slice (some ⟨g,0,none⟩) ss.length sc,.slice (some ⟨g',0,none⟩) ws.length sc']/\SpS w (wy.setCell ⟨B,1,none⟩ (.slice (some ⟨k,0,none⟩) aA.length cap)) R a n c p A4 B g sc ss k cap aA:=by
 have h2:=h.hA;have h3:=h.hB;have h4:=h.lg;have h5:=h.r5.lt;have aE:=h.ne;have aD:=h.n2
 have kB:k≠B:=fun e=>by rcases aC with q | q;(have q:=Option.some.inj q;omega);omega
 have kg:g≠k:=fun e=>by rcases aC with q | q;(have q:=Option.some.inj q;omega);omega
 have hb:Below w.heap.size wx wy:=jJX hg h.lt (fun x e=>by have e:=Option.some.inj e;(try dsimp only at e);omega);have r5:Row wy B _:=h.r5.grown hg (fun e=>by injection e with e;omega);refine ⟨r5,?_⟩;have G:wy.grownBy (wy.setCell ⟨B,1,none⟩ (.slice (some ⟨k,0,none⟩) aA.length cap)) (some B):=XGx wy B 1 _;obtain ⟨q1,q2⟩:=js2 h.rd h.gr h.lR h.ga (hb.trans ((Below.refl w.heap.size wy).setCell (by show _<=B;omega) (.slice (some ⟨k,0,none⟩) aA.length cap):Below w.heap.size wy (wy.setCell ⟨B,1,none⟩ (.slice (some ⟨k,0,none⟩) aA.length cap))));exact ⟨q1,q2,h.lR,h.ga,(h.r4.grown hg (fun e=>by injection e with e;omega)).grown G (fun e=>by injection e with e;omega),r5.set 1 (by simp) _,h.hA,h.hB,(h.so.kept hg (.inr (fun e=>by have e:=Option.some.inj e;(try dsimp only at e);omega))).kept G (.inr (fun e=>by have e:=Option.some.inj e;(try dsimp only at e);have:=h.n1;omega)),aB.kept G (.inr (fun e=>by have e:=Option.some.inj e;(try dsimp only at e);omega)),h.n1,kB,kg⟩
theorem SpS.pushS (h:SpS w wx R a n c p A4 B g sc ss g' sc' ws) {k cap H:Nat} {aA:List ByteArray} (aB:wy.ownsRow (A4+1) 9 1 (.slice (some ⟨k,0,none⟩) aA.length cap) aA.length (aA.map Value.string)) (hg:wx.grownBy wy (some g)) (aC:(some g:Option Nat)=some k\/k=H) (hH:wx.heap.size<=H) :
  Row wy B [.slice (some ⟨g,0,none⟩) ss.length sc,.slice (some ⟨g',0,none⟩) ws.length sc']/\SpS w (wy.setCell ⟨B,0,none⟩ (.slice (some ⟨k,0,none⟩) aA.length cap)) R a n c p A4 B k cap aA g' sc' ws:=by
 have h2:=h.hA;have h3:=h.hB;have h4:=h.lg;have h5:=h.r5.lt;have aE:=h.ne;have aD:=h.n1
 have kB:k≠B:=fun e=>by rcases aC with q | q;(have q:=Option.some.inj q;omega);omega
 have kg:k≠g':=fun e=>by rcases aC with q | q;(have q:=Option.some.inj q;omega);omega
 have hb:Below w.heap.size wx wy:=jJX hg h.lt (fun x e=>by have e:=Option.some.inj e;(try dsimp only at e);omega);have r5:Row wy B _:=h.r5.grown hg (fun e=>by injection e with e;omega);refine ⟨r5,?_⟩;have G:wy.grownBy (wy.setCell ⟨B,0,none⟩ (.slice (some ⟨k,0,none⟩) aA.length cap)) (some B):=XGx wy B 0 _;obtain ⟨q1,q2⟩:=js2 h.rd h.gr h.lR h.ga (hb.trans ((Below.refl w.heap.size wy).setCell (by show _<=B;omega) (.slice (some ⟨k,0,none⟩) aA.length cap):Below w.heap.size wy (wy.setCell ⟨B,0,none⟩ (.slice (some ⟨k,0,none⟩) aA.length cap))));exact ⟨q1,q2,h.lR,h.ga,(h.r4.grown hg (fun e=>by injection e with e;omega)).grown G (fun e=>by injection e with e;omega),r5.set 0 (by simp) _,h.hA,h.hB,aB.kept G (.inr (fun e=>by have e:=Option.some.inj e;(try dsimp only at e);omega)),(h.wo.kept hg (.inr (fun e=>by have e:=Option.some.inj e;(try dsimp only at e);omega))).kept G (.inr (fun e=>by have e:=Option.some.inj e;(try dsimp only at e);have:=h.n2;omega)),kB,h.n2,kg⟩
def DkLe (ss:List ByteArray) (ws:List WrT):Prop:=(ss.length<=201/\∀ s∈ss,s.size<=64)/\(ws.length<=301/\∀ x∈ws,x.2.size<=64)
def JP4 (w w':World) (r:Ending):Prop:=∃ (ss:List ByteArray) (ws:List WrT) (g sc g' sc':Nat),r=.returned (Zoj (some ⟨g,0,none⟩) ss.length sc (some ⟨g',0,none⟩) ws.length sc')/\DkLe ss ws/\w'.ownsRow w.heap.size 97 2 (.slice (some ⟨g',0,none⟩) ws.length sc') ws.length (yaV ws)/\DepF w' (fun b=>w.heap.size<=b/\b≠g') (fun W=>Strs W (some ⟨g,0,none⟩) ss)
theorem yiG {B:Nat} (h:wx.ownsRow B 9 1 (.slice (some ⟨g,0,none⟩) ss.length sc) ss.length (ss.map Value.string)) (k:Nat) (hk:k<=ss.length):DepF wx (fun b=>b=g) (fun W=>Strs W (some ⟨g,0,none⟩) (ss.take k)):=by
 have hl:=(h.lt g rfl).2
 have hc:∀ i,i<ss.length->wx.cell? ⟨g,i,none⟩=some (.string (ss.getD i ByteArray.empty)):=fun i hi=>by
  have:=h.cellAt i (by simpa using hi);rw [this];simp [List.getD,hi]
 have aA:∀ W:World,(∀ i,i<ss.length->W.cell? ⟨g,i,none⟩=some (.string (ss.getD i ByteArray.empty)))->g<W.heap.size->Strs W (some ⟨g,0,none⟩) (ss.take k):=fun W hW hs=>.inr ⟨g,0,rfl,hs,fun i hi=>by
  rw [List.length_take] at hi;rw [Nat.zero_add,hW i (by omega)]
  simp [List.getD,List.getElem?_take,show i<k by omega]⟩
 refine ⟨aA wx hc hl,fun W hb hk=>aA W (fun i hi=>?_) (Nat.lt_of_lt_of_le hl hb.size)⟩;rw [<-hc i hi];exact World.cell?_of_block (a:=⟨g,i,none⟩) (hk g rfl hl)
theorem SpS.fin (h:SpS w wx R a n c p A4 B g sc ss g' sc' ws) (k:Nat) (hk:k<=ss.length) (u v:Value) :
  Row ((wx.setCell ⟨A4,0,none⟩ u).setCell ⟨A4,1,none⟩ v) A4 [u,v]/\Rdr ((wx.setCell ⟨A4,0,none⟩ u).setCell ⟨A4,1,none⟩ v) R a n c p/\w.grownBy ((wx.setCell ⟨A4,0,none⟩ u).setCell ⟨A4,1,none⟩ v) (some R)/\((wx.setCell ⟨A4,0,none⟩ u).setCell ⟨A4,1,none⟩ v).ownsRow w.heap.size 97 2 (.slice (some ⟨g',0,none⟩) ws.length sc') ws.length (yaV ws)/\DepF ((wx.setCell ⟨A4,0,none⟩ u).setCell ⟨A4,1,none⟩ v) (fun b=>w.heap.size<=b/\b≠g') (fun W=>Strs W (some ⟨g,0,none⟩) (ss.take k)):=by
 have h2:=h.hA;have h3:=h.hB;have h4:=h.lg;have aA:=h.ne;have G1:wx.grownBy (wx.setCell ⟨A4,0,none⟩ u) (some A4):=XGx wx A4 0 u;have G2:(wx.setCell ⟨A4,0,none⟩ u).grownBy ((wx.setCell ⟨A4,0,none⟩ u).setCell ⟨A4,1,none⟩ v) (some A4):=XGx _ A4 1 v;have G:=ZpU G1 G2;have hb:Below w.heap.size wx ((wx.setCell ⟨A4,0,none⟩ u).setCell ⟨A4,1,none⟩ v):=jJX G h.lt (fun x e=>by have e:=Option.some.inj e;(try dsimp only at e);omega);obtain ⟨q1,q2⟩:=js2 h.rd h.gr h.lR h.ga hb;exact ⟨(h.r4.set 0 (by simp) u).set 1 (by simp) v,q1,q2,(h.wo.kept G (.inr (fun e=>by have e:=Option.some.inj e;(try dsimp only at e);omega))).mono (by omega),((yiG h.so k hk).grown G (fun x e q=>by have e:=Option.some.inj e;(try dsimp only at e);omega)).mono (fun b _ q=>by omega)⟩
theorem SpS.fin1 (h:SpS w wx R a n c p A4 B g sc ss g' sc' ws) (k:Nat) (hk:k<=ss.length) (x u v:Value) :
  Row (((wx.setCell ⟨B,0,none⟩ x).setCell ⟨A4,0,none⟩ u).setCell ⟨A4,1,none⟩ v) A4 [u,v]/\Rdr (((wx.setCell ⟨B,0,none⟩ x).setCell ⟨A4,0,none⟩ u).setCell ⟨A4,1,none⟩ v) R a n c p/\w.grownBy (((wx.setCell ⟨B,0,none⟩ x).setCell ⟨A4,0,none⟩ u).setCell ⟨A4,1,none⟩ v) (some R)/\(((wx.setCell ⟨B,0,none⟩ x).setCell ⟨A4,0,none⟩ u).setCell ⟨A4,1,none⟩ v).ownsRow w.heap.size 97 2 (.slice (some ⟨g',0,none⟩) ws.length sc') ws.length (yaV ws)/\DepF (((wx.setCell ⟨B,0,none⟩ x).setCell ⟨A4,0,none⟩ u).setCell ⟨A4,1,none⟩ v) (fun b=>w.heap.size<=b/\b≠g') (fun W=>Strs W (some ⟨g,0,none⟩) (ss.take k)):=by
 have h2:=h.hA;have h3:=h.hB;have h4:=h.lg;have aD:=h.ne;have aB:=h.n1;have aC:=h.n2;have G0:wx.grownBy (wx.setCell ⟨B,0,none⟩ x) (some B):=XGx wx B 0 x;have aA:Below w.heap.size wx (wx.setCell ⟨B,0,none⟩ x):=jJX G0 h.lt (fun x e=>by have e:=Option.some.inj e;omega);have r4:=h.r4.grown G0 (fun e=>by injection e with e;omega);have wo:=h.wo.kept G0 (.inr (fun e=>by have e:=Option.some.inj e;(try dsimp only at e);omega));have dp:=(yiG h.so k hk).grown G0 (fun x e q=>by have e:=Option.some.inj e;omega);obtain ⟨q1,q2⟩:=js2 h.rd h.gr h.lR h.ga aA;have s0:=aA.size;generalize wx.setCell ⟨B,0,none⟩ x=wz at *;have G1:wz.grownBy (wz.setCell ⟨A4,0,none⟩ u) (some A4):=XGx wz A4 0 u;have G2:(wz.setCell ⟨A4,0,none⟩ u).grownBy ((wz.setCell ⟨A4,0,none⟩ u).setCell ⟨A4,1,none⟩ v) (some A4):=XGx _ A4 1 v;have G:=ZpU G1 G2;have hb:Below w.heap.size wz ((wz.setCell ⟨A4,0,none⟩ u).setCell ⟨A4,1,none⟩ v):=jJX G q2.size (fun x e=>by have e:=Option.some.inj e;omega)
 obtain ⟨q3,q4⟩:=js2 q1 q2 h.lR h.ga hb;exact ⟨(r4.set 0 (by simp) u).set 1 (by simp) v,q3,q4,(wo.kept G (.inr (fun e=>by have e:=Option.some.inj e;(try dsimp only at e);omega))).mono (by omega),(dp.grown G (fun x e q=>by have e:=Option.some.inj e;omega)).mono (fun b _ q=>by omega)⟩
theorem DkLe.set (h:DkLe ss ws) (k:Nat) (s:ByteArray) (hs:s.size<=64):DkLe (ss.set k s) ws :=
 ⟨⟨by rw [List.length_set];exact h.1.1,fun t ht=>by rcases List.mem_or_eq_of_mem_set ht with q | q;exact h.1.2 t q;rw [q];exact hs⟩,h.2⟩
theorem DkLe.take (h:DkLe ss ws) (k:Nat):DkLe (ss.take k) ws :=
 ⟨⟨by rw [List.length_take];have:=h.1.1;omega,fun t ht=>h.1.2 t (List.mem_of_mem_take ht)⟩,h.2⟩
theorem DkLe.pushW (h:DkLe ss ws) (x:WrT) (hl:ws.length<=300) (hx:x.2.size<=64):DkLe ss (ws++[x]) :=
 ⟨h.1,by rw [List.length_append];simp;omega,fun y hy=>by rcases List.mem_append.1 hy with q | q;exact h.2.2 y q;rw [List.mem_singleton.1 q];exact hx⟩
theorem DkLe.pushS (h:DkLe ss ws) (s:ByteArray) (hl:ss.length<=200) (hx:s.size<=64):DkLe (ss++[s]) ws :=
 ⟨⟨by rw [List.length_append];simp;omega,fun y hy=>by rcases List.mem_append.1 hy with q | q;exact h.1.2 y q;rw [List.mem_singleton.1 q];exact hx⟩,h.2⟩
theorem yTD (h:vlG ss ws=true):DkLe ss ws:=by
 obtain ⟨h1,h2,h3⟩:=q67 h;exact ⟨⟨by omega,fun s hs=>by have:=h2 s hs;omega⟩,by omega,fun x hx=>by have:=Zc1 (h3 x hx);omega⟩
end
end
theorem UpI.grown {X:Nat} {w w':World} {r:Nat} (h:w.grownBy w' (some r)) (hr:r<=X):UpI X w w':=⟨h.size,fun b h1 h2=>h.block b h2 (fun e=>by cases e;omega)⟩
theorem UpI.below {X:Nat} {w w':World} (h:Below w.heap.size w w'):UpI X w w':=⟨h.size,fun b _ h2=>h.block b h2⟩
theorem GI.mk {s0 z:Nat} {GV:Nat->Value->World->Prop} {Gz:World->Prop} {j:Nat} {a:Act} {w:World} (v:Value) (hj:j≠z) (hv:a.tmps.getD (j+s0) undef=v) (h:GV j v w):GI s0 z GV Gz j a w:=by unfold GI;rw [if_neg hj,hv];exact h
theorem GI.out {s0 z:Nat} {GV:Nat->Value->World->Prop} {Gz:World->Prop} {j:Nat} {a:Act} {w:World} (v:Value) (hj:j≠z) (hv:a.tmps.getD (j+s0) undef=v) (h:GI s0 z GV Gz j a w):GV j v w:=by unfold GI at h;rw [if_neg hj,hv] at h;exact h
def IsP (R:Nat) (v:Value):Prop:=v=.pointer (some ⟨R,0,none⟩)
def IsN (m:Nat) (v:Value):Prop:=∃ k:Nat,v=.int .i64 (k:Int)/\k<m
def IsSl (X:Nat) (l:List Int) (v:Value) (w:World):Prop:=∃ b,v=.slice (some ⟨b,0,none⟩) l.length l.length/\X<b/\Row w b (l.map (Value.int .i64))
def IsAt (X:Nat) (v:Value) (w:World):Prop:=∃ b m z,v=.pointer (some ⟨b,m,none⟩)/\X<b/\w.cell? ⟨b,m,none⟩=some (.int .i64 z)/\-1<=z/\z<=1000000001
def IsI (v:Value):Prop:=∃ z,v=.int .i64 z/\-1<=z/\z<=1000000001
def Xd3 (z1 z2 z3 z4:Int):Prop:=(-1<=z1/\z1<=1000000001)/\(-1<=z2/\z2<=1000000001)/\(-1<=z3/\z3<=1000000001)/\-1<=z4/\z4<=1000000001
def Q61 (v:Value):Prop:=∃ z1 z2 z3 z4,v=.agg #[.int .i64 z1,.int .i64 z2,.int .i64 z3,.int .i64 z4]/\Xd3 z1 z2 z3 z4
theorem IsSl.keep {X:Nat} {l:List Int} {v:Value} {w w':World} (h:IsSl X l v w) (hT:UpI X w w'):IsSl X l v w':=by
 obtain ⟨b,rfl,hb,hr⟩:=h;have e:=hT.block b hb hr.lt;exact ⟨b,rfl,hb,Nat.lt_of_lt_of_le hr.lt hT.size,fun i v hv=>(World.cell?_of_block (a:=⟨b,i,none⟩) e).trans (hr.cell i v hv),fun i hi=>(World.frozen?_of_block (a:=⟨b,i,none⟩) e).trans (hr.froz i hi)⟩
theorem IsAt.keep {X:Nat} {v:Value} {w w':World} (h:IsAt X v w) (hT:UpI X w w'):IsAt X v w':=by
 obtain ⟨b,m,z,rfl,hb,hc,h1⟩:=h;exact ⟨b,m,z,rfl,hb,(World.cell?_of_block (a:=⟨b,m,none⟩) (hT.block b hb (ykG hc))).trans hc,h1⟩
def l5G (R X:Nat):Nat->Value->World->Prop
 | 0,v,w=>IsSl X [1,2,7,1000000000] v w
 | 1,v,w=>IsP R v
 | 2,v,w=>IsN 4 v
 | 3,v,w=>IsAt X v w
 | 4,v,w=>IsI v
 | 5,v,w=>IsP R v
 | 6,v,w=>IsN 2 v
 | 7,v,w=>IsSl X [1,40,999999000] v w
 | 8,v,w=>IsP R v
 | 9,v,w=>IsN 3 v
 | 10,v,w=>IsAt X v w
 | 11,v,w=>IsI v
 | 12,v,w=>IsSl X [1,9,60000] v w
 | 13,v,w=>IsP R v
 | 14,v,w=>IsN 3 v
 | 15,v,w=>IsAt X v w
 | 16,v,w=>IsI v
 | 17,v,w=>Q61 v
 | _,_,_=>False
theorem JxI {R X:Nat} {w w':World} (hT:UpI X w w'):∀ (j:Nat) (v:Value),l5G R X j v w->l5G R X j v w'
 | 0,v,h=>IsSl.keep h hT
 | 1,v,h=>h
 | 2,v,h=>h
 | 3,v,h=>IsAt.keep h hT
 | 4,v,h=>h
 | 5,v,h=>h
 | 6,v,h=>h
 | 7,v,h=>IsSl.keep h hT
 | 8,v,h=>h
 | 9,v,h=>h
 | 10,v,h=>IsAt.keep h hT
 | 11,v,h=>h
 | 12,v,h=>IsSl.keep h hT
 | 13,v,h=>h
 | 14,v,h=>h
 | 15,v,h=>IsAt.keep h hT
 | 16,v,h=>h
 | 17,v,h=>h
 | _+18,v,h=>h.elim
def l5Z (X:Nat) (w:World):Prop:=∃ z1 z2 z3 z4,Row w X [.int .i64 z1,.int .i64 z2,.int .i64 z3,.int .i64 z4]/\Xd3 z1 z2 z3 z4
def l5B (w:World) (R X:Nat) (a:Option Addr) (n c:Nat) (p:Int) (k:Nat) (A:Act) (v:World):Prop:=(∃ t3 t4 t5 t6 t7 t8 t9 aJ aI aA aH aB aF aD aG aE aC aK,A={ tmps:=#[.pointer (some ⟨R,0,none⟩),undef,.pointer (some ⟨X,0,none⟩),t3,t4,t5,t6,t7,t8,t9,aJ,aI,aA,aH,aB,aF,aD,aG,aE,aC,aK],defers:=[] })/\(∃ q,p<=q/\q<=p+(k:Int)/\Rdr v R a n c q)/\w.grownBy v (some R)/\∃ x0 x1 x2 x3,Row v X [x0,x1,x2,x3]
theorem zuJ (R:Nat) (a:Option Addr) (n c:Nat) (p:Int) (w:World) (h:Rdr w R a n c p) (hp:p<99999000):Calls Tryz.prog 13 #[.pointer (some ⟨R,0,none⟩)] w fun e w'=>(∃ v,e=.returned v/\Q61 v)/\Zlg w R a n c p 19 w':=by
 have p0:=h.p0;have lR:=h.lts.1;have ga:=h.lts.2;go_enter Tryz.func13,Tryz.ntmps13;go_upto_region 1 with fail;have bC:=quc w (.cells #[.int .i64 0,.int .i64 0,.int .i64 0,.int .i64 0] 24);have aV:=xER w #[.int .i64 0,.int .i64 0,.int .i64 0,.int .i64 0] 24;have aZ:=h.below bC;have aW:=Qbp (some R) bC;obtain ⟨X,bJ⟩:∃ k,k=w.heap.size:=⟨_,rfl⟩;have lX:w.heap.size<=X:=by omega
 rw [<-bJ] at aV ⊢;generalize w.alloc _=v0 at *;clear bJ bC h;have aT:Below v0.heap.size v0 v0.drew:=(Below.refl _ _).drew;refine kH8 (B:=l5B w R X a n c p) (G:=GI 3 18 (l5G R X) (l5Z X)) #[18,18,18,18,18,18,18,18,18,18,18,18,18,18,18,18,18,18,18] 18 (by kernel_rfl) (by kernel_rfl) ⟨⟨_,_,_,_,_,_,_,_,_,_,_,_,_,_,_,_,_,_,rfl⟩,⟨p,by omega,by omega,aZ.below aT⟩,ZpU aW (Qbp _ aT),_,_,_,_,aV.below aT⟩ ?_ ?_
 ·clear aZ aW aV aT
  show ∀ i,i<19->_;refine xgQ (xgQ (xgQ (xgQ (xgQ (xgQ (xgQ (xgQ (xgQ (xgQ (xgQ (xgQ (xgQ (xgQ (xgQ (xgQ (xgQ (xgQ (xgQ xLQ ?_) ?_) ?_) ?_) ?_) ?_) ?_) ?_) ?_) ?_) ?_) ?_) ?_) ?_) ?_) ?_) ?_) ?_) ?_
  ·refine QGx rfl ?_
   intro L k A v hk hB hd hG aB aA K' hK;obtain ⟨⟨t3,t4,t5,t6,t7,t8,t9,aN,aJ,aK,aI,aE,aM,aG,aH,aL,aF,aO,rfl⟩,⟨q,aC,aP,hr⟩,hg,x0,x1,x2,x3,hX⟩:=hB;have aQ:k<19:=hk;go_simp;have hb:=quc v (.cells #[.int .i64 1,.int .i64 2,.int .i64 7,.int .i64 1000000000] 3);have aD:=xER v #[.int .i64 1,.int .i64 2,.int .i64 7,.int .i64 1000000000] 3;have aU:=hX.lt;refine hK.out _ _ ⟨⟨_,_,_,_,_,_,_,_,_,_,_,_,_,_,_,_,_,_,rfl⟩,⟨q,aC,by omega,hr.below hb⟩,ZpU hg (Qbp _ hb),_,_,_,_,hX.below hb⟩ (GI.mk (.slice (some ⟨v.heap.size,0,none⟩) 4 4) (by decide) (by rfl) (⟨_,rfl,aU,aD⟩)) (GI.keep hG aB aA (JxI (UpI.below hb)) _)
  ·refine QGx rfl ?_
   intro L k A v hk hB hd hG aB aA K' hK;obtain ⟨⟨t3,t4,t5,t6,t7,t8,t9,aN,aJ,aK,aI,aE,aM,aG,aH,aL,aF,aO,rfl⟩,⟨q,aC,aP,hr⟩,hg,x0,x1,x2,x3,hX⟩:=hB;have aQ:k<19:=hk;go_simp;refine hK.out _ _ ⟨⟨_,_,_,_,_,_,_,_,_,_,_,_,_,_,_,_,_,_,rfl⟩,⟨q,aC,by omega,hr⟩,hg,_,_,_,_,hX⟩ (GI.mk (.pointer (some ⟨R,0,none⟩)) (by decide) (by rfl) (rfl)) (GI.keep hG aB aA (JxI (UpI.refl _ _)) _)
  ·refine QGx rfl ?_
   intro L k A v hk hB hd hG aB aA K' hK;obtain ⟨⟨t3,t4,t5,t6,t7,t8,t9,aN,aJ,aK,aI,aE,aM,aG,aH,aL,aF,aO,rfl⟩,⟨q,aC,aP,hr⟩,hg,x0,x1,x2,x3,hX⟩:=hB;have aQ:k<19:=hk;have g1:=GI.out t4 (by decide) (by rfl) (hd 1 (by rfl));obtain rfl:=g1;refine XRf (by rfl) _ _ (by go_simp) (ZfV R a n c q 4 _ hr (by omega)) ?_;rintro e v2 ⟨⟨x,rfl,aX,aY⟩,aS,aR⟩;refine ⟨_,rfl,?_⟩;obtain ⟨m,rfl⟩:∃ m:Nat,x=(m:Int):=⟨x.toNat,by omega⟩;refine hK.out _ _ ⟨⟨_,_,_,_,_,_,_,_,_,_,_,_,_,_,_,_,_,_,rfl⟩,⟨q+1,by omega,by omega,aS⟩,ZpU hg aR,_,_,_,_,hX.grown aR (fun e=>by injection e with e;omega)⟩ (GI.mk (.int .i64 (m:Int)) (by decide) (by rfl) (⟨m,rfl,by omega⟩)) (GI.keep hG aB aA (JxI (UpI.grown aR (by omega))) _)
  ·refine QGx rfl ?_
   intro L k A v hk hB hd hG aB aA K' hK;obtain ⟨⟨t3,t4,t5,t6,t7,t8,t9,aN,aJ,aK,aI,aE,aM,aG,aH,aL,aF,aO,rfl⟩,⟨q,aC,aP,hr⟩,hg,x0,x1,x2,x3,hX⟩:=hB;have aQ:k<19:=hk;have g0:=GI.out t3 (by decide) (by rfl) (hd 0 (by rfl));have g2:=GI.out t5 (by decide) (by rfl) (hd 2 (by rfl));obtain ⟨b,rfl,hb,aD⟩:=g0;obtain ⟨m,rfl,hm⟩:=g2;have hc:=aD.nth (n:=m) hm
   have hz:-1<=nth [1,2,7,1000000000] m/\nth [1,2,7,1000000000] m<=1000000001:=by
    have:m=0\/m=1\/m=2\/m=3:=by omega
    rcases this with rfl | rfl | rfl | rfl<;>decide
   have bH:(m:Int)<4:=by omega
   have bI:¬ ((4:Int)<=(m:Int)):=by omega
   have bG:=aD.lt;go_simp;refine hK.out _ _ ⟨⟨_,_,_,_,_,_,_,_,_,_,_,_,_,_,_,_,_,_,rfl⟩,⟨q,aC,by omega,hr⟩,hg,_,_,_,_,hX⟩ (GI.mk (.pointer (some ⟨b,m,none⟩)) (by decide) (by rfl) (⟨b,m,_,rfl,hb,hc,hz⟩)) (GI.keep hG aB aA (JxI (UpI.refl _ _)) _)
  ·refine QGx rfl ?_
   intro L k A v hk hB hd hG aB aA K' hK;obtain ⟨⟨t3,t4,t5,t6,t7,t8,t9,aN,aJ,aK,aI,aE,aM,aG,aH,aL,aF,aO,rfl⟩,⟨q,aC,aP,hr⟩,hg,x0,x1,x2,x3,hX⟩:=hB;have aQ:k<19:=hk;have g3:=GI.out t6 (by decide) (by rfl) (hd 3 (by rfl));obtain ⟨b,m,z,rfl,hb,hc,h1,h2⟩:=g3;go_simp;refine hK.out _ _ ⟨⟨_,_,_,_,_,_,_,_,_,_,_,_,_,_,_,_,_,_,rfl⟩,⟨q,aC,by omega,hr⟩,hg,_,_,_,_,hX⟩ (GI.mk (.int .i64 z) (by decide) (by rfl) (⟨z,rfl,h1,h2⟩)) (GI.keep hG aB aA (JxI (UpI.refl _ _)) _)
  ·refine QGx rfl ?_
   intro L k A v hk hB hd hG aB aA K' hK;obtain ⟨⟨t3,t4,t5,t6,t7,t8,t9,aN,aJ,aK,aI,aE,aM,aG,aH,aL,aF,aO,rfl⟩,⟨q,aC,aP,hr⟩,hg,x0,x1,x2,x3,hX⟩:=hB;have aQ:k<19:=hk;go_simp;refine hK.out _ _ ⟨⟨_,_,_,_,_,_,_,_,_,_,_,_,_,_,_,_,_,_,rfl⟩,⟨q,aC,by omega,hr⟩,hg,_,_,_,_,hX⟩ (GI.mk (.pointer (some ⟨R,0,none⟩)) (by decide) (by rfl) (rfl)) (GI.keep hG aB aA (JxI (UpI.refl _ _)) _)
  ·refine QGx rfl ?_
   intro L k A v hk hB hd hG aB aA K' hK;obtain ⟨⟨t3,t4,t5,t6,t7,t8,t9,aN,aJ,aK,aI,aE,aM,aG,aH,aL,aF,aO,rfl⟩,⟨q,aC,aP,hr⟩,hg,x0,x1,x2,x3,hX⟩:=hB;have aQ:k<19:=hk;have g5:=GI.out t8 (by decide) (by rfl) (hd 5 (by rfl));obtain rfl:=g5;refine XRf (by rfl) _ _ (by go_simp) (ZfV R a n c q 2 _ hr (by omega)) ?_;rintro e v2 ⟨⟨x,rfl,aX,aY⟩,aS,aR⟩;refine ⟨_,rfl,?_⟩;obtain ⟨m,rfl⟩:∃ m:Nat,x=(m:Int):=⟨x.toNat,by omega⟩;refine hK.out _ _ ⟨⟨_,_,_,_,_,_,_,_,_,_,_,_,_,_,_,_,_,_,rfl⟩,⟨q+1,by omega,by omega,aS⟩,ZpU hg aR,_,_,_,_,hX.grown aR (fun e=>by injection e with e;omega)⟩ (GI.mk (.int .i64 (m:Int)) (by decide) (by rfl) (⟨m,rfl,by omega⟩)) (GI.keep hG aB aA (JxI (UpI.grown aR (by omega))) _)
  ·refine QGx rfl ?_
   intro L k A v hk hB hd hG aB aA K' hK;obtain ⟨⟨t3,t4,t5,t6,t7,t8,t9,aN,aJ,aK,aI,aE,aM,aG,aH,aL,aF,aO,rfl⟩,⟨q,aC,aP,hr⟩,hg,x0,x1,x2,x3,hX⟩:=hB;have aQ:k<19:=hk;go_simp;have hb:=quc v (.cells #[.int .i64 1,.int .i64 40,.int .i64 999999000] 3);have aD:=xER v #[.int .i64 1,.int .i64 40,.int .i64 999999000] 3;have aU:=hX.lt;refine hK.out _ _ ⟨⟨_,_,_,_,_,_,_,_,_,_,_,_,_,_,_,_,_,_,rfl⟩,⟨q,aC,by omega,hr.below hb⟩,ZpU hg (Qbp _ hb),_,_,_,_,hX.below hb⟩ (GI.mk (.slice (some ⟨v.heap.size,0,none⟩) 3 3) (by decide) (by rfl) (⟨_,rfl,aU,aD⟩)) (GI.keep hG aB aA (JxI (UpI.below hb)) _)
  ·refine QGx rfl ?_
   intro L k A v hk hB hd hG aB aA K' hK;obtain ⟨⟨t3,t4,t5,t6,t7,t8,t9,aN,aJ,aK,aI,aE,aM,aG,aH,aL,aF,aO,rfl⟩,⟨q,aC,aP,hr⟩,hg,x0,x1,x2,x3,hX⟩:=hB;have aQ:k<19:=hk;go_simp;refine hK.out _ _ ⟨⟨_,_,_,_,_,_,_,_,_,_,_,_,_,_,_,_,_,_,rfl⟩,⟨q,aC,by omega,hr⟩,hg,_,_,_,_,hX⟩ (GI.mk (.pointer (some ⟨R,0,none⟩)) (by decide) (by rfl) (rfl)) (GI.keep hG aB aA (JxI (UpI.refl _ _)) _)
  ·refine QGx rfl ?_
   intro L k A v hk hB hd hG aB aA K' hK;obtain ⟨⟨t3,t4,t5,t6,t7,t8,t9,aN,aJ,aK,aI,aE,aM,aG,aH,aL,aF,aO,rfl⟩,⟨q,aC,aP,hr⟩,hg,x0,x1,x2,x3,hX⟩:=hB;have aQ:k<19:=hk;have g8:=GI.out aJ (by decide) (by rfl) (hd 8 (by rfl));obtain rfl:=g8;refine XRf (by rfl) _ _ (by go_simp) (ZfV R a n c q 3 _ hr (by omega)) ?_;rintro e v2 ⟨⟨x,rfl,aX,aY⟩,aS,aR⟩;refine ⟨_,rfl,?_⟩;obtain ⟨m,rfl⟩:∃ m:Nat,x=(m:Int):=⟨x.toNat,by omega⟩;refine hK.out _ _ ⟨⟨_,_,_,_,_,_,_,_,_,_,_,_,_,_,_,_,_,_,rfl⟩,⟨q+1,by omega,by omega,aS⟩,ZpU hg aR,_,_,_,_,hX.grown aR (fun e=>by injection e with e;omega)⟩ (GI.mk (.int .i64 (m:Int)) (by decide) (by rfl) (⟨m,rfl,by omega⟩)) (GI.keep hG aB aA (JxI (UpI.grown aR (by omega))) _)
  ·refine QGx rfl ?_
   intro L k A v hk hB hd hG aB aA K' hK;obtain ⟨⟨t3,t4,t5,t6,t7,t8,t9,aN,aJ,aK,aI,aE,aM,aG,aH,aL,aF,aO,rfl⟩,⟨q,aC,aP,hr⟩,hg,x0,x1,x2,x3,hX⟩:=hB;have aQ:k<19:=hk;have g7:=GI.out aN (by decide) (by rfl) (hd 7 (by rfl));have g9:=GI.out aK (by decide) (by rfl) (hd 9 (by rfl));obtain ⟨b,rfl,hb,aD⟩:=g7;obtain ⟨m,rfl,hm⟩:=g9;have hc:=aD.nth (n:=m) hm
   have hz:-1<=nth [1,40,999999000] m/\nth [1,40,999999000] m<=1000000001:=by
    have:m=0\/m=1\/m=2:=by omega
    rcases this with rfl | rfl | rfl<;>decide
   have bH:(m:Int)<3:=by omega
   have bI:¬ ((3:Int)<=(m:Int)):=by omega
   have bG:=aD.lt;go_simp;refine hK.out _ _ ⟨⟨_,_,_,_,_,_,_,_,_,_,_,_,_,_,_,_,_,_,rfl⟩,⟨q,aC,by omega,hr⟩,hg,_,_,_,_,hX⟩ (GI.mk (.pointer (some ⟨b,m,none⟩)) (by decide) (by rfl) (⟨b,m,_,rfl,hb,hc,hz⟩)) (GI.keep hG aB aA (JxI (UpI.refl _ _)) _)
  ·refine QGx rfl ?_
   intro L k A v hk hB hd hG aB aA K' hK;obtain ⟨⟨t3,t4,t5,t6,t7,t8,t9,aN,aJ,aK,aI,aE,aM,aG,aH,aL,aF,aO,rfl⟩,⟨q,aC,aP,hr⟩,hg,x0,x1,x2,x3,hX⟩:=hB;have aQ:k<19:=hk;have cC:=GI.out aI (by decide) (by rfl) (hd 10 (by rfl));obtain ⟨b,m,z,rfl,hb,hc,h1,h2⟩:=cC;go_simp;refine hK.out _ _ ⟨⟨_,_,_,_,_,_,_,_,_,_,_,_,_,_,_,_,_,_,rfl⟩,⟨q,aC,by omega,hr⟩,hg,_,_,_,_,hX⟩ (GI.mk (.int .i64 z) (by decide) (by rfl) (⟨z,rfl,h1,h2⟩)) (GI.keep hG aB aA (JxI (UpI.refl _ _)) _)
  ·refine QGx rfl ?_
   intro L k A v hk hB hd hG aB aA K' hK;obtain ⟨⟨t3,t4,t5,t6,t7,t8,t9,aN,aJ,aK,aI,aE,aM,aG,aH,aL,aF,aO,rfl⟩,⟨q,aC,aP,hr⟩,hg,x0,x1,x2,x3,hX⟩:=hB;have aQ:k<19:=hk;go_simp;have hb:=quc v (.cells #[.int .i64 1,.int .i64 9,.int .i64 60000] 3);have aD:=xER v #[.int .i64 1,.int .i64 9,.int .i64 60000] 3;have aU:=hX.lt;refine hK.out _ _ ⟨⟨_,_,_,_,_,_,_,_,_,_,_,_,_,_,_,_,_,_,rfl⟩,⟨q,aC,by omega,hr.below hb⟩,ZpU hg (Qbp _ hb),_,_,_,_,hX.below hb⟩ (GI.mk (.slice (some ⟨v.heap.size,0,none⟩) 3 3) (by decide) (by rfl) (⟨_,rfl,aU,aD⟩)) (GI.keep hG aB aA (JxI (UpI.below hb)) _)
  ·refine QGx rfl ?_
   intro L k A v hk hB hd hG aB aA K' hK;obtain ⟨⟨t3,t4,t5,t6,t7,t8,t9,aN,aJ,aK,aI,aE,aM,aG,aH,aL,aF,aO,rfl⟩,⟨q,aC,aP,hr⟩,hg,x0,x1,x2,x3,hX⟩:=hB;have aQ:k<19:=hk;go_simp;refine hK.out _ _ ⟨⟨_,_,_,_,_,_,_,_,_,_,_,_,_,_,_,_,_,_,rfl⟩,⟨q,aC,by omega,hr⟩,hg,_,_,_,_,hX⟩ (GI.mk (.pointer (some ⟨R,0,none⟩)) (by decide) (by rfl) (rfl)) (GI.keep hG aB aA (JxI (UpI.refl _ _)) _)
  ·refine QGx rfl ?_
   intro L k A v hk hB hd hG aB aA K' hK;obtain ⟨⟨t3,t4,t5,t6,t7,t8,t9,aN,aJ,aK,aI,aE,aM,aG,aH,aL,aF,aO,rfl⟩,⟨q,aC,aP,hr⟩,hg,x0,x1,x2,x3,hX⟩:=hB;have aQ:k<19:=hk;have bZ:=GI.out aG (by decide) (by rfl) (hd 13 (by rfl));obtain rfl:=bZ;refine XRf (by rfl) _ _ (by go_simp) (ZfV R a n c q 3 _ hr (by omega)) ?_;rintro e v2 ⟨⟨x,rfl,aX,aY⟩,aS,aR⟩;refine ⟨_,rfl,?_⟩;obtain ⟨m,rfl⟩:∃ m:Nat,x=(m:Int):=⟨x.toNat,by omega⟩;refine hK.out _ _ ⟨⟨_,_,_,_,_,_,_,_,_,_,_,_,_,_,_,_,_,_,rfl⟩,⟨q+1,by omega,by omega,aS⟩,ZpU hg aR,_,_,_,_,hX.grown aR (fun e=>by injection e with e;omega)⟩ (GI.mk (.int .i64 (m:Int)) (by decide) (by rfl) (⟨m,rfl,by omega⟩)) (GI.keep hG aB aA (JxI (UpI.grown aR (by omega))) _)
  ·refine QGx rfl ?_
   intro L k A v hk hB hd hG aB aA K' hK;obtain ⟨⟨t3,t4,t5,t6,t7,t8,t9,aN,aJ,aK,aI,aE,aM,aG,aH,aL,aF,aO,rfl⟩,⟨q,aC,aP,hr⟩,hg,x0,x1,x2,x3,hX⟩:=hB;have aQ:k<19:=hk;have bQ:=GI.out aM (by decide) (by rfl) (hd 12 (by rfl));have bY:=GI.out aH (by decide) (by rfl) (hd 14 (by rfl));obtain ⟨b,rfl,hb,aD⟩:=bQ;obtain ⟨m,rfl,hm⟩:=bY;have hc:=aD.nth (n:=m) hm
   have hz:-1<=nth [1,9,60000] m/\nth [1,9,60000] m<=1000000001:=by
    have:m=0\/m=1\/m=2:=by omega
    rcases this with rfl | rfl | rfl<;>decide
   have bH:(m:Int)<3:=by omega
   have bI:¬ ((3:Int)<=(m:Int)):=by omega
   have bG:=aD.lt;go_simp;refine hK.out _ _ ⟨⟨_,_,_,_,_,_,_,_,_,_,_,_,_,_,_,_,_,_,rfl⟩,⟨q,aC,by omega,hr⟩,hg,_,_,_,_,hX⟩ (GI.mk (.pointer (some ⟨b,m,none⟩)) (by decide) (by rfl) (⟨b,m,_,rfl,hb,hc,hz⟩)) (GI.keep hG aB aA (JxI (UpI.refl _ _)) _)
  ·refine QGx rfl ?_
   intro L k A v hk hB hd hG aB aA K' hK;obtain ⟨⟨t3,t4,t5,t6,t7,t8,t9,aN,aJ,aK,aI,aE,aM,aG,aH,aL,aF,aO,rfl⟩,⟨q,aC,aP,hr⟩,hg,x0,x1,x2,x3,hX⟩:=hB;have aQ:k<19:=hk;have b8:=GI.out aL (by decide) (by rfl) (hd 15 (by rfl));obtain ⟨b,m,z,rfl,hb,hc,h1,h2⟩:=b8;go_simp;refine hK.out _ _ ⟨⟨_,_,_,_,_,_,_,_,_,_,_,_,_,_,_,_,_,_,rfl⟩,⟨q,aC,by omega,hr⟩,hg,_,_,_,_,hX⟩ (GI.mk (.int .i64 z) (by decide) (by rfl) (⟨z,rfl,h1,h2⟩)) (GI.keep hG aB aA (JxI (UpI.refl _ _)) _)
  ·refine QGx rfl ?_
   intro L k A v hk hB hd hG aB aA K' hK;obtain ⟨⟨t3,t4,t5,t6,t7,t8,t9,aN,aJ,aK,aI,aE,aM,aG,aH,aL,aF,aO,rfl⟩,⟨q,aC,aP,hr⟩,hg,x0,x1,x2,x3,hX⟩:=hB;have aQ:k<19:=hk;have g4:=GI.out t7 (by decide) (by rfl) (hd 4 (by rfl));have g6:=GI.out t9 (by decide) (by rfl) (hd 6 (by rfl));have bW:=GI.out aE (by decide) (by rfl) (hd 11 (by rfl));have bU:=GI.out aF (by decide) (by rfl) (hd 16 (by rfl));obtain ⟨z1,rfl,h1⟩:=g4;obtain ⟨z2,rfl,h2⟩:=g6;obtain ⟨z3,rfl,h3⟩:=bW;obtain ⟨z4,rfl,h4⟩:=bU;go_simp;refine hK.out _ _ ⟨⟨_,_,_,_,_,_,_,_,_,_,_,_,_,_,_,_,_,_,rfl⟩,⟨q,aC,by omega,hr⟩,hg,_,_,_,_,hX⟩ (GI.mk (.agg #[.int .i64 z1,.int .i64 (z2:Int),.int .i64 z3,.int .i64 z4]) (by decide) (by rfl) (⟨z1,(z2:Int),z3,z4,rfl,h1,(by omega),h3,h4⟩)) (GI.keep hG aB aA (JxI (UpI.refl _ _)) _)
  ·refine QGx rfl ?_
   intro L k A v hk hB hd hG aB aA K' hK;obtain ⟨⟨t3,t4,t5,t6,t7,t8,t9,aN,aJ,aK,aI,aE,aM,aG,aH,aL,aF,aO,rfl⟩,⟨q,aC,aP,hr⟩,hg,x0,x1,x2,x3,hX⟩:=hB;have aQ:k<19:=hk;have bV:=GI.out aO (by decide) (by rfl) (hd 17 (by rfl));obtain ⟨z1,z2,z3,z4,rfl,hz⟩:=bV;obtain ⟨c0,c1,c2,c3⟩:=hX.k4;obtain ⟨f0,f1,f2,f3⟩:=hX.z4;have cE:=hX.lt;go_simp;clear c0 c1 c2 c3 f0 f1 f2 f3;have r1:=(((hX.set 0 (by simp) (.int .i64 z1)).set 1 (by simp) (.int .i64 z2)).set 2 (by simp) (.int .i64 z3)).set 3 (by simp) (.int .i64 z4);have G4:=ZpU (ZpU (ZpU (XGx v X 0 (.int .i64 z1)) (XGx _ X 1 (.int .i64 z2))) (XGx _ X 2 (.int .i64 z3))) (XGx _ X 3 (.int .i64 z4));have hb:=jJX G4 hg.size (fun g e=>by have e:=Option.some.inj e;omega);obtain ⟨q1,q2⟩:=js2 hr hg lR ga hb;refine hK.out _ _ ⟨⟨_,_,_,_,_,_,_,_,_,_,_,_,_,_,_,_,_,_,rfl⟩,⟨q,aC,by omega,q1⟩,q2,_,_,_,_,r1⟩ (show l5Z X _ from ⟨z1,z2,z3,z4,r1,hz⟩) (GI.keepN hG aA (JxI (UpI.grown G4 (Nat.le_refl _))))
 ·intro k A v hk hB hG
  obtain ⟨⟨t3,t4,t5,t6,t7,t8,t9,aN,aJ,aK,aI,aE,aM,aG,aH,aL,aF,aO,rfl⟩,⟨q,aC,aP,hr⟩,hg,-⟩:=hB;have b7:(k:Int)<=19:=by have:k<=19:=hk;omega
  obtain ⟨z1,z2,z3,z4,rX,hz⟩:l5Z X v:=hG 18 (by decide);clear hG aZ aW aV aT;obtain ⟨y0,y1,y2,y3⟩:=rX.k4;have yl:=rX.lt;go_wp2;refine bodyPost_ret (v:=.agg #[.int .i64 z1,.int .i64 z2,.int .i64 z3,.int .i64 z4]) (by simp [results,Tryz.results13,go_sem,y0,y1,y2,y3]) rfl ⟨⟨_,rfl,z1,z2,z3,z4,rfl,hz⟩,⟨q,aC,by omega,hr⟩,hg⟩
section
structure DrS (w v:World) (R X2 X5:Nat) (a:Option Addr) (n c:Nat) (q:Int) (cs:List Value):Prop where
 rd:Rdr v R a n c q
 be:Below w.heap.size w v
 r2:Row v X2 [.int .i64 0,.int .i64 0,.int .i64 0,.int .i64 0]
 r5:Row v X5 cs
 h2:w.heap.size<=X2
 h3:X2<R
 h5:R<X5
 ga:∀ g o,a=some ⟨g,o,none⟩->0<n->g<w.heap.size
section
variable {w v v':World} {R X2 X5:Nat} {a:Option Addr} {n c:Nat} {q q':Int} {cs:List Value}
theorem DrS.below (h:DrS w v R X2 X5 a n c q cs) (hb:Below v.heap.size v v'):DrS w v' R X2 X5 a n c q cs:=⟨h.rd.below hb,h.be.trans (hb.mono h.be.size),h.r2.below hb,h.r5.below hb,h.h2,h.h3,h.h5,h.ga⟩
theorem DrS.pick (h:DrS w v R X2 X5 a n c q cs) (hr:Rdr v' R a n c q') (hg:v.grownBy v' (some R)):DrS w v' R X2 X5 a n c q' cs:=by
 have:=h.h2;have:=h.h3;have:=h.h5;exact ⟨hr,h.be.trans (jJX hg h.be.size (fun x e=>by have e:=Option.some.inj e;omega)),h.r2.grown hg (fun e=>by injection e with e;omega),h.r5.grown hg (fun e=>by injection e with e;omega),h.h2,h.h3,h.h5,h.ga⟩
theorem DrS.set (h:DrS w v R X2 X5 a n c q cs) (i:Nat) (hi:i<cs.length) (u:Value):DrS w (v.setCell ⟨X5,i,none⟩ u) R X2 X5 a n c q (cs.set i u):=by
 have h2:=h.h2;have h3:=h.h3;have h5:=h.h5;have hl:=h.r5.lt;have G:=XGx v X5 i u;exact ⟨h.rd.keep (N:=X5) h5 (fun g o e e2=>by have:=h.ga g o e e2;omega) (jJX G (by omega) (fun x e=>by have e:=Option.some.inj e;omega)),h.be.trans (jJX G h.be.size (fun x e=>by have e:=Option.some.inj e;omega)),h.r2.grown G (fun e=>by injection e with e;omega),h.r5.set i hi u,h.h2,h.h3,h.h5,h.ga⟩
end
theorem QfQ (a:Option Addr) (n c:Nat) (w:World) (h:Bys w a n) (hn:n<=2000000) (hc:n<=c):Calls Tryz.prog 12 #[.slice a n c] w fun e w'=>e=.returned (.pointer (some ⟨w.heap.size,0,none⟩))/\(∃ m c',m<=n/\Rdr w' w.heap.size a m c' 0)/\Below w.heap.size w w':=by
 by_cases h2:n<=2000
 ·have aA:(n:Int)<=2000:=by omega
  go_enter Tryz.func12,Tryz.ntmps12;go_wp2;go_ret;exact ⟨rfl,⟨n,c,Nat.le_refl _,h.rdr (Nat.le_refl _) h2 c _⟩,(Below.refl _ _).alloc (Nat.le_refl _) _⟩
 ·have aA:2000<(n:Int):=by omega
  have aB:(2000:Int)<=(c:Int):=by omega
  have HR:=hid (h.rdr (m:=2000) (by omega) (Nat.le_refl _) c 82);obtain ⟨g,o,ha,hx⟩:=h;obtain rfl:a=some ⟨g,o,none⟩:=ha.resolve_left (by omega);go_enter Tryz.func12,Tryz.ntmps12;go_wp2;go_ret;refine ⟨rfl,?_,(Below.refl _ _).alloc (Nat.le_refl _) _⟩
  first | exact ⟨2000,c,by omega,HR.out⟩ | exact ⟨2000,by omega,c,HR.out⟩
def q7l (w w':World) (e:Ending):Prop:=(∃ v z,e=.returned (.tuple #[v,.int .i64 z])/\Q61 v/\0<=z/\z<=9)/\Below w.heap.size w w'
theorem Xt6 (a:Option Addr) (n c:Nat) (w:World) (h:Bys w a n) (hn:n<=2000000) (hc:n<=c):Calls Tryz.prog 4 #[.slice a n c] w fun e w'=>q7l w w' e:=by
 go_enter Tryz.func4,Tryz.ntmps4;go_wp2_with fail;generalize aM:w.alloc _=v1;obtain ⟨hb,aS,b2⟩:=bx1 aM;clear aM;have hE:Below w.heap.size w v1:=hb;refine (QfQ a n c _ (h.below hb) hn hc).mono ?_;rintro e v2 ⟨rfl,⟨n',c',bI,aQ⟩,aR⟩
 have ga:∀ g o,a=some ⟨g,o,none⟩->0<n'->g<w.heap.size:=by
  intro g o ha h0;obtain ⟨g1,o1,h1,h2⟩:=h;rw [ha] at h1;have h1:=h1.resolve_left (by omega)
  cases h1
  exact (h2 0 (by omega)).1
 obtain ⟨R,aU⟩:∃ R,R=v1.heap.size:=⟨_,rfl⟩;obtain ⟨X2,aN⟩:∃ R,R=w.heap.size:=⟨_,rfl⟩;rw [<-aU] at aQ ⊢;have hR:X2<R:=by omega
 have aV:w.heap.size<=X2:=by omega
 rw [<-aN] at b2 ⊢;replace hE:=hE.trans (aR.mono hE.size);replace b2:=(b2.below aR).now;have lR:=ykG aQ.pc
 try dsimp only at lR
 clear hb aR h aS aU aN;go_wp2_with fail;refine (zuJ R a n' c' 0 _ aQ (by omega)).mono ?_;rintro e v3 ⟨⟨v,rfl,z1,z2,z3,z4,rfl,hz⟩,⟨p1,bH,bJ,hr⟩,hg⟩;have s3:=hg.size;replace hE:=hE.trans (jJX hg hE.size (fun x e=>by have e:=Option.some.inj e;omega));replace b2:=b2.grown hg (fun e=>by injection e with e;omega);clear hg aQ;go_upto_region 3 with fail;generalize aO:v3.alloc _=v4;obtain ⟨hb,aT,b5⟩:=bx1 aO;clear aO;obtain ⟨X5,aL⟩:∃ R,R=v3.heap.size:=⟨_,rfl⟩;rw [<-aL] at b5 ⊢;have S:DrS w v4 R X2 X5 a n' c' p1 [.int .i64 z1,.int .i64 z2,.int .i64 z3,.int .i64 z4]:=⟨hr.below hb,hE.trans (hb.mono hE.size),b2.below hb,b5.now,aV,hR,by omega,ga⟩;clear b2 b5 hr hE hb aT aL aV hR ga lR s3;go_wp2_with fail;refine (jmi R a n' c' p1 _ S.rd (by omega)).mono ?_;rintro e v5 ⟨⟨wd,rfl,bG,aZ⟩,hr,hg⟩;replace S:=S.pick hr hg;clear hr hg;have aF:0<=wd/\wd<=9:=by omega
 clear bG aZ;go_wp2_with fail;refine (ZfV R a n' c' (p1+1) 3 _ S.rd (by omega)).mono ?_;rintro e v6 ⟨⟨x,rfl,x0,x1⟩,hr,hg⟩;replace S:=S.pick hr hg;clear hr hg
 by_cases hx:x=0
 ·subst hx
  clear x0 x1;go_wp2_with fail;refine (ZfV R a n' c' (p1+1+1) 5 _ S.rd (by omega)).mono ?_;rintro e v7 ⟨⟨y,rfl,y0,y1⟩,hr,hg⟩;replace S:=S.pick hr hg;clear hr hg
  by_cases aW:y=0
  ·subst aW
   go_wp2_with fail;have aH:=ykG S.rd.pc;generalize aA:v7.alloc _=u1;obtain ⟨hb,aB,b1⟩:=bx1 aA;clear aA;replace S:=S.below hb;obtain ⟨G,aE⟩:∃ k,k=v7.heap.size:=⟨_,rfl⟩;have aP:G≠R:=by have:R<v7.heap.size:=aH;omega
   rw [<-aE] at b1 ⊢;have rg:=b1.now;clear hb b1 aB aE;refine (ZfV R a n' c' (p1+1+1+1) 3 _ S.rd (by omega)).mono ?_;rintro e v8 ⟨⟨m',rfl,m0,m1⟩,hr,hg⟩;replace S:=S.pick hr hg;replace rg:=rg.grown hg (fun e=>by injection e with e;omega);clear hr hg;obtain ⟨m,rfl⟩:∃ m:Nat,m'=(m:Int):=⟨m'.toNat,by omega⟩;have hm:m<3:=by omega
   have aD:=Row.nth (l:=[0,-1,1000000001]) rg hm;obtain ⟨z,aC⟩:∃ z,nth [0,-1,1000000001] m=z:=⟨_,rfl⟩
   have aG:-1<=z/\z<=1000000001:=by
    have:m=0\/m=1\/m=2:=by omega
    rcases this with rfl | rfl | rfl<;>(rw [<-aC];decide)
   rw [aC] at aD;clear aC rg;have aI:(m:Int)<3:=by omega
   have aJ:¬ ((3:Int)<=(m:Int)):=by omega
   have aK:=ykG aD;have c0:=S.r5.cell 0 _ rfl;have f0:=S.r5.froz 0 (by simp);have l5:=S.r5.lt;go_upto_region 15 with fail;clear c0 f0 l5 aD aI aJ aK;replace S:=S.set 0 (by simp) (.int .i64 z);generalize v8.setCell _ _=v9 at *;obtain ⟨c0,c1,c2,c3⟩:=S.r5.k4;obtain ⟨d0,d1,d2,d3⟩:=S.r2.k4;obtain ⟨f0,f1,f2,f3⟩:=S.r2.z4;have l5:=S.r5.lt;have l2:=S.r2.lt;go_wp2;clear c0 c1 c2 c3 d0 d1 d2 d3 f0 f1 f2 f3;have rr:=(((S.r2.set 0 (by simp) (.int .i64 z)).set 1 (by simp) (.int .i64 z2)).set 2 (by simp) (.int .i64 z3)).set 3 (by simp) (.int .i64 z4);obtain ⟨y0,y1,y2,y3⟩:=rr.k4;have hB:=S.be.trans (jJX (ZpU (ZpU (ZpU (XGx _ X2 0 (.int .i64 z)) (XGx _ X2 1 (.int .i64 z2))) (XGx _ X2 2 (.int .i64 z3))) (XGx _ X2 3 (.int .i64 z4))) S.be.size (fun x e=>by have e:=Option.some.inj e;have:=S.h2;omega));refine bodyPost_ret (v:=.tuple #[.agg #[.int .i64 z,.int .i64 z2,.int .i64 z3,.int .i64 z4],_]) (by simp [results,Tryz.results4,go_sem,y0,y1,y2,y3];rfl) rfl ?_
   exact ⟨⟨_,_,rfl,⟨z,z2,z3,z4,rfl,aG,hz.2.1,hz.2.2.1,hz.2.2.2⟩,aF.1,aF.2⟩,hB⟩
  by_cases aX:y=1
  ·subst aX
   go_wp2_with fail;have aH:=ykG S.rd.pc;generalize aA:v7.alloc _=u1;obtain ⟨hb,aB,b1⟩:=bx1 aA;clear aA;replace S:=S.below hb;obtain ⟨G,aE⟩:∃ k,k=v7.heap.size:=⟨_,rfl⟩;have aP:G≠R:=by have:R<v7.heap.size:=aH;omega
   rw [<-aE] at b1 ⊢;have rg:=b1.now;clear hb b1 aB aE;refine (ZfV R a n' c' (p1+1+1+1) 2 _ S.rd (by omega)).mono ?_;rintro e v8 ⟨⟨m',rfl,m0,m1⟩,hr,hg⟩;replace S:=S.pick hr hg;replace rg:=rg.grown hg (fun e=>by injection e with e;omega);clear hr hg;obtain ⟨m,rfl⟩:∃ m:Nat,m'=(m:Int):=⟨m'.toNat,by omega⟩;have hm:m<2:=by omega
   have aD:=Row.nth (l:=[-1,2]) rg hm;obtain ⟨z,aC⟩:∃ z,nth [-1,2] m=z:=⟨_,rfl⟩
   have aG:-1<=z/\z<=1000000001:=by
    have:m=0\/m=1:=by omega
    rcases this with rfl | rfl<;>(rw [<-aC];decide)
   rw [aC] at aD;clear aC rg;have aI:(m:Int)<2:=by omega
   have aJ:¬ ((2:Int)<=(m:Int)):=by omega
   have aK:=ykG aD;have c1:=S.r5.cell 1 _ rfl;have f1:=S.r5.froz 1 (by simp);have l5:=S.r5.lt;go_upto_region 15 with fail;clear c1 f1 l5 aD aI aJ aK;replace S:=S.set 1 (by simp) (.int .i64 z);generalize v8.setCell _ _=v9 at *;obtain ⟨c0,c1,c2,c3⟩:=S.r5.k4;obtain ⟨d0,d1,d2,d3⟩:=S.r2.k4;obtain ⟨f0,f1,f2,f3⟩:=S.r2.z4;have l5:=S.r5.lt;have l2:=S.r2.lt;go_wp2;clear c0 c1 c2 c3 d0 d1 d2 d3 f0 f1 f2 f3;have rr:=(((S.r2.set 0 (by simp) (.int .i64 z1)).set 1 (by simp) (.int .i64 z)).set 2 (by simp) (.int .i64 z3)).set 3 (by simp) (.int .i64 z4);obtain ⟨y0,y1,y2,y3⟩:=rr.k4;have hB:=S.be.trans (jJX (ZpU (ZpU (ZpU (XGx _ X2 0 (.int .i64 z1)) (XGx _ X2 1 (.int .i64 z))) (XGx _ X2 2 (.int .i64 z3))) (XGx _ X2 3 (.int .i64 z4))) S.be.size (fun x e=>by have e:=Option.some.inj e;have:=S.h2;omega));refine bodyPost_ret (v:=.tuple #[.agg #[.int .i64 z1,.int .i64 z,.int .i64 z3,.int .i64 z4],_]) (by simp [results,Tryz.results4,go_sem,y0,y1,y2,y3];rfl) rfl ?_
   exact ⟨⟨_,_,rfl,⟨z1,z,z3,z4,rfl,hz.1,aG,hz.2.2.1,hz.2.2.2⟩,aF.1,aF.2⟩,hB⟩
  by_cases bC:y=2
  ·subst bC
   go_wp2_with fail;have aH:=ykG S.rd.pc;generalize aA:v7.alloc _=u1;obtain ⟨hb,aB,b1⟩:=bx1 aA;clear aA;replace S:=S.below hb;obtain ⟨G,aE⟩:∃ k,k=v7.heap.size:=⟨_,rfl⟩;have aP:G≠R:=by have:R<v7.heap.size:=aH;omega
   rw [<-aE] at b1 ⊢;have rg:=b1.now;clear hb b1 aB aE;refine (ZfV R a n' c' (p1+1+1+1) 2 _ S.rd (by omega)).mono ?_;rintro e v8 ⟨⟨m',rfl,m0,m1⟩,hr,hg⟩;replace S:=S.pick hr hg;replace rg:=rg.grown hg (fun e=>by injection e with e;omega);clear hr hg;obtain ⟨m,rfl⟩:∃ m:Nat,m'=(m:Int):=⟨m'.toNat,by omega⟩;have hm:m<2:=by omega
   have aD:=Row.nth (l:=[0,999999001]) rg hm;obtain ⟨z,aC⟩:∃ z,nth [0,999999001] m=z:=⟨_,rfl⟩
   have aG:-1<=z/\z<=1000000001:=by
    have:m=0\/m=1:=by omega
    rcases this with rfl | rfl<;>(rw [<-aC];decide)
   rw [aC] at aD;clear aC rg;have aI:(m:Int)<2:=by omega
   have aJ:¬ ((2:Int)<=(m:Int)):=by omega
   have aK:=ykG aD;have c2:=S.r5.cell 2 _ rfl;have f2:=S.r5.froz 2 (by simp);have l5:=S.r5.lt;go_upto_region 15 with fail;clear c2 f2 l5 aD aI aJ aK;replace S:=S.set 2 (by simp) (.int .i64 z);generalize v8.setCell _ _=v9 at *;obtain ⟨c0,c1,c2,c3⟩:=S.r5.k4;obtain ⟨d0,d1,d2,d3⟩:=S.r2.k4;obtain ⟨f0,f1,f2,f3⟩:=S.r2.z4;have l5:=S.r5.lt;have l2:=S.r2.lt;go_wp2;clear c0 c1 c2 c3 d0 d1 d2 d3 f0 f1 f2 f3;have rr:=(((S.r2.set 0 (by simp) (.int .i64 z1)).set 1 (by simp) (.int .i64 z2)).set 2 (by simp) (.int .i64 z)).set 3 (by simp) (.int .i64 z4);obtain ⟨y0,y1,y2,y3⟩:=rr.k4;have hB:=S.be.trans (jJX (ZpU (ZpU (ZpU (XGx _ X2 0 (.int .i64 z1)) (XGx _ X2 1 (.int .i64 z2))) (XGx _ X2 2 (.int .i64 z))) (XGx _ X2 3 (.int .i64 z4))) S.be.size (fun x e=>by have e:=Option.some.inj e;have:=S.h2;omega));refine bodyPost_ret (v:=.tuple #[.agg #[.int .i64 z1,.int .i64 z2,.int .i64 z,.int .i64 z4],_]) (by simp [results,Tryz.results4,go_sem,y0,y1,y2,y3];rfl) rfl ?_
   exact ⟨⟨_,_,rfl,⟨z1,z2,z,z4,rfl,hz.1,hz.2.1,aG,hz.2.2.2⟩,aF.1,aF.2⟩,hB⟩
  by_cases aY:y=3
  ·subst aY
   go_wp2_with fail;have aH:=ykG S.rd.pc;generalize aA:v7.alloc _=u1;obtain ⟨hb,aB,b1⟩:=bx1 aA;clear aA;replace S:=S.below hb;obtain ⟨G,aE⟩:∃ k,k=v7.heap.size:=⟨_,rfl⟩;have aP:G≠R:=by have:R<v7.heap.size:=aH;omega
   rw [<-aE] at b1 ⊢;have rg:=b1.now;clear hb b1 aB aE;refine (ZfV R a n' c' (p1+1+1+1) 2 _ S.rd (by omega)).mono ?_;rintro e v8 ⟨⟨m',rfl,m0,m1⟩,hr,hg⟩;replace S:=S.pick hr hg;replace rg:=rg.grown hg (fun e=>by injection e with e;omega);clear hr hg;obtain ⟨m,rfl⟩:∃ m:Nat,m'=(m:Int):=⟨m'.toNat,by omega⟩;have hm:m<2:=by omega
   have aD:=Row.nth (l:=[0,60001]) rg hm;obtain ⟨z,aC⟩:∃ z,nth [0,60001] m=z:=⟨_,rfl⟩
   have aG:-1<=z/\z<=1000000001:=by
    have:m=0\/m=1:=by omega
    rcases this with rfl | rfl<;>(rw [<-aC];decide)
   rw [aC] at aD;clear aC rg;have aI:(m:Int)<2:=by omega
   have aJ:¬ ((2:Int)<=(m:Int)):=by omega
   have aK:=ykG aD;have c3:=S.r5.cell 3 _ rfl;have f3:=S.r5.froz 3 (by simp);have l5:=S.r5.lt;go_upto_region 15 with fail;clear c3 f3 l5 aD aI aJ aK;replace S:=S.set 3 (by simp) (.int .i64 z);generalize v8.setCell _ _=v9 at *;obtain ⟨c0,c1,c2,c3⟩:=S.r5.k4;obtain ⟨d0,d1,d2,d3⟩:=S.r2.k4;obtain ⟨f0,f1,f2,f3⟩:=S.r2.z4;have l5:=S.r5.lt;have l2:=S.r2.lt;go_wp2;clear c0 c1 c2 c3 d0 d1 d2 d3 f0 f1 f2 f3;have rr:=(((S.r2.set 0 (by simp) (.int .i64 z1)).set 1 (by simp) (.int .i64 z2)).set 2 (by simp) (.int .i64 z3)).set 3 (by simp) (.int .i64 z);obtain ⟨y0,y1,y2,y3⟩:=rr.k4;have hB:=S.be.trans (jJX (ZpU (ZpU (ZpU (XGx _ X2 0 (.int .i64 z1)) (XGx _ X2 1 (.int .i64 z2))) (XGx _ X2 2 (.int .i64 z3))) (XGx _ X2 3 (.int .i64 z))) S.be.size (fun x e=>by have e:=Option.some.inj e;have:=S.h2;omega));refine bodyPost_ret (v:=.tuple #[.agg #[.int .i64 z1,.int .i64 z2,.int .i64 z3,.int .i64 z],_]) (by simp [results,Tryz.results4,go_sem,y0,y1,y2,y3];rfl) rfl ?_
   exact ⟨⟨_,_,rfl,⟨z1,z2,z3,z,rfl,hz.1,hz.2.1,hz.2.2.1,aG⟩,aF.1,aF.2⟩,hB⟩
  ·
   go_wp2_with fail;have aH:=ykG S.rd.pc;generalize aA:v7.alloc _=u1;obtain ⟨hb,aB,b1⟩:=bx1 aA;clear aA;replace S:=S.below hb;obtain ⟨G,aE⟩:∃ k,k=v7.heap.size:=⟨_,rfl⟩;have aP:G≠R:=by have:R<v7.heap.size:=aH;omega
   rw [<-aE] at b1 ⊢;have rg:=b1.now;clear hb b1 aB aE;refine (ZfV R a n' c' (p1+1+1+1) 2 _ S.rd (by omega)).mono ?_;rintro e v8 ⟨⟨m',rfl,m0,m1⟩,hr,hg⟩;replace S:=S.pick hr hg;replace rg:=rg.grown hg (fun e=>by injection e with e;omega);clear hr hg;obtain ⟨m,rfl⟩:∃ m:Nat,m'=(m:Int):=⟨m'.toNat,by omega⟩;have hm:m<2:=by omega
   have aD:=Row.nth (l:=[0,9]) rg hm;obtain ⟨z,aC⟩:∃ z,nth [0,9] m=z:=⟨_,rfl⟩
   have aG:-1<=z/\z<=1000000001/\0<=z/\z<=9:=by
    have:m=0\/m=1:=by omega
    rcases this with rfl | rfl<;>(rw [<-aC];decide)
   rw [aC] at aD;clear aC rg;have aI:(m:Int)<2:=by omega
   have aJ:¬ ((2:Int)<=(m:Int)):=by omega
   have aK:=ykG aD;go_upto_region 15 with fail;clear aD aI aJ aK;obtain ⟨c0,c1,c2,c3⟩:=S.r5.k4;obtain ⟨d0,d1,d2,d3⟩:=S.r2.k4;obtain ⟨f0,f1,f2,f3⟩:=S.r2.z4;have l5:=S.r5.lt;have l2:=S.r2.lt;go_wp2;clear c0 c1 c2 c3 d0 d1 d2 d3 f0 f1 f2 f3;have rr:=(((S.r2.set 0 (by simp) (.int .i64 z1)).set 1 (by simp) (.int .i64 z2)).set 2 (by simp) (.int .i64 z3)).set 3 (by simp) (.int .i64 z4);obtain ⟨y0,y1,y2,y3⟩:=rr.k4;have hB:=S.be.trans (jJX (ZpU (ZpU (ZpU (XGx _ X2 0 (.int .i64 z1)) (XGx _ X2 1 (.int .i64 z2))) (XGx _ X2 2 (.int .i64 z3))) (XGx _ X2 3 (.int .i64 z4))) S.be.size (fun x e=>by have e:=Option.some.inj e;have:=S.h2;omega));refine bodyPost_ret (v:=.tuple #[.agg #[.int .i64 z1,.int .i64 z2,.int .i64 z3,.int .i64 z4],_]) (by simp [results,Tryz.results4,go_sem,y0,y1,y2,y3];rfl) rfl ?_;exact ⟨⟨_,_,rfl,⟨z1,z2,z3,z4,rfl,hz⟩,aG.2.2.1,aG.2.2.2⟩,hB⟩
 ·clear x0 x1
  go_upto_region 15 with fail;obtain ⟨c0,c1,c2,c3⟩:=S.r5.k4;obtain ⟨d0,d1,d2,d3⟩:=S.r2.k4;obtain ⟨f0,f1,f2,f3⟩:=S.r2.z4;have l5:=S.r5.lt;have l2:=S.r2.lt;go_wp2;clear c0 c1 c2 c3 d0 d1 d2 d3 f0 f1 f2 f3;have rr:=(((S.r2.set 0 (by simp) (.int .i64 z1)).set 1 (by simp) (.int .i64 z2)).set 2 (by simp) (.int .i64 z3)).set 3 (by simp) (.int .i64 z4);obtain ⟨y0,y1,y2,y3⟩:=rr.k4;have hB:=S.be.trans (jJX (ZpU (ZpU (ZpU (XGx _ X2 0 (.int .i64 z1)) (XGx _ X2 1 (.int .i64 z2))) (XGx _ X2 2 (.int .i64 z3))) (XGx _ X2 3 (.int .i64 z4))) S.be.size (fun x e=>by have e:=Option.some.inj e;have:=S.h2;omega));refine bodyPost_ret (v:=.tuple #[.agg #[.int .i64 z1,.int .i64 z2,.int .i64 z3,.int .i64 z4],_]) (by simp [results,Tryz.results4,go_sem,y0,y1,y2,y3];rfl) rfl ?_;exact ⟨⟨_,_,rfl,⟨z1,z2,z3,z4,rfl,hz⟩,aF.1,aF.2⟩,hB⟩
end
theorem yB5 {s:ByteArray} {l f:Int} {n m N k:Nat} (hn:1<=n/\n<=8) (hm:n+m=56) (h:1<=l/\l<=60000/\1<=f/\f+(N:Int)<=1000000001) (hk:k<N):(kPX s l f n m N k).size=64:=by
 unfold kPX ZQp;have hx:(s.extract (k*m) (k*m+m)).size<=m:=by rw [ByteArray.size_extract];omega
 have aA:Xhw (if k+1=N then 2 else 1) l (f+(k:Int)) (s.extract (k*m) (k*m+m)) (n:Int)=true:=by
  unfold Xhw;refine decide_eq_true ?_
  split<;>omega
 rw [if_pos aA,X5y _ _ _ _ _ (by simp;omega)]
theorem XY2 {W S L T H F R U O:Int} {rs:List Pr} {b:List Ch} (h:(QUx W S L T H F R U O rs b).C=0):∃ aA d aB,(QUx W S L T H F R U O rs b).ops=(false,aA,d)::aB/\0<=aA/\aA<S/\d.size=64:=by
 unfold QUx at h ⊢
 split at h
 ·rename_i h1
  rw [if_pos h1];rw [Bool.and_eq_true] at h1;obtain ⟨⟨w1,w2⟩,s1,l1,t1,aG,f1,u1,o1,r1⟩:=qTq h1.1
  split at h
  ·rename_i h2
   rw [if_pos h2]
   split at h
   ·rename_i h3
    rw [if_pos h3]
    split at h
    ·rename_i h4
     rw [if_pos h4];have aF:=QU8 s1;have aE:2*hv S+2<=S:=by unfold hv;rw [if_pos s1];omega
     obtain ⟨N,hN⟩:∃ N,N=QgM (jvj b).size (56-W.toNat):=⟨_,rfl⟩
     have aD:JFN (jvj b).size W=(N:Int):=by
      unfold JFN;rw [if_pos ⟨w1,w2⟩,hN,show (56-W).toNat=56-W.toNat by omega]
     have aH:1<=N:=by
      rw [hN];unfold QgM;split
      ·exact Nat.le_refl 1
      ·exact Nat.le_add_left 1 _
     rw [aD] at h4;have aC:1<=L/\L<=60000/\1<=F+U/\F+U+(N:Int)<=1000000001:=by omega
     show ∃ aA d aB,qWl (2+H*hv S+U) (zhI (jvj b) L (F+U) W.toNat (56-W.toNat))=(false,aA,d)::aB/\0<=aA/\aA<S/\d.size=64;rw [yE2 hN aC];obtain ⟨M,rfl⟩:∃ M,N=M+1:=⟨N-1,by omega⟩;have hH:H=0\/H=1:=by omega
     refine ⟨_,_,_,by unfold qWl kkL;rw [List.range_succ_eq_map,List.map_cons,List.mapIdx_cons],?_,?_,yB5 (by omega) (by omega) aC (by omega)⟩
     ·rcases hH with rfl | rfl<;>simp<;>omega
     ·rcases hH with rfl | rfl<;>simp<;>omega
    ·exact absurd h (by simp [noD])
   ·exact absurd h (by simp [noD])
  ·exact absurd h (by simp [noD])
 ·exact absurd h (by simp [noD])
theorem zvh {ss:List ByteArray} {ws:List (Int×ByteArray)} {n:Int} (h:(Zfa ss ws n).C=0):(Zfa ss ws n).S=ss.length:=by
 unfold Zfa at h ⊢
 split at h
 ·rename_i h1
  rw [if_pos h1]
  split at h
  ·exact absurd h (by simp [noD])
  ·rename_i rs hrs
   by_cases k1:60000<(opX ss ws n).2.2+1
   ·rw [if_pos k1] at h;exact absurd h (by simp [noD])
   rw [if_neg k1] at h ⊢
   by_cases k2:hv ss.length-1<xee (ZZG rs) n
   ·rw [if_pos k2] at h;exact absurd h (by simp [noD])
   rw [if_neg k2] at h ⊢
   by_cases k3:hv ss.length<=(opX ss ws n).2.1
   ·rw [if_pos k3] at h ⊢
    unfold kGX at h ⊢
    by_cases k4:j5U (ss.length:Int) (frD ss ws n).1 (frD ss ws n).2.2.1=true
    ·rw [if_pos k4];rfl
    ·rw [if_neg k4] at h;exact absurd h (by simp [noD])
   ·rw [if_neg k3]
 ·exact absurd h (by simp [noD])
theorem vLm {ss:List ByteArray} {ws:List (Int×ByteArray)} (h:vlG ss ws=true) (aA:List OpT) (z:Int):vlG (pfR ss ws aA z).1 (pfR ss ws aA z).2=true/\(pfR ss ws aA z).1.length=ss.length:=by
 have hl:(pfR ss ws aA z).1.length=ss.length:=by unfold pfR;rw [if_pos h,k38]
 have h8:=(q67 h).1.1;refine ⟨(Q27 ss ws aA z).resolve_right (fun k=>?_),hl⟩;rw [k.1] at hl;simp at hl;omega
theorem yoq {x:Wo} {e:Ev} (h:(x.call e).1.C=0) (ha:(x.call e).2=true) (hu:x.up=true->x.S=x.ss.length):(x.call e).1.S=x.ss.length:=by
 unfold Wo.call at h ha ⊢
 by_cases k1:e.K=1
 ·rw [if_pos k1] at h ⊢;exact zvh h
 rw [if_neg k1] at h ha ⊢
 by_cases k2:e.K=2
 ·rw [if_pos k2] at h ha ⊢
  rw [<-hu ha];show (QUx x.W x.S x.L x.T x.H x.F x.R x.U x.O x.rs e.b).S=x.S;replace h:(QUx x.W x.S x.L x.T x.H x.F x.R x.U x.O x.rs e.b).C=0:=h;unfold QUx at h ⊢
  split at h
  ·rename_i a1;rw [if_pos a1]
   split at h
   ·rename_i a2;rw [if_pos a2]
    split at h
    ·rename_i a3;rw [if_pos a3]
     split at h
     ·rename_i a4;rw [if_pos a4]
     ·exact absurd h (by simp [noD])
    ·exact absurd h (by simp [noD])
   ·exact absurd h (by simp [noD])
  ·exact absurd h (by simp [noD])
 rw [if_neg k2] at h ha ⊢
 by_cases k3:e.K=3
 ·rw [if_pos k3] at h ha ⊢
  rw [<-hu ha];show (jej x.W x.S x.L x.T x.H x.F x.R x.U x.O x.rs).S=x.S;replace h:(jej x.W x.S x.L x.T x.H x.F x.R x.U x.O x.rs).C=0:=h;unfold jej at h ⊢
  split at h
  ·rename_i a1;rw [if_pos a1]
  ·exact absurd h (by simp [noD])
 rw [if_neg k3] at h ha ⊢
 by_cases k4:e.K=4
 ·rw [if_pos k4] at h ha ⊢
  rw [<-hu ha];show (JfS x.W x.S x.L x.T x.H x.F x.R x.U x.O x.rs).S=x.S;replace h:(JfS x.W x.S x.L x.T x.H x.F x.R x.U x.O x.rs).C=0:=h;unfold JfS at h ⊢
  split at h
  ·rename_i a1;rw [if_pos a1]
   unfold kGX at h ⊢
   split at h
   ·rename_i a2;rw [if_pos a2];rfl
   ·exact absurd h (by simp [noD])
  ·exact absurd h (by simp [noD])
 ·rw [if_neg k4] at ha
  exact absurd ha (by simp)
theorem Zea {ss:List ByteArray} {ws:List (Int×ByteArray)} (h:vlG ss ws=true) (fs:List Int):vlG (jYf fs ss ws) []=true/\(jYf fs ss ws).length=ss.length:=by
 have hl:(jYf fs ss ws).length=ss.length:=by unfold jYf q95;rw [if_pos h];simp [jjn]
 have h8:=(q67 h).1.1;refine ⟨(X6c fs ss ws).resolve_right (fun k=>?_),hl⟩;rw [k.1] at hl;simp at hl;omega
structure Wo.good (x:Wo) (N:Nat):Prop where
 ok:x.ok
 d:vlG x.ss x.ws=true
 n:x.ss.length=N
 u:x.up=true->x.S=x.ss.length
theorem Wo.good.pow {x:Wo} {N:Nat} (h:x.good N) (fs:List Int):(x.pow fs).good N :=
 ⟨h.ok.pow fs,(Zea h.d fs).1,(Zea h.d fs).2.trans h.n,fun k=>by cases k⟩
theorem Wo.good.doE {x:Wo} {N:Nat} (h:x.good N) (e:Ev):(x.doE e).good N:=by
 refine ⟨h.ok.doE e,?_,?_,?_⟩
 all_goals
  obtain ⟨D,hD⟩:∃ D,D=x.call e:=⟨_,rfl⟩;have hc:=yoq (x:=x) (e:=e);unfold Wo.doE;rw [<-hD] at hc ⊢;have hp:=vLm h.d D.1.ops (evN e D.1)
  by_cases k5:e.K=5
  ·rw [if_pos k5]
   first | exact (h.pow e.fs).d | exact (h.pow e.fs).n | exact (h.pow e.fs).u
  rw [if_neg k5]
  by_cases k1:D.2=false\/D.1.C≠0
  ·rw [if_pos k1]
   first | exact h.d | exact h.n | exact h.u
  rw [if_neg k1]
  have ha:D.2=true:=by
   cases hd2:D.2 with
   | true=>rfl
   | false=>exact absurd (.inl hd2) k1
  have h0:D.1.C=0:=Decidable.not_not.1 (fun k=>k1 (.inr k));have hS:=hc h0 ha h.u
  by_cases k2:2000<(ZmL x e D.1).length\/200<(evP x e D.1).length
  ·rw [if_pos k2]
   first | exact h.d | exact h.n | exact h.u
  rw [if_neg k2]
  by_cases k3:ZJ5 e D.1=true
  ·rw [if_pos k3]
   first | exact (Zea hp.1 e.fs).1 | exact ((Zea hp.1 e.fs).2.trans hp.2).trans h.n | (intro k;cases k)
  rw [if_neg k3]
  by_cases k4:e.K=2
  ·rw [if_pos k4]
   first | exact hp.1 | exact hp.2.trans h.n | (intro _;exact hS.trans (by rw [show ((x.ran e D.1).upS D.1).ss.length=x.ss.length from hp.2]))
  ·rw [if_neg k4]
   first | exact hp.1 | exact hp.2.trans h.n | (intro _;exact hS.trans (congrArg Nat.cast (show x.ss.length=((x.ran e D.1).upS D.1).ss.length from hp.2.symm)))
def z0i (w w':World) (e:Ending) (aA:Option (List Pr)):Prop:=∃ a c,e=.returned (.tuple #[stV a (aA.getD []).length c,.bool aA.isSome])/\(aA.getD []).length<=c/\OwnS w' a (qJS (aA.getD []))/\(∀ g,blk a (aA.getD []).length=some g->w.heap.size<=g)/\Below w.heap.size w w'
theorem kHP {s:ByteArray} {o:List Ch} (h:yjX s=some o):kpJ o=true:=by
 rw [<-jLn] at h;unfold ZnV at h
 split at h
 ·cases h
 ·split at h
  ·rename_i hh;cases h;exact hh
  ·cases h
theorem zJy {w:World} {a:Option Addr} {rs:List Ch} (h:OwnS w a (jlM rs)):Chs w a rs:=by
 rcases h with h | ⟨g,rfl,h⟩
 ·refine .inl ?_
  cases rs with
  | nil=>rfl
  | cons x r=>obtain ⟨x0,x1,x2⟩:=x;exact absurd h (by simp [jlM])
 ·exact h.chs
theorem jME {l:List Pr} (h:qJS l≠[]):l.length≠0:=fun e=>h (by rw [List.eq_nil_of_length_eq_zero e];rfl)
theorem OwnS.setF {w:World} {a:Option Addr} {cs:List Value} (h:OwnS w a cs) (p:Addr) (hp:∀ g,a=some ⟨g,0,none⟩->cs≠[]->p.block≠g) (v:Value):OwnS (w.setCell p v) a cs:=by
 by_cases h0:cs=[]
 ·exact .inl h0
 ·rcases h with h | ⟨g,rfl,hr⟩
  ·exact absurd h h0
  ·exact .inr ⟨g,rfl,hr.other p (hp g rfl h0) v⟩
structure FdB (w W:World) (rs:List Pr) (sa:Option Addr) (sc:Nat):Prop where
 rb:Row W w.heap.size [.slice none 0 0]
 st:Row W (w.heap.size+1) [.slice sa rs.length sc]
 own:OwnS W sa (qJS rs)
 lo:∀ g,blk sa rs.length=some g->w.heap.size+2<=g
 cap:rs.length<=sc
 be:Below w.heap.size w W
theorem FdB.new (w:World):FdB w ((w.alloc (.cells #[.slice none 0 0] 57)).alloc (.cells #[.slice none 0 0] 57)) [] none 0 :=
 ⟨(kR4 w #[.slice none 0 0] 57 w.heap.size rfl).alloc _,kR4 _ #[.slice none 0 0] 57 _ (by simp),.inl rfl,fun g hg=>(by cases hg),Nat.le_refl _,((Below.refl _ _).alloc (Nat.le_refl _) _).alloc (by simp) _⟩
theorem FdB.below {w W W':World} {rs:List Pr} {sa:Option Addr} {sc:Nat} (h:FdB w W rs sa sc) (hb:Below W.heap.size W W'):FdB w W' rs sa sc:=⟨h.rb.below hb,h.st.below hb,h.own.below hb,h.lo,h.cap,h.be.trans (hb.mono h.be.size)⟩
theorem FdB.set {w X:World} {W':Obj} {rs aA:List Pr} {sa aB:Option Addr} {sc sc':Nat} (h:FdB w (X.alloc W') rs sa sc) (ho:OwnS X aB (qJS aA)) (hc:aA.length<=sc') (aC:∀ g,blk aB aA.length=some g->w.heap.size+2<=g) :
  FdB w ((X.alloc W').setCell ⟨w.heap.size+1,0,none⟩ (.slice aB aA.length sc')) aA aB sc':=by
 refine ⟨h.rb.other _ (by show w.heap.size+1≠w.heap.size;omega) _,h.st.set 0 (by simp) _,OwnS.setF (ho.below ((Below.refl _ _).alloc (Nat.le_refl _) _)) _ (fun g hg hn=>?_) _,aC,hc,h.be.setCell (by show w.heap.size<=w.heap.size+1;omega) _⟩;have:=aC g (by subst hg;exact qdd _ _ _ (jME hn));show w.heap.size+1≠g;omega
theorem qZW (a:Option Addr) (es:List ByteArray) (c:Nat) (w:World) (h:Strs w a es) (hl:es.length<=1000) (hs:∀ e∈es,e.size<=1048576) :
  Calls Tryz.prog 95 #[.slice a es.length c] w fun e w'=>z0i w w' e (qAf es []):=by
 obtain ⟨aD,aJ⟩:∃ aD,Hid (aD=qAf es []):=⟨_,hid rfl⟩;rw [<-aJ.out];have HH:=hid h;have HS:=hid hs;clear h hs;go_enter Tryz.func95,Tryz.ntmps95;go_wp2;go_loopw [5] (fun iv wr=>∃ (i:Nat) (rs:List Pr) (sa:Option Addr) (sc:Nat) (W:World),W=wr/\iv=.int .i64 (i:Int)/\i<=es.length/\z0q rs=true/\Hid (qAf (es.drop i) rs=aD)/\FdB w W rs sa sc) (fun iv _=>((es.length:Int)-intOf iv).toNat)
 case atStart=>exact ⟨0,[],none,0,_,rfl,rfl,Nat.zero_le _,vv3,by show _=_;rw [aJ.out];rfl,FdB.new w⟩
 case round =>
  obtain ⟨i,rs,sa,sc,wr,rfl,rfl,hi,aN,HF,D⟩:=hrel;have HD:=hid D;have d1:=D.st.cell 0 _ rfl;have aV:=D.st.lt;have d0:=D.rb.cell 0 _ rfl;have aP:=D.rb.lt;have aW:=D.rb.froz 0 (by simp);have aC:=ytq aN;have bV:=aC.1;have cC:=hid aN;have aY:=hid aC.2;clear aN aC D
  by_cases aQ:i<es.length
  ·have aS:(i:Int)<(es.length:Int):=by omega
   have bU:(0:Int)<=(i:Int):=by omega
   have bW:IntKind.i64.wrap ((i:Int)+1)=(i:Int)+1:=by simp [IntKind.wrap,IntKind.bits,IntKind.signed];omega
   obtain ⟨b,o,s,rfl,hc,HE⟩:=(HH.out.below HD.out.be).at aQ;have bC:s.size<=1048576:=HS.out s (by rw [HE.out];simp [List.getD,aQ]);have aT:es.drop i=s::es.drop (i+1):=by rw [HE.out];simp [List.getD,aQ]
   have bZ:b<wr.heap.size:=by have:=World.block_lt_of_cell? wr _ hc;simpa using this
   have aH:=hid (fun wx=>Qnj s wx bC)
   skip
   rw [aT] at HF;have b7:=hid aT;clear aT
   cases hR:yjX s with
   | none =>
    rw [hR] at aH;have HN:Hid (aD=none):=by show _=_;rw [<-HF.out];exact kIa hR
    clear hR;go_wp2_with fail;refine (aH.out _).mono ?_;rintro e w5 ⟨ab,cb,rfl,_,_,aB⟩;simp only [Option.getD_none,Option.isSome_none,List.length_nil];have D5:=HD.out.below aB;have aF:=hid D5;have r0:=D5.rb.cell 0 _ rfl;have bQ:=D5.rb.lt;have bH:=D5.rb.froz 0 (by simp);clear d1 aV d0 aP aW D5 aB hc;go_wp2;refine bodyPost_ret (v:=.tuple #[stV none 0 0,.bool false]) (by simp [results,Tryz.results95,go_sem,r0,stV]) rfl ?_;rw [HN.out];exact ⟨none,0,rfl,Nat.le_refl _,.inl rfl,fun g hg=>(by cases hg),aF.out.be.setCell (by show w.heap.size<=w.heap.size;omega) _⟩
   | some bb =>
    rw [hR] at aH;have aO:=JQk (kHP hR);have aZ:=hid aO.2;have bJ:=aO.1;clear aO
    by_cases aA:apC rs bb=0
    ·have HN:Hid (qAf (es.drop (i+1)) (apU rs bb)=aD):=by show _=_;rw [<-HF.out];exact (QhE hR aA).symm
     have hU:apR rs bb=apU rs bb:=by unfold apR;rw [if_pos aA]
     have bG:=hid (jZe aA);clear hR;go_wp2_with fail;refine (aH.out _).mono ?_;rintro e w5 ⟨ab,cb,rfl,aE,aK,aB⟩;simp only [Option.getD_some,Option.isSome_some] at aE aK ⊢;have D5:=HD.out.below aB;have aF:=hid D5;have r1:=D5.st.cell 0 _ rfl;have aU:=D5.st.lt;have aI:=hid (zg0 sa rs sc ab bb cb w5 D5.own.prs (by omega) aY.out (zJy aE) (by omega) aZ.out);rw [hU,aA] at aI;clear d1 aV d0 aP aW D5 aB hc aE aK;go_wp2_with fail;refine aI.out.mono ?_;rintro e w6 ⟨a6,c6,rfl,aX,aL,aM,aG⟩;have D6:=(aF.out.below aG).below (zE5 w6 (.cells #[.slice a6 (apU rs bb).length c6] 57));have aR:=hid (D6.set aL aX (fun g hg=>by have:=aM g hg;omega));have x1:=D6.st.cell 0 _ rfl;have cF:=D6.st.froz 0 (by simp);have cE:=D6.st.lt;have x6:w6.heap.size≠w.heap.size+1:=by have:=(aF.out.below aG).st.lt;omega
     clear r1 aU D6 aG aL aM aA hU;go_wp2;exact ⟨⟨i+1,_,a6,c6,_,rfl,by simp,by omega,bG.out,HN,aR.out⟩,by simp [intOf];omega⟩
    ·have HN:Hid (aD=none):=by show _=_;rw [<-HF.out];exact qep hR aA
     have hU:apR rs bb=[]:=by unfold apR;rw [if_neg aA]
     have b8:(apC rs bb == 0)=false:=by simp [aA]
     have bI:(apC rs bb != 0)=true:=by simp [aA]
     clear hR;go_wp2_with fail;refine (aH.out _).mono ?_;rintro e w5 ⟨ab,cb,rfl,aE,aK,aB⟩;simp only [Option.getD_some,Option.isSome_some] at aE aK ⊢;have D5:=HD.out.below aB;have aF:=hid D5;have r1:=D5.st.cell 0 _ rfl;have aU:=D5.st.lt;have aI:=hid (zg0 sa rs sc ab bb cb w5 D5.own.prs (by omega) aY.out (zJy aE) (by omega) aZ.out);rw [hU] at aI;clear d1 aV d0 aP aW D5 aB hc aE aK hU;go_wp2_with fail;refine aI.out.mono ?_;rintro e w6 ⟨a6,c6,rfl,aX,aL,aM,aG⟩;have D6:=(aF.out.below aG).below (zE5 w6 (.cells #[.slice a6 0 c6] 57));have aR:=hid D6;have r0:=D6.rb.cell 0 _ rfl;have bQ:=D6.rb.lt;have bH:=D6.rb.froz 0 (by simp);clear r1 aU D6 aG aL aM;go_wp2;refine bodyPost_ret (v:=.tuple #[stV none 0 0,.bool false]) (by simp [results,Tryz.results95,go_sem,r0,stV]) rfl ?_;rw [HN.out];exact ⟨none,0,rfl,Nat.le_refl _,.inl rfl,fun g hg=>(by cases hg),aR.out.be.setCell (by show w.heap.size<=w.heap.size;omega) _⟩
  ·have HN:Hid (aD=some rs):=by show _=_;rw [<-HF.out,List.drop_of_length_le (by omega)];rfl
   have aS:¬ ((i:Int)<(es.length:Int)):=by omega
   have bY:¬ (w.heap.size=w.heap.size+1):=by omega
   go_wp2;refine bodyPost_ret (v:=.tuple #[stV sa rs.length sc,.bool true]) (by simp [results,Tryz.results95,go_sem,d0,stV]) rfl ?_;rw [HN.out];refine ⟨sa,sc,rfl,HD.out.cap,OwnS.setF HD.out.own ⟨w.heap.size,0,none⟩ (fun g hg hn=>?_) _,fun g hg=>by have:=HD.out.lo g hg;omega,HD.out.be.setCell (by show w.heap.size<=w.heap.size;omega) _⟩;have:=HD.out.lo g (by subst hg;exact qdd _ _ _ (jME hn));show w.heap.size≠g;omega
@[reducible] def scV (a:Option Addr) (n c:Nat) (u l:Int):Value:=.agg #[.slice a n c,.int .i64 u,.int .i64 l]
theorem kFv {w w':World} {e:Ending} {x:Scd} (h:xPk w w' e x):∃ a c,e=.returned (scV a x.1.length c x.2.1 x.2.2)/\OwnS w' a (x.1.map Value.string)/\(∀ g,blk a x.1.length=some g->w.heap.size<=g)/\Below w.heap.size w w':=by
 obtain ⟨y,rfl,ho,hb⟩:=h;rcases yUO ho with ⟨e1,e2⟩ | ⟨g,cap,e1,h1,h2,hr⟩
 ·subst e1
  have:x.1=[]:=List.eq_nil_of_length_eq_zero e2;exact ⟨none,0,by rw [e2],.inl (by rw [this];rfl),fun g hg=>(by rw [e2] at hg;cases hg),hb⟩
 ·subst e1
  refine ⟨_,cap,rfl,.inr ⟨g,rfl,hr⟩,fun g' hg=>?_,hb⟩;have:=k8j hg;omega
def y0p (n:Nat):ByteArray:=if h:n<10 then strOfNums [((48+n:Nat):Int)] else y0p (n / 10)++strOfNums [((48+n % 10:Nat):Int)]
theorem Xow:∀ (k n:Nat),n<10 ^ (k+1)->(y0p n).size<=k+1:=by
 intro k
 induction k with
 | zero=>intro n hn;unfold y0p;rw [dif_pos (by omega),strOfNums_size];simp
 | succ k ih =>
  intro n hn;unfold y0p
  split
  ·rw [strOfNums_size];simp
  ·rw [ByteArray.size_append,strOfNums_size]
   have:=ih (n / 10) (by rw [Nat.pow_succ] at hn;omega);simp only [List.length_singleton];omega
theorem y3f (w:World) (b:Nat) (n:Int) (h:w.cell? ⟨b,0,none⟩=some (.int .u8 n)):(convert 22 9 (.slice (some ⟨b,0,none⟩) 1 1)).run Tryz.prog w=.ok (.string (strOfNums [n])) w :=
 run_convert_bytes_arg (P:=Tryz.prog) _ 22 5 Tryz.underlying22 Tryz.underlying5 b 0 1 1 [n] rfl (fun i hi=>by
  have:i=0:=by omega
  subst this
  simpa using h) 9 Tryz.underlying9
theorem qi1 (x:Int) (h0:0<=x) (h1:x<=255):IntKind.u8.wrap x=x:=by simp [IntKind.wrap,IntKind.bits,IntKind.signed];omega
theorem Xux:∀ (k n:Nat) (w:World),n<10 ^ k->k<=15->Calls Tryz.prog 61 #[.int .i64 (n:Int)] w fun e w'=>e=.returned (.string (y0p n))/\Below w.heap.size w w':=by
 intro k
 induction k with
 | zero =>
  intro n w hn hk;have aT:n=0:=by simpa using hn
  subst aT;have aE:=y3f (w.alloc (.cells #[.int .u8 48] 5)) w.heap.size 48 (by simp);go_enter Tryz.func61,Tryz.ntmps61;go_wp2;go_ret;exact ⟨by unfold y0p;rfl,xCS _ _⟩
 | succ k ih =>
  intro n w hn hk;have aR:(10:Nat) ^ (k+1)<=10 ^ 15:=Nat.pow_le_pow_right (by omega) hk;have aM:(10:Nat) ^ 15=1000000000000000:=by decide
  by_cases aS:n<10
  ·have aN:(n:Int)<10:=by omega
   have hw:IntKind.i64.wrap (48+(n:Int))=48+(n:Int):=vRg _ (by omega) (by omega);have hu:IntKind.u8.wrap (48+(n:Int))=48+(n:Int):=qi1 _ (by omega) (by omega);have aE:=y3f (w.alloc (.cells #[.int .u8 (48+(n:Int))] 5)) w.heap.size (48+(n:Int)) (by simp);have hd:y0p n=strOfNums [48+(n:Int)]:=by unfold y0p;rw [dif_pos aS];congr 2
   have HD:=hid hd;clear hd;go_enter Tryz.func61,Tryz.ntmps61;go_wp2;go_ret;exact ⟨by rw [HD.out];rfl,xCS _ _⟩
  ·have aN:¬ (n:Int)<10:=by omega
   obtain ⟨d,aP⟩:∃ d:Nat,n / 10=d:=⟨_,rfl⟩;obtain ⟨m,aQ⟩:∃ m:Nat,n % 10=m:=⟨_,rfl⟩;have hq:(n:Int).tdiv 10=(d:Int):=by rw [<-aP];rfl
   have hr:(n:Int).tmod 10=(m:Int):=by rw [<-aQ];rfl
   have aV:IntKind.i64.wrap (d:Int)=(d:Int):=vRg _ (by omega) (by omega);have hw:IntKind.i64.wrap (48+(m:Int))=48+(m:Int):=vRg _ (by omega) (by omega);have hu:IntKind.u8.wrap (48+(m:Int))=48+(m:Int):=qi1 _ (by omega) (by omega);have HS:=hid (Xow 14 d (by omega));have HD:Hid (y0p n=y0p d++strOfNums [48+(m:Int)]):=hid (by rw [show y0p n=y0p (n / 10)++strOfNums [((48+n % 10:Nat):Int)] by rw [y0p,dif_neg aS],aP,aQ];congr 2);have CI:=hid (fun w'=>ih d w' (by rw [Nat.pow_succ] at hn;omega) (by omega));obtain ⟨t1,aO⟩:∃ t,Hid (t=y0p d):=⟨_,hid rfl⟩;obtain ⟨t2,aJ⟩:∃ t,Hid (t=strOfNums [48+(m:Int)]):=⟨_,hid rfl⟩;have aU:t2.size=1:=by rw [aJ.out,strOfNums_size];rfl
   have aW:t1.size<=15:=by rw [aO.out];exact HS.out
   rw [<-aO.out] at CI;rw [<-aO.out,<-aJ.out] at HD;have aX:t1.size<=9223372036854775806:=by omega
   have zk:¬ (9223372036854775807<t1.size+t2.size):=by omega
   clear aP aQ ih aR aM hn HS;go_enter Tryz.func61,Tryz.ntmps61;go_upto_region 3 with fail;refine wp_region_held_drew (S:=fun w'=>True) (by kernel_rfl) (trivial) (fun aB=>?_);refine TY 0 (.int .i64 (n:Int)) rfl aB (TY 1 (.int .i64 (d:Int)) rfl aB (TY 3 (.int .i64 (n:Int)) rfl aB (TY 4 (.int .i64 (m:Int)) rfl aB (TY 5 (.int .i64 (48+(m:Int))) rfl aB (TY 6 (.int .u8 (48+(m:Int))) rfl aB ?_)))));simp only [PS];refine wpAnyH_ready (rs:=[2,7]) (by kernel_rfl) (by simp) ?_;refine AllReadyH.cons rfl (fun Kq aA=>?_) (AllReadyH.cons rfl (fun Kq aA=>?_) AllReadyH.nil)
   ·obtain ⟨y0,aC⟩:∃ y,y=w.drew:=⟨_,rfl⟩
    rw [<-aC];have aH:Below w.heap.size w y0:=by rw [aC];exact (Below.refl _ _).drew
    clear aC;refine XRf (by rfl) _ _ (by go_simp) (CI.out _) ?_;rintro e y1 ⟨rfl,aL⟩;refine ⟨_,rfl,?_⟩;have aF:=aH.trans (aL.mono aH.size);refine aA.out _ _ aB (fun _=>?_)
    try simp only [PS]
    refine RD 7 rfl (fun Kq aA=>?_);go_simp;have aD:=xCS y1 (.cells #[.int .u8 (48+(m:Int))] 5);have rX:=xER y1 #[.int .u8 (48+(m:Int))] 5;obtain ⟨y2,aG⟩:∃ y,y=y1.alloc (.cells #[.int .u8 (48+(m:Int))] 5):=⟨_,rfl⟩;obtain ⟨X,aI⟩:∃ y,y=y1.heap.size:=⟨_,rfl⟩;rw [<-aG] at aD rX ⊢;rw [<-aI] at rX ⊢;have aK:=aF.trans (aD.mono aF.size);clear aG aI;refine aA.out _ _ aB (fun _=>?_)
    try simp only [PS]
    refine RD 8 rfl (fun Kq aA=>?_);have aE:=y3f _ _ _ (rX.cell 0 _ rfl);rw [<-aJ.out] at aE;go_simp;refine aA.out _ _ aB (fun _=>?_)
    try simp only [PS]
    refine TY 9 (.string (t1++t2)) rfl aB ?_;simp only [PS];refine RD 10 rfl (fun Kq aA=>?_);go_simp;refine aA.out _ _ aB (fun _=>?_)
    try simp only [PS]
    refine DN ?_;go_wp2;go_ret;exact ⟨by rw [HD.out];rfl,aK⟩
   ·obtain ⟨y0,aC⟩:∃ y,y=w.drew:=⟨_,rfl⟩
    rw [<-aC];have aH:Below w.heap.size w y0:=by rw [aC];exact (Below.refl _ _).drew
    clear aC;go_simp;have aL:=xCS y0 (.cells #[.int .u8 (48+(m:Int))] 5);have rX:=xER y0 #[.int .u8 (48+(m:Int))] 5;obtain ⟨y1,aG⟩:∃ y,y=y0.alloc (.cells #[.int .u8 (48+(m:Int))] 5):=⟨_,rfl⟩;obtain ⟨X,aI⟩:∃ y,y=y0.heap.size:=⟨_,rfl⟩;rw [<-aG] at aL rX ⊢;rw [<-aI] at rX ⊢;have aF:=aH.trans (aL.mono aH.size);clear aG aI;refine aA.out _ _ aB (fun _=>?_)
    try simp only [PS]
    refine wpAnyH_ready (rs:=[2,8]) (by kernel_rfl) (by simp) ?_;refine AllReadyH.cons rfl (fun Kq aA=>?_) (AllReadyH.cons rfl (fun Kq aA=>?_) AllReadyH.nil)
    ·refine XRf (by rfl) _ _ (by go_simp) (CI.out _) ?_
     rintro e y2 ⟨rfl,aD⟩;refine ⟨_,rfl,?_⟩;have aK:=aF.trans (aD.mono aF.size);have rX:=rX.below aD;refine aA.out _ _ aB (fun _=>?_)
     try simp only [PS]
     refine RD 8 rfl (fun Kq aA=>?_);have aE:=y3f _ _ _ (rX.cell 0 _ rfl);rw [<-aJ.out] at aE;go_simp;refine aA.out _ _ aB (fun _=>?_)
     try simp only [PS]
     refine TY 9 (.string (t1++t2)) rfl aB ?_;simp only [PS];refine RD 10 rfl (fun Kq aA=>?_);go_simp;refine aA.out _ _ aB (fun _=>?_)
     try simp only [PS]
     refine DN ?_;go_wp2;go_ret;exact ⟨by rw [HD.out];rfl,aK⟩
    ·have aE:=y3f _ _ _ (rX.cell 0 _ rfl)
     rw [<-aJ.out] at aE;go_simp;refine aA.out _ _ aB (fun _=>?_)
     try simp only [PS]
     refine RD 2 rfl (fun Kq aA=>?_);refine XRf (by rfl) _ _ (by go_simp) (CI.out _) ?_;rintro e y2 ⟨rfl,aD⟩;refine ⟨_,rfl,?_⟩;have aK:=aF.trans (aD.mono aF.size);have rX:=rX.below aD;refine aA.out _ _ aB (fun _=>?_)
     try simp only [PS]
     refine TY 9 (.string (t1++t2)) rfl aB ?_;simp only [PS];refine RD 10 rfl (fun Kq aA=>?_);go_simp;refine aA.out _ _ aB (fun _=>?_)
     try simp only [PS]
     refine DN ?_;go_wp2;go_ret;exact ⟨by rw [HD.out];rfl,aK⟩
end Go.Proofs.YtcdojnnkjeakmaaGreatDoor
