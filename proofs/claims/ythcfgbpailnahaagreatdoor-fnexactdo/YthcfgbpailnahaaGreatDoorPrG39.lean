import Derived.Test.YthcfgbpailnahaaGreatDoorPrAq
import Derived.Test.YthcfgbpailnahaaGreatDoorPrDrvOf
import Derived.Test.YthcfgbpailnahaaGreatDoorPrFate
import Derived.Deep.Cut
import Derived.Deep.CutRange
import Derived.Test.YthcfgbpailnahaaGreatDoorPrG36
set_option maxHeartbeats 16000000
set_option maxRecDepth 8000
set_option linter.all false
namespace Go.Proofs.YthcfgbpailnahaaGreatDoor
open Tryz
open Go.RowKit
variable {g n:Nat}{w:World}
def QJ(d:List ByteArray×List (Int×ByteArray))(o:Bool×Int×ByteArray):List ByteArray×List (Int×ByteArray) :=if o.1=true then (NY d.2 d.1,[]) else if OI d.1.length o.2=true/\d.2.length<300 then (d.1,d.2++[o.2]) else d
def NW:List (Bool×Int×ByteArray)->List ByteArray×List (Int×ByteArray)->List ByteArray×List (Int×ByteArray)
 | [],d=>d
 | o::r,d=>NW r (QJ d o)
def qN(d:List ByteArray×List (Int×ByteArray))(x:Int×ByteArray):QJ d (true,x)=(NY d.2 d.1,[]):=by simp[QJ]
def qS(d:List ByteArray×List (Int×ByteArray))(x:Int×ByteArray)(h:OI d.1.length x=true)(h2:d.2.length<300):QJ d (false,x)=(d.1,d.2++[x]):=by simp[QJ,h,h2]
def jf(d:List ByteArray×List (Int×ByteArray))(x:Int×ByteArray)(h:OI d.1.length x=false\/¬d.2.length<300):QJ d (false,x)=d:=by
 unfold QJ;rw[AE (by simp),AE];rintro⟨h1,h2⟩;rcases h with h|h
 ·rw[h]at h1;cases h1
 exact h h2
def qH(d:List ByteArray×List (Int×ByteArray))(o:Bool×Int×ByteArray):(QJ d o).1.length=d.1.length:=by
 unfold QJ
 split
 ·exact ZT _ _
 split<;>rfl
def ww:∀(ws:List (Int×ByteArray)) (ss:List ByteArray),(∀s∈ss,(s.size:Int)=64)->(∀x∈ws,(x.2.size:Int)=64)->∀s∈NY ws ss,(s.size:Int)=64
 | [],ss,h,_=>h
 | x::r,ss,h,hw=>ww r _ (λs hs=>by
   rcases EI hs with h3|h3
   ·exact h s h3
   ·rw[h3];exact hw x (DZ ..)) (λy hy=>hw y (BQ _ hy))
def ZE{x:Int×ByteArray}(h:OI n x=true):(0<=x.1/\x.1<(n:Int))/\(x.2.size:Int)=64:=by
 have:=AZ h;omega
def xq{ss:List ByteArray}{ws:List (Int×ByteArray)}(h1:8<=ss.length/\ss.length<=200/\ws.length<=300)(h2:∀s∈ss,(s.size:Int)=64)(h3:∀x∈ws,OI ss.length x=true):LS ss ws=true:=by
 unfold LS;rw[CU,CU];exact⟨⟨AO h1,DX.2 λs hs=>AO (h2 s hs)⟩,DX.2 h3⟩
def kt(d:List ByteArray×List (Int×ByteArray))(o:Bool×Int×ByteArray)(h:LS d.1 d.2=true):LS (QJ d o).1 (QJ d o).2=true:=by
 obtain⟨h1,h2,h3⟩:=OZ h;unfold QJ
 split
 ·refine xq ?_ (ww _ _ h2 λx hx=>(ZE (h3 x hx)).2) (λx hx=>by simp at hx)
  show 8<=(NY d.2 d.1).length/\(NY d.2 d.1).length<=200/\0<=300;rw[ZT];omega
 split
 ·rename_i hc
  refine xq ?_ h2 (λx hx=>?_)
  ·show 8<=d.1.length/\d.1.length<=200/\(d.2++[o.2]).length<=300
   rw[AF];have:=hc.2;simp;omega
  rcases BP.1 hx with hx|hx
  ·exact h3 x hx
  rw[EH.1 hx];exact hc.1
 exact h
def yR(x y:List Int)(hx:x.length=64)(hy:y.length=64):RH 64 x y=x:=by
 unfold RH;rw[AT (by omega),CX (by omega),EY]
structure DV(w:World)(base X g n:Nat)(v:Value)(ps:List (List Int))(hs:List (Int×List Int)):Prop where
 rx:Row w X [.slice (some ⟨g,0,none⟩) n n,v]
 pr:PR w g ps
 own:w.ownsRow base 171 65 v hs.length (NB hs)
 nx:v.ownBlock≠some X
 ng:v.ownBlock≠some g
 xg:X≠g
 bx:base<=X
 bg:base<=g
def DV.I{w':World}{base X:Nat}{v:Value}{ps:List (List Int)}{hs:List (Int×List Int)}(h:DV w base X g n v ps hs)(hb:Below w.heap.size w w'):DV w' base X g n v ps hs :=⟨h.rx.I hb,h.pr.I hb,LY h.own hb,h.nx,h.ng,h.xg,h.bx,h.bg⟩
def OwnS.hld{a:Option Addr}{hs:List (Int×List Int)}(h:OwnS w a (NB hs))(hl:∀p∈hs,p.2.length=64):Hld w a hs:=by
 rcases h with h|⟨g,rfl,h2⟩
 ·refine .inl (AC ?_)
  have:=BT List.length h;rw[lk hs hl,AR]at this;omega
 exact h2.hld hl
def dy{ws:List (Int×ByteArray)}(h:∀x∈ws,x.2.size=64):∀p∈LP ws,p.2.length=64:=λp hp=>by
 obtain⟨x,hx,rfl⟩:=CE.1 hp;show(LF x.2).length=64;rw[ML,h x hx]
def XQ:List (Int×List Int)->List (List Int)->List (List Int)
 | [],ps=>ps
 | x::r,ps=>XQ r (ps.set x.1.toNat x.2)
def uF(ws:List (Int×ByteArray)):∀(ss:List ByteArray),XQ (LP ws) (ss.map LF)=(NY ws ss).map LF:=by
 induction ws with
 | nil=>intro ss;rfl
 | cons x r ih =>
  intro ss;have:=ih (ss.set x.1.toNat x.2);rw[JZ]at this;exact this
def DV.lay{w':World}{base X:Nat}{v:Value}{ps aA:List (List Int)}{hs:List (Int×List Int)}(h:DV w base X g n v ps hs)(hg:w.grownBy w' (some g))(hp:PR w' g aA):DV w' base X g n v aA hs :=⟨h.rx.z hg (λe=>h.xg (by injection e)),hp,h.own.kept hg (.inr h.ng),h.nx,h.ng,h.xg,h.bx,h.bg⟩
set_option maxRecDepth 100000 in
def tN(base X g n:Nat)(v:Value)(ps:List (List Int))(hs:List (Int×List Int))(w:World)(h:DV w base X g n v ps hs)(hn:ps.length=n)(bF:n<=200)(hl:hs.length<=300)(aU:∀p∈hs,p.2.length=64)(aV:∀p∈hs,0<=p.1/\p.1<(n:Int))(aW:base<=w.heap.size):Calls prog 220 #[.pointer (some ⟨X,0,none⟩)] w λe w'=>(∃x,e=.returned x)/\DV w' base X g n (.slice none 0 0) (XQ hs ps) []/\Below base w w':=by
 obtain⟨aI,aH⟩:∃aI,Hid (aI=XQ hs ps):=⟨_,LE rfl⟩;rw[<-aH.o]
 obtain⟨a2,c2,hv,bP⟩:∃a2 c2,v=.slice a2 hs.length c2/\(hs=[]\/∃g2,a2=some ⟨g2,0,none⟩/\v.ownBlock=some g2):=by
  rcases MM h.own with ⟨e,h0⟩|⟨g2,cap,e,h1,h2,hr⟩
  ·exact⟨none,0,by rw[e,h0],.inl (AC h0)⟩
  exact⟨_,cap,e,.inr ⟨g2,rfl,by rw[e];rfl⟩⟩
 have q1:=h.rx.x 1;rw[hv]at q1;go_enter func220,ntmps220;go_wp2;have HD:=LE h;have aG:=LE aU;have aY:=LE aV;clear h aU aV q1;go_loopw [3,9] (λ_ i wr=>∃(k:Nat) (qs:List (List Int)),k<=hs.length/\i=.int .i64 k/\qs.length=n/\Hid (XQ (hs.drop k) qs=aI)/\DV wr base X g n v qs hs/\Below base w wr) (λ_ i _=>hs.length-(intOf i).toNat)
 case atStart=>exact⟨0,ps,AH _,rfl,hn,by show _=_;rw[DY,aH.o],HD.o,AB _ _⟩
 case round =>
  clear HD;obtain⟨k,qs,hk,rfl,aX,HK,aD,aB⟩:=hrel
  by_cases aP:k<hs.length
  ·obtain⟨b,bE,aC⟩:∃b,a2=some ⟨b,0,none⟩/\Row wr b (NB hs):=by
    rcases MM aD.own with ⟨e,h0⟩|⟨g2,cap,e,h1,h2,hr⟩
    ·omega
    rw[hv]at e
    injection e with e1 e2 e3;exact⟨g2,e1,hr⟩
   subst bE;obtain⟨b',o,m0,x,he,bJ,aR,HX⟩:=(aC.hld aG.o).at (k:=k) aP
   obtain⟨rfl,rfl⟩:b=b'/\o=0:=by cases he;exact⟨rfl,rfl⟩
   clear he aC;rw[BF]at aR;have aJ:Hid ((m0,x)∈hs):=by show _∈_;rw[HX.o];simp[List.getD,aP]
   have aS:x.length=64:=aG.o (m0,x) aJ.o
   obtain⟨m,rfl,hm⟩:∃m:Nat,m0=(m:Int)/\m<n:=by
    have:=aY.o (m0,x) aJ.o;exact⟨m0.toNat,by simp at this;omega,by simp at this;omega⟩
   have aT:(Value.int .i64 (m:Int)::x.map (Value.int .u8)).length=65:=by simp[aS]
   have aE:Hid ((prog.info? 171).map (·.size)=some (Value.int .i64 (m:Int)::x.map (Value.int .u8)).length):=by rw[aT];show _=_;kernel_rfl
   have bC:=LE aT.symm;have bQ:=cn;have aA:=LE aD;clear aT aD
   go_wp2_with (first|(with_reducible refine WL 171 _ rfl ?_;refine AN rfl 171 _ rfl b (k*65) rfl (Value.int .i64 (m:Int)::x.map (Value.int .u8)) _ aR underlying171 rfl aE.o ?_)|(with_reducible refine WL 171 _ rfl ?_;refine AN rfl 171 _ rfl wr.heap.size 0 rfl (Value.int .i64 (m:Int)::x.map (Value.int .u8)) _ aL.range underlying171 rfl aE.o ?_)|(with_reducible refine UX 171 _ _ rfl ?_;refine ZA rfl 171 _ _ rfl (Value.int .i64 (m:Int)::x.map (Value.int .u8)) (bw (m:Int) x) rfl rfl _ _ (by rw[<-bC.o];kernel_rfl) aE.o ?_;intro wx aL aF bI)|(go_at_call 185;refine(qO X g n n (.slice none 0 0) qs m x 64 _ ((aA.o.I aF).rx.x 0) aA.o.xg (aA.o.I aF).pr aX hm bF (AA _) aS (AA _)).i ?_;rintro e w4 ⟨rfl,aK,aO⟩))
   have aN:=LE ((aA.o.I aF).lay aO aK);have aM:=LE ((aB.j (aF.i (AL aW aB.size))).j (NE aO (AL aW (AL aB.size aF.size)) (λk hk=>by cases hk;exact aA.o.bg)))
   have aZ:Hid (XQ (hs.drop (k+1)) (qs.set m (RH 64 x (qs.getD m [])))=aI):=by
    show _=_;rw[yR x _ aS (YL aA.o.pr.len (by omega)),<-HK.o,RT hs k (0,[]) aP,<-HX.o,XQ,DG]
   clear aO aK aF aL aR bI;go_wp2;go_roundw
   case rel=>exact⟨k+1,_,by omega,by go_num,by simp[aX],aZ,aN.o,aM.o⟩
   case measure=>simp[intOf];omega
  have aQ:Hid (qs=aI):=by
   have:=HK.o;rw[CX (by omega)]at this;exact this
  rw[aQ.o]at aD;have aA:=LE aD;have q1:=aD.rx.x 1;have f1:=aD.rx.q 1;clear aD;go_wp2;go_end0;refine⟨⟨_,rfl⟩,⟨aA.o.rx.set 1 (by simp) _,aA.o.pr.other _ aA.o.xg _,BZ _ _ _ _,by simp[Value.ownBlock],by simp[Value.ownBlock],aA.o.xg,aA.o.bx,aA.o.bg⟩,aB.setCell aA.o.bx _⟩
set_option maxRecDepth 100000 in
def Fk(base X g n:Nat)(v:Value)(ss:List ByteArray)(ws:List (Int×ByteArray))(aC:Int)(d:ByteArray)(w:World)(h:DV w base X g n v (ss.map LF) (LP ws))(hn:ss.length=n)(aD:LS ss ws=true)(aB:base<=w.heap.size):Calls prog 184 #[.pointer (some ⟨X,0,none⟩),.agg #[.bool true,.int .i64 aC,.string d]] w λe w'=>(∃x,e=.returned x)/\DV w' base X g n (.slice none 0 0) ((NY ws ss).map LF) []/\Below base w w':=by
 obtain⟨⟨aF,aG,aH⟩,aE,hw⟩:=OZ aD
 have aA:∀o,Below w.heap.size w (w.alloc o):=λo=>LG _ _
 have HS:=LE (λ(o:Obj)=>tN base X g n v (ss.map LF) (LP ws) (w.alloc o) (h.I (aA o)) (by simp[hn]) (by omega) (by rw[PL];omega) (dy (λx hx=>by have:=(ZE (hw x hx)).2;omega)) (λp hp=>by
  obtain⟨x,hx,rfl⟩:=CE.1 hp;have:=(ZE (hw x hx)).1;rw[hn]at this
  exact this) (AL aB (aA o).size))
 go_enter func184,ntmps184;go_wp2_with (go_at_call 220;refine(HS.o _).i ?_;rintro e w1 ⟨⟨x,rfl⟩,hd,hb⟩);go_end0;rw[uF]at hd;exact⟨⟨_,rfl⟩,hd,((aA _).i aB).j hb⟩
set_option maxRecDepth 100000 in
def xc(base X g n:Nat)(v:Value)(ss:List ByteArray)(ws:List (Int×ByteArray))(aA:Int)(d:ByteArray)(w:World)(h:DV w base X g n v (ss.map LF) (LP ws))(hn:ss.length=n)(aF:LS ss ws=true)(hd:d.size<=1048576)(aE:OI ss.length (aA,d)=false\/¬ws.length<300)(aD:base<=w.heap.size):Calls prog 184 #[.pointer (some ⟨X,0,none⟩),.agg #[.bool false,.int .i64 aA,.string d]] w λe w'=>(∃x,e=.returned x)/\DV w' base X g n v (ss.map LF) (LP ws)/\Below base w w':=by
 obtain⟨⟨aK,aL,aM⟩,aH,hw⟩:=OZ aF
 have aC:∀o,Below w.heap.size w (w.alloc o):=λo=>LG _ _
 obtain⟨av,cv,rfl⟩:∃a c,v=.slice a ws.length c:=by
  rw[<-PL];rcases MM h.own with ⟨e,h0⟩|⟨g,c,e,_⟩
  ·exact⟨_,_,by rw[e,h0]⟩
  exact⟨_,_,e⟩
 have x0:=h.rx.x 0;have x1:=h.rx.x 1;have aI:=h.rx.lt;have HD:=LE h;subst hn
 have aB:∀b,OI ss.length (aA,d)=b->∀w',Calls prog 115 #[.int .i64 (ss.length:Int),.int .i64 aA,.string d] w' λe aG=>e=.returned (.bool b)/\aG=w':=λb hb w'=>by
  have:=gj ss.length aA d w' hd (by omega);rw[hb]at this;exact this
 cases hc:OI ss.length (aA,d) with
 | false =>
  go_enter func184,ntmps184;go_wp2_with fail;go_quiet ((go_at_call 115;exact Calls.quiet_of_same (aB false hc _)));go_wp2;go_end0;exact⟨⟨_,rfl⟩,HD.o.I (below_drewN (aC _) _),(below_drewN (aC _) _).i aD⟩
 | true =>
  have aJ:(decide ((ws.length:Int)<300))=false:=by
   rcases aE with h1|h1
   ·rw[hc]at h1;cases h1
   exact AI (by omega)
  go_enter func184,ntmps184;go_wp2_with fail;go_quiet ((go_at_call 115;exact Calls.quiet_of_same (aB true hc _)));go_wp2;go_end0;exact⟨⟨_,rfl⟩,HD.o.I (below_drewN (aC _) _),(below_drewN (aC _) _).i aD⟩
section
def QF(zs:List Int):Nat->List (Int×List Int)->List (List Int)->List (List Int)
 | _,[],ps=>ps
 | i,x::r,ps=>QF zs (i+1) r (ps.set x.1.toNat (RH (yAP zs i) x.2 (ps.getD x.1.toNat [])))
def ZG(zs:List Int):∀(hs:List (Int×List Int)) (i:Nat) (ps:List (List Int)),(QF zs i hs ps).length=ps.length
 | [],_,_=>rfl
 | x::r,i,ps=>by rw[QF,ZG zs r];simp
structure PLs(W w:World)(R X g:Nat)(xs:List Value)(a2:Option Addr)(hs:List (Int×List Int))(ps:List (List Int)):Prop where
 bel:Below W.heap.size W w
 rr:Row w R [.slice none 0 0,.slice none 0 0]
 rx:Row w X xs
 pr:PR w g ps
 own:OwnS w a2 (NB hs)
section
variable {W w w':World} {R X g:Nat} {xs:List Value} {a2:Option Addr} {hs:List (Int×List Int)} {ps ps':List (List Int)}
def PLs.I(h:PLs W w R X g xs a2 hs ps)(hb:Below w.heap.size w w'):PLs W w' R X g xs a2 hs ps :=⟨h.bel.j (hb.i h.bel.size),h.rr.I hb,h.rx.I hb,h.pr.I hb,h.own.I hb⟩
def PLs.drew(h:PLs W w R X g xs a2 hs ps):PLs W w.drew R X g xs a2 hs ps:=h.I ((AB _ _).drew)
def PLs.z(h:PLs W w R X g xs a2 hs ps)(hg:w.grownBy w' (some g))(hp:PR w' g ps')(h1:W.heap.size<=g)(h2:R≠g)(h3:X≠g)(h4:∀b,a2=some ⟨b,0,none⟩->NB hs≠[]->b≠g):PLs W w' R X g xs a2 hs ps' :=⟨h.bel.j (NE hg h.bel.size (λk hk=>by cases hk;exact h1)),h.rr.z hg (λe=>h2 (by injection e)),h.rx.z hg (λe=>h3 (by injection e)),hp,h.own.z hg (λb hb aA e=>h4 b hb aA (by injection e))⟩
end
set_option maxRecDepth 100000 in
def rL(a:Option Addr)(ss:List ByteArray)(c:Nat)(a':Option Addr)(ws:List (Int×ByteArray))(c':Nat)(f:Option Addr)(zs:List Int)(cf:Nat)(w:World)(h:Strs w a ss)(h':Wrs w a' ws)(hz:Ints w f zs)(dN:zs.length<=1048576)(cO:LS ss ws=true):Calls prog 140 #[LN a ss.length c a' ws.length c',.slice f zs.length cf] w λe w'=>∃a1 c1 aN aV,e=.returned (LN a1 ss.length c1 aN 0 aV)/\OwnD w' a1 (NK (QF zs 0 (LP ws) (ss.map LF))) aN []/\(∀g,blk a1 ss.length=some g->w.heap.size<=g)/\Below w.heap.size w w':=by
 obtain⟨⟨eI,bQ,dP⟩,cE,hw⟩:=OZ cO
 have bC:∀o1 o2,Below w.heap.size w ((w.alloc o1).alloc o2):=λo1 o2=>(LG _ _).alloc (by simp) _
 obtain⟨aB,aJ⟩:∃aB,Hid (aB=QF zs 0 (LP ws) (ss.map LF)):=⟨_,LE rfl⟩;rw[<-aJ.o];go_enter func140,ntmps140;go_wp2_with fail;refine(UI a ss c a' ws c' _ (h.I (bC _ _)) (h'.I (bC _ _)) (by omega) (by omega) (λs hs=>by have:=cE s hs;omega) (λx hx=>by have:=AZ (hw x hx);omega)).i ?_;rw[cO];rintro e w1 ⟨rfl,aW⟩;have cF:=(bC _ _).j (aW.i (by simp;omega));obtain⟨q1,q2⟩:=ZS aW;have rR:=(NT (w.alloc (.cells #[.slice a ss.length c,.slice a' ws.length c'] 44)) #[.slice none 0 0,.slice none 0 0] 44 (w.heap.size+1) (by simp)).I aW;have aY:=LE rR;have aU:=LE cF;clear rR aW cF;go_wp2_with fail;refine(aw a ss c a' ws c' _ (h.I aU.o) (h'.I aU.o) bQ dP (λs hs=>by have:=cE s hs;omega) (λx hx=>by have:=AZ (hw x hx);omega)).i ?_;rintro e w2 ⟨g,v,rfl,cP,aQ,hg,bE⟩;clear q1 q2;have aL:=LE (aY.o.I bE);have aD:Hid (w.heap.size+1+1<=g):=by have:=aY.o.lt;show _<=_;omega
 have b7:=LE (Below.then aU.o (AA _) bE)
 obtain⟨a2,c2,hv,cM,cL⟩:∃a2 c2,v=.slice a2 ws.length c2/\OwnS w2 a2 (NB (LP ws))/\∀g2,a2=some ⟨g2,0,none⟩->ws≠[]->g2≠g/\g2<w2.heap.size:=by
  rcases MM aQ with ⟨e,h0⟩|⟨g2,cap,e,h1,h2,hr⟩
  ·have:ws=[]:=AC h0
   subst this;exact⟨none,0,e,.inl rfl,λ_ _ hh=>absurd rfl hh⟩
  exact⟨_,cap,e,.inr ⟨g2,rfl,hr⟩,λg' dH _=>by cases dH;exact⟨by omega,h2⟩⟩
 subst hv;have aX:=LE cP;have cB:=LE cM;clear cP aQ cM bE aU aY;go_wp2
 have aT:∀x∈ws,x.2.size=64:=λx hx=>by have:=AZ (hw x hx);omega
 have aI:=LE (dy aT)
 have bT:∀b,a2=some ⟨b,0,none⟩->NB (LP ws)≠[]->b≠g:=λb hb hc=>(cL b hb (λe=>hc (by rw[e];rfl))).1
 have eF:g<w2.heap.size:=aX.o.lt;have cZ:w.heap.size+1≠g:=by have:=aD.o;omega
 have dZ:w.heap.size<=g:=by have:=aD.o;omega
 have aA:PLs w (w2.alloc (.cells #[.slice (some ⟨g,0,none⟩) ss.length ss.length,.slice a2 ws.length c2] 136)) (w.heap.size+1) w2.heap.size g [.slice (some ⟨g,0,none⟩) ss.length ss.length,.slice a2 ws.length c2] a2 (LP ws) (ss.map LF) :=⟨Below.then b7.o (AA _) (MB _ _),aL.o.alloc _,ME _ _ _,aX.o.I (MB _ _),cB.o.I (MB _ _)⟩
 have cC:=LE aA;have HW:=LE hw;clear aA aX cB b7 aL cL hw aT;go_loopw [6,7,17] (λ_ _ i wr=>∃(k:Nat) (ps:List (List Int)),k<=ws.length/\i=.int .i64 k/\ps.length=ss.length/\Hid (QF zs k ((LP ws).drop k) ps=aB)/\PLs w wr (w.heap.size+1) w2.heap.size g [.slice (some ⟨g,0,none⟩) ss.length ss.length,.slice a2 ws.length c2] a2 (LP ws) ps) (λ_ _ i _=>ws.length-(intOf i).toNat)
 case atStart=>exact⟨0,_,AH _,rfl,by simp,by show _=_;rw[DY,aJ.o],cC.o⟩
 case round =>
  clear cC;obtain⟨k,ps,hk,rfl,bU,HK,aA⟩:=hrel;have cS:aB.length=ss.length:=by rw[<-HK.o,ZG,bU]
  by_cases bP:k<ws.length
  ·obtain⟨b,o,m0,x,rfl,eH,cQ,HX⟩:=(aA.own.hld aI.o).at (k:=k) (by rw[PL];exact bP)
   have aP:Hid ((m0,x)∈LP ws):=by show _∈_;rw[HX.o];simp[List.getD,PL,bP]
   have cU:x.length=64:=aI.o (m0,x) aP.o
   obtain⟨m,rfl,hm⟩:∃m:Nat,m0=(m:Int)/\m<ss.length:=by
    obtain⟨y,hy,e⟩:=CE.1 aP.o;have eJ:=AZ (HW.o y hy);have e1:y.1=m0:=by rw[EA]at e;exact e.1
    exact⟨m0.toNat,by omega,by omega⟩
   have bW:(Value.int .i64 (m:Int)::x.map (Value.int .u8)).length=65:=by simp[cU]
   have aC:Hid ((prog.info? 171).map (·.size)=some (Value.int .i64 (m:Int)::x.map (Value.int .u8)).length):=by rw[bW];show _=_;kernel_rfl
   have cY:=LE bW.symm;have eK:=cn;have aH:=LE aA;clear bW aA
   go_wp2_with (first|(with_reducible refine WL 171 _ rfl ?_;refine AN rfl 171 _ rfl b (o+k*65) rfl (Value.int .i64 (m:Int)::x.map (Value.int .u8)) _ cQ underlying171 rfl aC.o ?_)|(with_reducible refine UX 171 _ _ rfl ?_;refine ZA rfl 171 _ _ rfl (Value.int .i64 (m:Int)::x.map (Value.int .u8)) (bw (m:Int) x) rfl rfl _ _ (by rw[<-cY.o];kernel_rfl) aC.o ?_;intro wx aF cH dV))
   have aM:=LE (aH.o.I cH);have dR:=aF.range;have aK:=LE aF;have dM:wr.heap.size≠g:=by have:=aH.o.pr.lt;omega
   have cI:=rf zs k;obtain⟨F,HF⟩:∃F,Hid (F=yAP zs k):=⟨_,LE rfl⟩;rw[<-HF.o]at cI;have eB:=LE (((hz.I aM.o.bel)));clear aF cQ cH dV dR;refine AP (S:=λw'=>w'.rangeAt wr.heap.size 0 (Value.int .i64 (m:Int)::x.map (Value.int .u8))) (by kernel_rfl) aK.o.drew.range (λaO=>?_);refine TK 0 (.agg (Value.int .i64 (m:Int)::x.map (Value.int .u8)).toArray) rfl (yieldsIf_load_mid (by rfl) _ _ rfl wr.heap.size 0 rfl (Value.int .i64 (m:Int)::x.map (Value.int .u8)) _ (λw hw=>hw) underlying171 rfl aC.o) aO ?_;simp only[Act.put,BM];refine TK 1 (.slice f zs.length cf) rfl (BN ⟨by rfl,λw hw=>by go_simp⟩) aO ?_;simp only[Act.put];refine TK 2 (.int .i64 (k:Int)) rfl (BN ⟨by rfl,λw hw=>by go_simp⟩) aO ?_;simp only[Act.put];refine RD 3 rfl (λK hK=>?_);refine LK (by rfl) _ _ (by go_simp) (Ge f zs cf k _ (hz.I aM.o.drew.bel) dN (by omega)) ?_
   rw[<-HF.o];rintro e w3 ⟨rfl,rfl⟩;refine⟨_,rfl,?_⟩;refine hK.o _ _ aO (λ_=>?_);clear hK K;simp only[Act.put];refine RD 4 rfl (λK hK=>?_);refine LK (by rfl) _ _ (by go_simp) (qO w2.heap.size g ss.length ss.length (.slice none 0 0) ps m x F _ (aM.o.drew.rx.x 0) (by omega) aM.o.drew.pr bU hm bQ (AA _) cU cI) ?_;rintro e w4 ⟨rfl,aR,bJ⟩;refine⟨_,rfl,?_⟩;refine hK.o _ _ (aK.o.drew.z bJ (λe=>dM (by injection e))).range (λ_=>?_);clear hK K;simp only[Act.put];refine DN ?_;have aS:=aM.o.drew.z bJ aR dZ cZ (by omega) bT;have aZ:=LE aS
   have cW:Hid (QF zs (k+1) ((LP ws).drop (k+1)) (ps.set m (RH F x (ps.getD m [])))=aB):=by
    show _=_;rw[<-HK.o,RT (LP ws) k (0,[]) (by rw[PL];exact bP),<-HX.o,QF,DG,HF.o]
   clear aS aR bJ aO;go_wp2;go_roundw
   case rel=>exact⟨k+1,_,by omega,by go_num,by simp[bU],cW,aZ.o⟩
   case measure=>simp[intOf];omega
  have bV:Hid (ps=aB):=by
   have:=HK.o;rw[CX (by rw[PL];omega)]at this;exact this
  rw[bV.o]at aA;have aH:=LE aA;have q0:=aA.rx.x 0;have q1:=aA.rx.x 1;have f1:=aA.rx.q 1;clear aA;go_wp2_with fail;have dB:w2.heap.size≠g:=by omega
  have eG:w.heap.size+1<w2.heap.size:=by have:=aD.o;omega
  have aE:=aH.o.pr.other ⟨w2.heap.size,1,none⟩ dB (.slice none 0 0);have aG:=aH.o.rr.other ⟨w2.heap.size,1,none⟩ (by show w2.heap.size≠w.heap.size+1;omega) (.slice none 0 0);have bI:=aH.o.bel.setCell (p:=⟨w2.heap.size,1,none⟩) (by show w.heap.size<=w2.heap.size;omega) (.slice none 0 0);refine(ny (some ⟨g,0,none⟩) aB ss.length ss.length none [] 0 0 cS rfl _ aE.plt (.inl rfl) bQ (by omega) aE.len (λp hp=>by simp at hp)).i ?_;rintro e w5 ⟨a1,c1,aN,aV,rfl,cN,cJ,dL,bF⟩;have rR:=aG.I bF;have r0:=rR.x 0;have r1:=rR.x 1;obtain⟨eC,eE⟩:=rR.z2;have cV:=LE (Below.then bI (AA _) bF);have dF:=bI.size;have cX:=LE cN
  have cA:Hid (∀g,blk a1 ss.length=some g->w.heap.size+1<g):=λg hg=>by
   have h1:=cJ g hg;have h2:=aG.lt;omega
  clear cN cJ dL bF rR aE aG bI q0 q1 f1 dF;go_wp2;have dU:(NK aB).length=ss.length:=by simp[NK,cS]
  refine AJ (v:=LN a1 ss.length c1 aN 0 aV) (by simp[results,results140,go_sem,r0,r1]) rfl ⟨a1,c1,aN,aV,rfl,⟨?_,.inl rfl,.inr (.inl rfl)⟩,λg hg=>by have:=cA.o g hg;omega,?_⟩
  ·have cT:∀(wz:World) (u:Value) (i:Nat),OwnS wz a1 ((NK aB).map Value.string)->OwnS (wz.setCell ⟨w.heap.size+1,i,none⟩ u) a1 ((NK aB).map Value.string):=λwz u i ho=>by
    rcases ho with ho|⟨g3,e3,dQ⟩
    ·exact .inl ho
    refine .inr ⟨g3,e3,dQ.other _ (λe=>?_) _⟩
    have:=cA.o g3 (by rw[e3];exact MI g3 0 _ (by omega));have e':w.heap.size+1=g3:=e;omega
   exact cT _ _ _ (cT _ _ _ cX.o.s)
  exact(cV.o.setCell (by show w.heap.size<=w.heap.size+1;omega) _).setCell (by show w.heap.size<=w.heap.size+1;omega) _
end
section
def uc(p:ByteArray)(i j:Nat)(h:i<=j):LF (p.extract i j)=((LF p).take j).drop i:=by
 unfold LF;rw[GW,JS];simp[KR,ID,List.take_drop,Nat.add_sub_cancel' h]
def uL(F:Nat)(d t:ByteArray)(hF:F<=64)(hd:d.size=64)(ht:t.size=64):LF (d.extract 0 F++t.extract F 64)=RH F (LF d) (LF t):=by
 rw[su,uc _ _ _ (AH _),uc _ _ _ hF,RH,DY];rw[AT (l:=LF t) (by rw[ML];omega)]
def vE(F:Nat)(d t:ByteArray)(hF:F<=64)(hd:d.size=64)(ht:t.size=64):(d.extract 0 F++t.extract F 64).size=64:=by
 rw[DI,AW,AW];omega
structure PTs(W w:World)(R X g g' n n' c1 c1':Nat)(ws:List (Int×ByteArray))(ts:List ByteArray):Prop where
 bel:Below W.heap.size W w
 rr:Row w R [.slice none 0 0,.slice none 0 0]
 rx:Row w X [.slice (some ⟨g,0,none⟩) n c1,.slice (some ⟨g',0,none⟩) n' c1']
 rs:Row w g (ts.map Value.string)
 own:OwnS w (some ⟨g',0,none⟩) (LU ws)
section
variable {W w w':World} {R X g g' n n' c1 c1':Nat} {ws:List (Int×ByteArray)} {ts:List ByteArray}
def PTs.I(h:PTs W w R X g g' n n' c1 c1' ws ts)(hb:Below w.heap.size w w'):PTs W w' R X g g' n n' c1 c1' ws ts :=⟨h.bel.j (hb.i h.bel.size),h.rr.I hb,h.rx.I hb,h.rs.I hb,h.own.I hb⟩
def PTs.drew(h:PTs W w R X g g' n n' c1 c1' ws ts):PTs W w.drew R X g g' n n' c1 c1' ws ts:=h.I ((AB _ _).drew)
def PTs.set(h:PTs W w R X g g' n n' c1 c1' ws ts)(m:Nat)(hm:m<ts.length)(s:ByteArray)(h1:W.heap.size<=g)(h2:R≠g)(h3:X≠g)(h4:LU ws≠[]->g'≠g):PTs W (w.setCell ⟨g,m,none⟩ (.string s)) R X g g' n n' c1 c1' ws (ts.set m s):=by
 refine⟨h.bel.setCell h1 _,h.rr.other _ (λe=>h2 e.symm) _,h.rx.other _ (λe=>h3 e.symm) _,?_,?_⟩
 ·rw[JZ];exact h.rs.set m (by simpa using hm) _
 rcases h.own with ho|⟨b,e,hr⟩
 ·exact .inl ho
 injection e with e;injection e with e
 by_cases hc:LU ws=[]
 ·exact .inl hc
 exact .inr ⟨g',rfl,(e ▸ hr).other _ (λe2=>h4 hc e2.symm) _⟩
end
set_option maxRecDepth 100000 in
def vP(a:Option Addr)(ss:List ByteArray)(c:Nat)(a':Option Addr)(ws:List (Int×ByteArray))(c':Nat)(f:Option Addr)(zs:List Int)(cf:Nat)(w:World)(h:Strs w a ss)(h':Wrs w a' ws)(hz:Ints w f zs)(eL:zs.length<=1048576)(cN:LS ss ws=true):Calls prog 106 #[LN a ss.length c a' ws.length c',.slice f zs.length cf] w λe w'=>∃a1 c1 cB c1',e=.returned (LN a1 ss.length c1 cB 0 c1')/\OwnD w' a1 (NK (QF zs 0 (LP ws) (ss.map LF))) cB []/\(∀g,blk a1 ss.length=some g->w.heap.size<=g)/\Below w.heap.size w w':=by
 obtain⟨⟨eM,dR,dU⟩,bE,hw⟩:=OZ cN
 have bI:∀o1 o2,Below w.heap.size w ((w.alloc o1).alloc o2):=λo1 o2=>(LG _ _).alloc (by simp) _
 obtain⟨aI,aG⟩:∃aI,Hid (aI=QF zs 0 (LP ws) (ss.map LF)):=⟨_,LE rfl⟩;rw[<-aG.o];go_enter func106,ntmps106;go_wp2_with fail;refine(UT a ss c a' ws c' _ (h.I (bI _ _)) (h'.I (bI _ _)) (by omega) (by omega) (λs hs=>by have:=bE s hs;omega) (λx hx=>by have:=AZ (hw x hx);omega)).i ?_;rw[cN];rintro e w1 ⟨rfl,aT⟩;have cC:=(bI _ _).j (aT.i (by simp;omega));obtain⟨q1,q2⟩:=ZS aT;have rR:=(NT (w.alloc (.cells #[.slice a ss.length c,.slice a' ws.length c'] 44)) #[.slice none 0 0,.slice none 0 0] 44 (w.heap.size+1) (by simp)).I aT;have aX:=LE rR;have aF:=LE cC;clear rR aT cC;go_wp2_with fail;refine(gk a ss c a' ws c' _ (h.I aF.o) (h'.I aF.o) dR dU).i ?_;rintro e w2 ⟨g,c1,g',c1',rfl,aW,hg,dM,aU⟩;clear q1 q2;go_wp2;have aC:ss.length≠0:=by omega
 have cL:w1.heap.size<=g:=hg g (by unfold blk;rw[AE aC];rfl);have cZ:=aX.o.lt
 have bQ:Row w2 g (ss.map Value.string):=by
  rcases aW.s with e|⟨b,e,hr⟩
  ·exact absurd (BT List.length e) (by rw[BJ,AR];omega)
  cases e;exact hr
 have eI:=bQ.lt
 have cM:LU ws≠[]->g'≠g:=λhc=>by
  have hl:ws.length≠0:=λe=>hc (by rw[AC e];rfl)
  rcases aW.ne with e|e|e
  ·unfold blk at e;rw[AE aC]at e;exact absurd e (by simp)
  ·unfold blk at e;rw[AE hl]at e;exact absurd e (by simp)
  unfold blk at e;rw[AE aC,AE hl]at e;exactλe2=>e (by rw[e2])
 have aA:PTs w (w2.alloc (.cells #[.slice (some ⟨g,0,none⟩) ss.length c1,.slice (some ⟨g',0,none⟩) ws.length c1'] 44)) (w.heap.size+1) w2.heap.size g g' ss.length ws.length c1 c1' ws ss :=⟨Below.then (Below.then aF.o (AA _) aU) (AA _) (MB _ _),(aX.o.I aU).alloc _,ME _ _ _,bQ.alloc _,aW.p.I (MB _ _)⟩
 have bW:=LE aA;have HW:=LE hw;have cP:=LE bE;have cU:=LE cM;have cO:w.heap.size<=g:=AL aF.o.size cL;have bF:w.heap.size+1≠g:=by omega
 have cF:w2.heap.size≠g:=by omega
 have eE:w.heap.size+1<w2.heap.size:=by have:=aU.size;omega
 clear aA aW hg dM aU bQ cM hw bE aX aF cL cZ;go_loopw [6,7,8] (λi _ _ wr=>∃(k:Nat) (ts:List ByteArray),k<=ws.length/\i=.int .i64 k/\ts.length=ss.length/\Hid (∀s∈ts,s.size=64)/\Hid (QF zs k ((LP ws).drop k) (ts.map LF)=aI)/\PTs w wr (w.heap.size+1) w2.heap.size g g' ss.length ws.length c1 c1' ws ts) (λi _ _ _=>ws.length-(intOf i).toNat)
 case atStart=>exact⟨0,ss,AH _,rfl,rfl,LE (λs hs=>by have:=cP.o s hs;omega),by show _=_;rw[DY,aG.o],bW.o⟩
 case round =>
  clear bW;obtain⟨k,ts,hk,rfl,aE,aH,HK,aA⟩:=hrel
  by_cases aV:k<ws.length
  ·obtain⟨b,o,m0,d,he,cH,cI,HX⟩:=aA.own.wrs.at aV
   obtain⟨rfl,rfl⟩:g'=b/\o=0:=by cases he;exact⟨rfl,rfl⟩
   rw[BF]at cH cI;clear he;have aO:(m0,d)∈ws:=by rw[HX.o];simp[List.getD,aV]
   have aR:=AZ (HW.o (m0,d) aO);obtain⟨m,rfl,hm⟩:∃m:Nat,m0=(m:Int)/\m<ss.length:=⟨m0.toNat,by have:=aR.1;omega,by have:=aR.2.1;have:=aR.1;simp at *;omega⟩;have aL:d.size=64:=by have:=aR.2.2;simp at this;omega
   have cJ:=aA.rs.cell m (.string (ts.getD m ByteArray.empty)) (by simp[List.getD,aE,hm]);have aD:(ts.getD m ByteArray.empty).size=64:=aH.o _ (by simp[List.getD,aE,hm]);have dH:=aA.rs.froz m (by simp[aE,hm]);obtain⟨t,aZ⟩:∃t,Hid (t=ts.getD m ByteArray.empty):=⟨_,LE rfl⟩;rw[<-aZ.o]at cJ aD;have x0:=aA.rx.x 0;have x1:=aA.rx.x 1;have dQ:=aA.rx.lt;have eK:=aA.rs.lt;have aM:=rf zs k;have aS:=LE aA;have HZ:=LE (hz.I aA.bel);clear aA aO aR;obtain⟨F,hF⟩:∃F:Nat,F=yAP zs k:=⟨_,rfl⟩;have cY:F<=64:=by rw[hF];exact rf zs k
   obtain⟨zv,bV⟩:∃zv:Int,zv=if k<zs.length then zs.getD k 0 else 0:=⟨_,rfl⟩;obtain⟨z1,bT⟩:∃z1:Int,z1=if zv<0 then 0 else zv:=⟨_,rfl⟩
   have cE:(F:Int)=if 64<z1 then 64 else z1:=by
    rw[hF,bT,bV];unfold yAP
    by_cases h1:k<zs.length
    ·rw[AK h1,AK h1]
     by_cases h2:zs.getD k 0<0
     ·rw[AK h2,AK h2];rfl
     rw[AE h2,AE h2]
     by_cases h3:64<zs.getD k 0
     ·rw[AK h3,AK h3];rfl
     rw[AE h3,AE h3];omega
    rw[AE h1,AE h1];rfl
   have HF:=LE hF.symm;have cA:=LE bV;have cW:=LE bT;have cS:=LE cE;clear hF bV bT cE aM;go_upto_if 25 with fail;go_cut [7] from 22 to 29 (λkv wx=>kv=.int .i64 zv/\wr=wx)
   case first =>
    by_cases bU:k<zs.length
    ·have e:=cA.o
     rw[AK bU]at e;obtain⟨bz,oz,z,rfl,eF,eG,cX⟩:=HZ.o.at bU;obtain rfl:zv=z:=by rw[e];exact cX.o.symm
     clear e;have dV:(k:Int)<(zs.length:Int):=by omega
     have eN:¬((zs.length:Int)<=(k:Int)):=by omega
     go_wp2_with fail;go_meet;exact⟨rfl,rfl⟩
    have e:=cA.o
    rw[AE bU]at e;subst e;have dV:¬((k:Int)<(zs.length:Int)):=by omega
    go_wp2_with fail;go_meet;exact⟨rfl,rfl⟩
   case rest =>
   obtain⟨rfl,rfl⟩:=hcut;go_upto_if 31 with fail;go_cut [7] from 30 to 31 (λkv wx=>kv=.int .i64 z1/\wr=wx)
   case first =>
    have e:=cW.o
    by_cases aP:zv<0
    ·rw[AK aP]at e
     subst e;go_wp2_with fail;go_meet;exact⟨rfl,rfl⟩
    rw[AE aP]at e
    subst e;go_wp2_with fail;go_meet;exact⟨rfl,rfl⟩
   case rest =>
   obtain⟨rfl,rfl⟩:=hcut;go_upto_if 33 with fail;go_cut [7] from 32 to 33 (λkv wx=>kv=.int .i64 (F:Int)/\wr=wx)
   case first =>
    have e:=cS.o
    by_cases aJ:64<z1
    ·rw[AK aJ]at e
     obtain rfl:F=64:=by omega
     go_wp2_with fail;go_meet;exact⟨rfl,rfl⟩
    rw[AE aJ]at e
    subst e;go_wp2_with fail;go_meet;exact⟨rfl,rfl⟩
   case rest =>
   obtain⟨rfl,rfl⟩:=hcut;go_wp2_with fail;have hq:=aS.o.I (MB wr (.cells #[.int .i64 (m:Int),.string d] 158));have hy:=Cx.new wr (.int .i64 (m:Int)) (.string d) 158;obtain⟨wq,bC⟩:∃wq,wq=wr.alloc (.cells #[.int .i64 (m:Int),.string d] 158):=⟨_,rfl⟩;rw[<-bC]at hq hy⊢;have eJ:wr.heap.size<wq.heap.size:=by rw[bC];simp
   have eH:g≠wr.heap.size:=by omega
   have aK:=hq.rs.cell m (.string t) (by rw[aZ.o];simp[List.getD,aE,hm]);have aN:=hq.rs.froz m (by simp[aE,hm]);have HQ:=LE hq;have HY:=LE hy;have b7:=LE aK;have cQ:=LE aN;clear hq hy aK aN cJ dH x0 x1 cH cI bC;refine AP (S:=λw'=>w'.cell? ⟨w2.heap.size,0,none⟩=some (.slice (some ⟨g,0,none⟩) ss.length c1)/\w'.cell? ⟨wr.heap.size,0,none⟩=some (.int .i64 (m:Int))/\w'.cell? ⟨wr.heap.size,1,none⟩=some (.string d)) (by kernel_rfl) ⟨HQ.o.rx.x 0,HY.o.c0,HY.o.c1⟩ (λaB=>?_);refine TZ 0 (.pointer (some ⟨w2.heap.size,0,none⟩)) rfl aB (TZ 1 (.slice (some ⟨g,0,none⟩) ss.length c1) rfl aB (TZ 2 (.pointer (some ⟨wr.heap.size,0,none⟩)) rfl aB (TZ 3 (.int .i64 (m:Int)) rfl aB (TZ 4 (.pointer (some ⟨wr.heap.size,1,none⟩)) rfl aB (TZ 5 (.string d) rfl aB (TZ 6 (.int .i64 (F:Int)) rfl aB (TZ 7 (.string (d.extract 0 F)) rfl aB (TZ 8 (.pointer (some ⟨w2.heap.size,0,none⟩)) rfl aB (TZ 9 (.slice (some ⟨g,0,none⟩) ss.length c1) rfl aB (TZ 10 (.pointer (some ⟨wr.heap.size,0,none⟩)) rfl aB (TZ 11 (.int .i64 (m:Int)) rfl aB ?_)))))))))))
   simp only[PS];refine TZ 12 (.pointer (some ⟨g,m,none⟩)) rfl aB (TZ 14 (.int .i64 (F:Int)) rfl aB ?_);simp only[PS];refine RD 13 rfl (λK hK=>?_);have bJ:=b7.o;go_simp;clear bJ;refine hK.o _ _ aB (λ_=>?_);clear hK K;refine TZ 15 (.string (t.extract F t.size)) rfl aB (TZ 16 (.string (d.extract 0 F++t.extract F t.size)) rfl aB (TZ 17 (.pointer (some ⟨g,m,none⟩)) rfl aB ?_));simp only[PS];refine RD 18 rfl (λK hK=>?_);have bJ:=b7.o;have dF:=cQ.o;go_simp;clear bJ dF;refine hK.o _ _ ⟨(DE _ _ _ _ (by show g≠w2.heap.size;omega)).j aB.1,(DE _ _ _ _ (by show g≠wr.heap.size;omega)).j aB.2.1,(DE _ _ _ _ (by show g≠wr.heap.size;omega)).j aB.2.2⟩ (λ_=>?_);clear hK K;refine DN ?_;have hV:d.extract 0 F++t.extract F 64=d.extract 0 F++t.extract F 64:=by rfl
   have aQ:=HQ.o.drew.set m (by omega) (d.extract 0 F++t.extract F 64) cO bF cF cU.o;have aY:=LE aQ
   have cT:Hid (QF zs (k+1) ((LP ws).drop (k+1)) ((ts.set m (d.extract 0 F++t.extract F 64)).map LF)=aI):=by
    show _=_;rw[hV];have dL:yAP zs k=F:=HF.o
    have dB:(LP ws).drop k=((m:Int),LF d)::(LP ws).drop (k+1):=by
     rw[RT (LP ws) k (0,[]) (by rw[PL];exact aV)]
     have dN:(LP ws).getD k (0,[])=((m:Int),LF d):=by
      have e:=HX.o;simp[LP,List.getD,aV]at e⊢;rw[<-e];exact⟨rfl,rfl⟩
     rw[dN]
    rw[<-HK.o,dB,QF,DG,dL,JZ,uL F d t (by omega) aL aD]
    congr 2
    rw[aZ.o];simp[List.getD,aE,hm]
   have cV:Hid (∀s∈ts.set m (d.extract 0 F++t.extract F 64),s.size=64):=λs hs=>by
    rw[hV]at hs;rcases EI hs with h1|h1
    ·exact aH.o s h1
    rw[h1];exact vE F d t (by omega) aL aD
   clear aQ aB hV;go_wp2;go_roundw
   case rel=>exact⟨k+1,_,by omega,by go_num,by simp[aE],cV,cT,aY.o⟩
   case measure=>simp[intOf];omega
  have bP:Hid (ts=NK aI):=by
   have:=HK.o;rw[CX (by rw[PL];omega)]at this;show _=_;rw[<-this];show ts=(ts.map LF).map strOfNums;rw[IT];exact(KS (λs=>SJ s) ts).symm
  rw[bP.o]at aA;have aS:=LE aA;have q0:=aA.rx.x 0;have q1:=aA.rx.x 1;have f1:=aA.rx.q 1;have r0:=aA.rr.x 0;have r1:=aA.rr.x 1;obtain⟨eB,eC⟩:=aA.rr.z2;have dQ:=aA.rx.lt;have dP:=aA.rr.lt;have n1:w2.heap.size≠w.heap.size+1:=by omega
  clear aA;go_wp2;have dZ:wr.heap.size≠w.heap.size+1:=by omega
  refine AJ (v:=LN (some ⟨g,0,none⟩) ss.length c1 (some ⟨wr.heap.size,0,none⟩) 0 0) (by simp[results,results106,go_sem,r0,r1,n1,dZ,dP]) rfl ⟨_,_,_,_,rfl,⟨.inr ⟨g,rfl,?_⟩,.inl rfl,.inr (.inl rfl)⟩,λk hk=>?_,?_⟩
  ·exact((((aS.o.rs.other _ (by show w2.heap.size≠g;exact cF) _).other _ (by show w.heap.size+1≠g;exact bF) _).other _ (by show w.heap.size+1≠g;exact bF) _)).alloc _
  ·unfold blk at hk
   rw[AE aC]at hk
   cases hk
   exact cO
  exact(((aS.o.bel.setCell (by show w.heap.size<=w2.heap.size;omega) _).setCell (by show w.heap.size<=w.heap.size+1;omega) _).setCell (by show w.heap.size<=w.heap.size+1;omega) _).alloc (by simp;omega) _
end
def Dm:(prog.info? 3).map (λi=>(i.zero,i.size,i.bytes))=some (some (.int .i64 0),1,8):=by kernel_rfl
def UQ(zs:List Int):List Value:=zs.map (Value.int .i64)
def TX(zs:List Int)(k:Nat):List Value:=UQ (zs.take k)++List.replicate (zs.length-k) (.int .i64 0)
def Ee(zs:List Int)(k:Nat)(h:k<=zs.length):(TX zs k).length=zs.length:=by simp[TX,UQ];omega
def Es(zs:List Int)(k:Nat)(h:zs.length<=k):TX zs k=UQ zs:=by
 unfold TX;rw[AT h,show zs.length-k=0 by omega];simp
def xT(zs:List Int)(k:Nat)(h:k<zs.length):(TX zs k).set k (.int .i64 (zs.getD k 0))=TX zs (k+1):=by
 apply List.ext_getElem?
 intro i;unfold TX UQ;rw[List.getElem?_set]
 by_cases hi:k=i
 ·subst hi
  have aA:k<(List.map (Value.int .i64) (zs.take k)++List.replicate (zs.length-k) (Value.int .i64 0)).length:=by simp;omega
  rw[AK rfl,AK aA,AX (by simp;omega)];simp[List.getD,h]
 rw[AE hi]
 by_cases h1:i<k
 ·rw[AX (by simp;omega),AX (by simp;omega)]
  simp[h1,show i<k+1 by omega]
 rw[CJ (by simp;omega),CJ (by simp;omega)]
 simp[FV]
 by_cases h2:i<zs.length
 ·rw[AK (by omega),AK (by omega)]
 rw[AE (by omega),AE (by omega)]
def xP(n:Nat):(madeCells (Value.int .i64 0).cells (n*1)).toList=List.replicate n (.int .i64 0):=by
 unfold madeCells;rw[IP,FZ,FT];rw[JM];refine⟨by simp,λb hb=>?_⟩;obtain⟨i,_,rfl⟩:=CE.1 hb;have:i % (Value.int .i64 0).cells.size=0:=by simp[Value.cells,Nat.mod_one]
 rw[this];rfl
def Row.ints{zs:List Int}(h:Row w g (UQ zs)):Ints w (some ⟨g,0,none⟩) zs :=.inr ⟨g,0,rfl,h.lt,λi hi=>by rw[BF];exact h.cell i _ (by simp[UQ,List.getD,hi])⟩
def vS(a:Option Addr)(zs:List Int)(c:Nat)(w:World)(h:Ints w a zs)(hl:zs.length<=1048576):Calls prog 29 #[.slice a zs.length c] w λe w'=>∃g,e=.returned (.slice (some ⟨g,0,none⟩) zs.length zs.length)/\w.heap.size<=g/\Row w' g (UQ zs)/\Below w.heap.size w w':=by
 go_enter func29,ntmps29;go_wp2_with (at_make;refine YO rfl _ _ 37 rfl 3 _ 1 8 underlying37 Dm zs.length rfl rfl (by omega) (by omega) ?_;intro wx aA aD aH;rw[xP]at aA);have aF:Row wx w.heap.size (TX zs 0):=by simpa[TX,UQ] using aA
 clear aA;go_loopw [4] (λi wr=>∃k:Nat,k<=zs.length/\i=.int .i64 k/\Row wr w.heap.size (TX zs k)/\Below w.heap.size w wr) (λi _=>zs.length-(intOf i).toNat)
 case atStart=>exact⟨0,AH _,rfl,aF,aD⟩
 case round =>
  obtain⟨k,hk,rfl,aA,aB⟩:=hrel
  by_cases aC:k<zs.length
  ·obtain⟨b,o,s,rfl,aG,hc,HS⟩:=(h.I aB).at aC
   have aE:=Ee zs k hk;obtain⟨u,hu⟩:∃u,wr.cell? ⟨w.heap.size,k,none⟩=some u:=⟨_,aA.cell k _ (AM (by omega))⟩;have hf:=aA.froz k (by omega);have HR:=LE (aA.set k (by omega) (.int .i64 s));have HU:Hid ((TX zs k).set k (.int .i64 s)=TX zs (k+1)):=by show _=_;rw[HS.o];exact xT zs k aC
   clear aA aE;go_wp2;go_roundw
   case rel=>exact⟨k+1,by omega,by go_num,by rw[<-HU.o];exact HR.o,aB.setCell (AA _) _⟩
   case measure=>simp[intOf];omega
  go_wp2
  go_ret;exact⟨w.heap.size,rfl,AA _,by rw[<-Es zs k (by omega)];exact aA,aB⟩
def Hy(a b:Option Addr)(zs:List Int)(c c':Nat)(w:World)(h:Ints w a zs)(h':Ints w b zs)(hl:zs.length<=1048576):Calls prog 43 #[.slice a zs.length c,.slice b zs.length c'] w λe w'=>e=.returned (.bool true)/\Below w.heap.size w w':=by
 go_enter func43,ntmps43;go_wp2;go_loopw [5] (λi wr=>∃k:Nat,k<=zs.length/\i=.int .i64 k/\Below w.heap.size w wr) (λi _=>zs.length-(intOf i).toNat)
 case atStart=>exact⟨0,AH _,rfl,AB _ _⟩
 case round =>
  obtain⟨k,hk,rfl,aA⟩:=hrel
  by_cases aC:k<zs.length
  ·obtain⟨b1,o1,s,rfl,_,hc,HS⟩:=(h.I aA).at aC
   obtain⟨b2,o2,s',rfl,_,aD,aB⟩:=(h'.I aA).at aC;obtain rfl:s=s':=HS.o.j aB.o.symm;have aF:(k:Int)<(zs.length:Int):=by omega
   have aE:(0:Int)<=(k:Int):=by omega
   clear HS aB;go_wp2_with fail;go_quiet (fail);go_wp2;go_roundw
   case rel=>exact⟨k+1,by omega,by go_num,below_drewN aA _⟩
   case measure=>simp[intOf];omega
  go_wp2
  go_ret;exact⟨rfl,aA⟩
def C7(g n c k:Nat)(cs:List Value)(hn:cs.length=n)(w:World)(h:Row w g cs)(hl:k+n<=100000000):Calls prog 49 #[.slice (some ⟨g,0,none⟩) n c,.int .i64 (k:Int)] w λe w'=>e=.returned (.int .i64 ((k+n:Nat):Int))/\w.grownBy w' (some g):=by
 go_enter func49,ntmps49;go_wp2;go_loopw [1,5] (λx i wr=>∃(j:Nat) (cs:List Value),j<=n/\i=.int .i64 (j:Int)/\x=.int .i64 ((k+j:Nat):Int)/\cs.length=n/\Row wr g cs/\w.grownBy wr (some g)) (λ_ i _=>n-(intOf i).toNat)
 case atStart=>exact⟨0,cs,AH _,rfl,rfl,hn,h,VT _ _⟩
 case round =>
  obtain⟨j,ds,hj,rfl,rfl,aC,aA,aB⟩:=hrel
  by_cases aF:j<n
  ·have aE:((k+j:Nat):Int)<=100000000:=by omega
   obtain⟨u,hu⟩:∃u,wr.cell? ⟨g,j,none⟩=some u:=⟨_,aA.cell j _ (AM (by omega))⟩;have hf:=aA.froz j (by omega);have HR:=LE aA;have HG:=LE aB;clear aA aB;go_wp2;go_roundw
   case rel=>exact⟨j+1,_,by omega,by go_num,by go_num,by rw[DP];exact aC,HR.o.set j (by omega) _,MC HG.o _ _⟩
   case measure=>simp[intOf];omega
  have aD:Hid (j=n):=by show _=_;omega
  have HG:=LE aB;clear aB;go_wp2;go_ret;exact⟨MU (by rw[aD.o]),HG.o⟩
def Au(a:Option Addr)(ss:List ByteArray)(c:Nat)(a':Option Addr)(ws:List (Int×ByteArray))(c':Nat)(v:Value)(w:World)(h:Strs w a ss)(h':Wrs w a' ws)(hl:ss.length<=1048576)(aD:ws.length<=1048576)(hs:∀s∈ss,s.size<=1048576)(aF:∀x∈ws,x.2.size<=1048576)(aE:LS ss ws=false):Calls prog 140 #[LN a ss.length c a' ws.length c',v] w λe w'=>e=.returned (LN none 0 0 none 0 0)/\Below w.heap.size w w':=by
 have aA:∀o1 o2,Below w.heap.size w ((w.alloc o1).alloc o2):=λo1 o2=>(LG _ _).alloc (by simp) _
 go_enter func140,ntmps140;go_wp2_with fail;refine(UI a ss c a' ws c' _ (h.I (aA _ _)) (h'.I (aA _ _)) hl aD hs aF).i ?_;rw[aE];rintro e w1 ⟨rfl,aB⟩;have aC:=LE ((aA _ _).j (aB.i (by simp;omega)));have rR:=(NT (w.alloc (.cells #[.slice a ss.length c,.slice a' ws.length c'] 44)) #[.slice none 0 0,.slice none 0 0] 44 (w.heap.size+1) (by simp)).I aB;have r0:=rR.x 0;have r1:=rR.x 1;obtain⟨aG,aH⟩:=rR.z2;clear rR aB;go_wp2;exact AJ (v:=LN none 0 0 none 0 0) (by simp[results,results140,go_sem,r0,r1]) rfl ⟨rfl,(aC.o.setCell (by show w.heap.size<=w.heap.size+1;omega) _).setCell (by show w.heap.size<=w.heap.size+1;omega) _⟩
def sL(a:Option Addr)(ss:List ByteArray)(c:Nat)(a':Option Addr)(ws:List (Int×ByteArray))(c':Nat)(v:Value)(w:World)(h:Strs w a ss)(h':Wrs w a' ws)(hl:ss.length<=1048576)(aD:ws.length<=1048576)(hs:∀s∈ss,s.size<=1048576)(aF:∀x∈ws,x.2.size<=1048576)(aE:LS ss ws=false):Calls prog 106 #[LN a ss.length c a' ws.length c',v] w λe w'=>e=.returned (LN none 0 0 none 0 0)/\Below w.heap.size w w':=by
 have aA:∀o1 o2,Below w.heap.size w ((w.alloc o1).alloc o2):=λo1 o2=>(LG _ _).alloc (by simp) _
 go_enter func106,ntmps106;go_wp2_with fail;refine(UT a ss c a' ws c' _ (h.I (aA _ _)) (h'.I (aA _ _)) hl aD hs aF).i ?_;rw[aE];rintro e w1 ⟨rfl,aB⟩;have aC:=LE ((aA _ _).j (aB.i (by simp;omega)));have rR:=(NT (w.alloc (.cells #[.slice a ss.length c,.slice a' ws.length c'] 44)) #[.slice none 0 0,.slice none 0 0] 44 (w.heap.size+1) (by simp)).I aB;have r0:=rR.x 0;have r1:=rR.x 1;obtain⟨aG,aH⟩:=rR.z2;clear rR aB;go_wp2;exact AJ (v:=LN none 0 0 none 0 0) (by simp[results,results106,go_sem,r0,r1]) rfl ⟨rfl,(aC.o.setCell (by show w.heap.size<=w.heap.size+1;omega) _).setCell (by show w.heap.size<=w.heap.size+1;omega) _⟩
def PO(zs:List Int)(ss:List ByteArray)(ws:List (Int×ByteArray)):List ByteArray:=if LS ss ws=true then NK (QF zs 0 (LP ws) (ss.map LF)) else []
def Eb(a:Option Addr)(ss:List ByteArray)(c:Nat)(a':Option Addr)(ws:List (Int×ByteArray))(c':Nat)(f:Option Addr)(zs:List Int)(cf:Nat)(w:World)(h:Strs w a ss)(h':Wrs w a' ws)(hz:Ints w f zs)(aD:zs.length<=1048576)(hl:ss.length<=1048576)(aC:ws.length<=1048576)(hs:∀s∈ss,s.size<=1048576)(aE:∀x∈ws,x.2.size<=1048576):Calls prog 140 #[LN a ss.length c a' ws.length c',.slice f zs.length cf] w λe w'=>∃a1 c1 aB c1',e=.returned (LN a1 (PO zs ss ws).length c1 aB 0 c1')/\OwnS w' a1 ((PO zs ss ws).map Value.string)/\(∀g,blk a1 (PO zs ss ws).length=some g->w.heap.size<=g)/\Below w.heap.size w w':=by
 by_cases aA:LS ss ws=true
 ·have e1:PO zs ss ws=NK (QF zs 0 (LP ws) (ss.map LF)):=by simp[PO,aA]
  have e2:(PO zs ss ws).length=ss.length:=by rw[e1];simp[NK,ZG]
  refine(rL a ss c a' ws c' f zs cf w h h' hz aD aA).i ?_;rintro e w' ⟨a1,c1,aB,c1',rfl,ho,hg,hb⟩;rw[e2];exact⟨a1,c1,aB,c1',rfl,by rw[e1];exact ho.s,hg,hb⟩
 have e1:PO zs ss ws=[]:=by simp[PO,aA]
 rw[e1];refine(Au a ss c a' ws c' _ w h h' hl aC hs aE (by simpa using aA)).i ?_;rintro e w' ⟨rfl,hb⟩;exact⟨none,0,none,0,rfl,.inl rfl,(λg hg=>by cases hg),hb⟩
def zD(a:Option Addr)(ss:List ByteArray)(c:Nat)(a':Option Addr)(ws:List (Int×ByteArray))(c':Nat)(f:Option Addr)(zs:List Int)(cf:Nat)(w:World)(h:Strs w a ss)(h':Wrs w a' ws)(hz:Ints w f zs)(aD:zs.length<=1048576)(hl:ss.length<=1048576)(aC:ws.length<=1048576)(hs:∀s∈ss,s.size<=1048576)(aE:∀x∈ws,x.2.size<=1048576):Calls prog 106 #[LN a ss.length c a' ws.length c',.slice f zs.length cf] w λe w'=>∃a1 c1 aB c1',e=.returned (LN a1 (PO zs ss ws).length c1 aB 0 c1')/\OwnS w' a1 ((PO zs ss ws).map Value.string)/\(∀g,blk a1 (PO zs ss ws).length=some g->w.heap.size<=g)/\Below w.heap.size w w':=by
 by_cases aA:LS ss ws=true
 ·have e1:PO zs ss ws=NK (QF zs 0 (LP ws) (ss.map LF)):=by simp[PO,aA]
  have e2:(PO zs ss ws).length=ss.length:=by rw[e1];simp[NK,ZG]
  refine(vP a ss c a' ws c' f zs cf w h h' hz aD aA).i ?_;rintro e w' ⟨a1,c1,aB,c1',rfl,ho,hg,hb⟩;rw[e2];exact⟨a1,c1,aB,c1',rfl,by rw[e1];exact ho.s,hg,hb⟩
 have e1:PO zs ss ws=[]:=by simp[PO,aA]
 rw[e1];refine(sL a ss c a' ws c' _ w h h' hl aC hs aE (by simpa using aA)).i ?_;rintro e w' ⟨rfl,hb⟩;exact⟨none,0,none,0,rfl,.inl rfl,(λg hg=>by cases hg),hb⟩
