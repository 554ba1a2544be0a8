import Derived.Test.YtcdojnnkjeakmaaGreatDoorPrSpB
import Derived.Test.YtcdojnnkjeakmaaGreatDoorPrWdW
set_option maxHeartbeats 32000000
set_option maxRecDepth 8000
set_option linter.unusedVariables false
set_option linter.unusedSimpArgs false
namespace Go.Proofs.YtcdojnnkjeakmaaGreatDoor
open Go.RowKit
section
theorem jJw {P:Program} {w:World} (t ty e:TypeId) (i:TypeInfo) (z:Value) (size aB:Nat) (ht:P.underlying t=some (.slice e)) (hi:P.info? e=some i) (hz:i.zero=some z) (aD:i.size=size) (aJ:i.bytes=aB) (aI:z.cells.size=size)
  (b B:Nat) (h0:w.ownsRow B e size (.slice (some ⟨b,0,none⟩) 0 0) 0 []) (v:Value) (n:Nat) (news:List Value) (aA:Src P size t v n news w) (hn:n<=2000000) (aK:n*aB<=281474976710656) (hB:B<=w.heap.size) :
  ∃ g cap wx,(Builtin.append_ #[t,t] ty #[.slice (some ⟨b,0,none⟩) 0 0,v]).run P w=.ok (.slice (some ⟨g,0,none⟩) n cap) wx/\wx.ownsRow B e size (.slice (some ⟨g,0,none⟩) n cap) n news/\(g=b\/g=w.heap.size)/\Below w.heap.size w wx:=by
 subst aD aJ
 by_cases aL:n=0
 ·subst aL
  have aF:news=[]:=List.eq_nil_of_length_eq_zero (by have:=aA.newsLen;omega);subst aF;have aC:=run_append_room_src (P:=P) w t t ty e i ht hi b 0 0 0 v 0 [] aA (by omega) (by simp) (by simp);exact ⟨_,_,_,aC,h0,.inl rfl,Below.refl _ _⟩
 ·have aE:(Builtin.firstCells i.size 0 (.slice (some ⟨b,0,none⟩) 0 0)).run P w.drew=.ok ([]:List Value).toArray w.drew:=run_firstCells_some w.drew i.size 0 _ 0 0 [] (by simp) (by simp)
  have aC:=run_append_grow_src (P:=P) w t t ty e i z ht hi hz (some ⟨b,0,none⟩) 0 0 [] aE v n news aA (by omega) (by omega) (by rw [Nat.zero_add,Q33 n (by omega)];exact aK);refine ⟨_,_,_,by rw [aC,Nat.zero_add],?_,.inr rfl,(Below.refl _ _).drew.alloc (Nat.le_refl _) _⟩;have aH:=grownCap_ge w (0+n) 0 e;have aG:=grownCap_le_maxLen w (0+n) 0 e (by unfold maxLen;omega);rw [Nat.zero_add] at aH aG;refine ⟨aA.newsLen,.inr ⟨w.heap.size,_,_,rfl,hB,heap_alloc_new w.drew _,aH,aG,?_,?_⟩⟩
  ·simp [size_zeroCells,aA.newsLen,aI]
   rw [<-Nat.add_mul]
   congr 1
   omega
  ·simp [aA.newsLen]
theorem y29 {P:Program} {w:World} {aF:Array Oper} {aB:List Oper} {o:Oper} {a:Act} {Q:Exit->Act->World->Prop} (aG:o.guard=none) (s x:Operand) (t:TypeId)
  (ho:o.op=.call { callee:=.builtin .append,args:=#[s,x],argTypes:=#[t,t] }) (e:TypeId) (i:TypeInfo) (z:Value) (size aA:Nat) (ht:P.underlying t=some (.slice e)) (hi:P.info? e=some i) (hz:i.zero=some z) (aC:i.size=size) (aI:i.bytes=aA) (aH:z.cells.size=size)
  (b B:Nat) (hs:a.eval s=.slice (some ⟨b,0,none⟩) 0 0) (h0:w.ownsRow B e size (.slice (some ⟨b,0,none⟩) 0 0) 0 []) (v:Value) (hx:a.eval x=v) (n:Nat) (news:List Value) (aD:Src P size t v n news w) (hn:n<=2000000) (aJ:n*aA<=281474976710656) (hB:B<=w.heap.size)
  (h:∀ g cap wx,wx.ownsRow B e size (.slice (some ⟨g,0,none⟩) n cap) n news->(g=b\/g=w.heap.size)->Below w.heap.size w wx->wpList P aF Q aB (a.put o.dst (.slice (some ⟨g,0,none⟩) n cap)) wx):wpList P aF Q (o::aB) a w:=by
 refine wpList_plain aG fun K hK=>?_
 obtain ⟨g,cap,wx,aE,h1,h2,h3⟩:=jJw (P:=P) (w:=w) t o.type e i z size aA ht hi hz aC aI aH b B h0 v n news aD hn aJ hB;unfold Oper.wp;simp [execOp,ho,resolve,invoke,builtin,hs,hx,aE,Result.andThen];exact hK _ _ (h g cap wx h1 h2 h3)
def qXf (w:World) (g o i:Nat):Int:=match w.cell? ⟨g,o+i,none⟩ with | some (.int _ x)=>x | _=>0
theorem qVz {P:Program} {w:World} {a:Option Addr} {n:Nat} (h:Bys w a n) (t e:TypeId) (ht:P.underlying t=some (.slice e)) (c:Nat):∃ xs:List Int,xs.length=n/\(∀ x∈xs,0<=x/\x<=255)/\∀ w',Below w.heap.size w w'->Src P 1 t (.slice a n c) n (xs.map (Value.int .u8)) w':=by
 obtain ⟨g,o,ha,hx⟩:=h
 by_cases h0:n=0
 ·subst h0
  refine ⟨[],rfl,(fun x hx=>by cases hx),fun w' hb=>?_⟩
  cases a with
  | none=>exact Src.ofNil w' ht c
  | some x=>exact Src.ofSlice w' ht x 0 c [] (by simp) (by simp) (by simp)
 ·obtain rfl:=ha.resolve_left h0
  refine ⟨(List.range n).map (qXf w g o),by simp,fun x aA=>?_,fun w' hb=>?_⟩
  ·obtain ⟨i,hi,rfl⟩:=List.mem_map.1 aA
   obtain ⟨hg,y,hc,h1,h2⟩:=hx i (List.mem_range.1 hi);unfold qXf;rw [hc];exact ⟨h1,h2⟩
  ·refine Src.ofSlice w' ht ⟨g,o,none⟩ n c _ (by simp) (fun j u hu=>?_) (fun u hu=>by obtain ⟨s,_,rfl⟩:=List.mem_map.1 hu;rfl)
   obtain ⟨hj,e⟩:=List.getElem?_eq_some_iff.1 hu;simp only [List.length_map,List.length_range] at hj;obtain ⟨hg,y,hc,h1,h2⟩:=hx j hj;have ha:(⟨g,o,none⟩:Addr).add j=⟨g,o+j,none⟩:=by unfold Addr.add;split<;>simp_all
   rw [ha,(hb.cell (p:=⟨g,o+j,none⟩) hg),hc,<-e];simp [qXf,hc]
theorem XjE {w:World} {B:Nat} {e:TypeId} {g m c:Nat} {xs:List Int} (h:w.ownsRow B e 1 (.slice (some ⟨g,0,none⟩) m c) m (xs.map (Value.int .u8))) (hl:xs.length=m) (hx:∀ x∈xs,0<=x/\x<=255):DepF w (fun b=>b=g) (fun W=>Bys W (some ⟨g,0,none⟩) m):=by
 have hr:=kX5 h;have aB:=hr.lt
 have aA:∀ W:World,W.heap[g]?=w.heap[g]?->w.heap.size<=W.heap.size->Bys W (some ⟨g,0,none⟩) m:=fun W hW hs=>by
  refine ⟨g,0,.inr rfl,fun i hi=>⟨Nat.lt_of_lt_of_le aB hs,xs[i]'(by omega),?_,hx _ (List.getElem_mem _)⟩⟩;rw [Nat.zero_add];exact (World.cell?_of_block (a:=⟨g,i,none⟩) hW).trans (hr.cell i _ (by simp [hl,hi]))
 exact ⟨aA w rfl (Nat.le_refl _),fun w' h1 h2=>aA w' (h2 g rfl aB) h1.size⟩
theorem juE {w:World} {a:Option Addr} {n:Nat} (h:Bys w a n):DepF w (fun b=>b<w.heap.size) (fun W=>Bys W a n):=QoP h (fun w' hb=>h.below hb)
structure FrS (w v:World) (R X2 X6:Nat) (a:Option Addr) (n c:Nat) (q:Int) (g sc:Nat) (ss:List ByteArray) (g' sc':Nat) (ws:List WrT):Prop where
 rd:Rdr v R a n c q
 be:Below w.heap.size w v
 r2:Row v X2 [.slice none 0 0,.slice none 0 0]
 r6:Row v X6 [.slice (some ⟨g,0,none⟩) ss.length sc,.slice (some ⟨g',0,none⟩) ws.length sc']
 h2:w.heap.size<=X2
 h3:X2<R
 h6:R<X6
 so:v.ownsRow (R+1) 9 1 (.slice (some ⟨g,0,none⟩) ss.length sc) ss.length (ss.map Value.string)
 wo:v.ownsRow (R+1) 97 2 (.slice (some ⟨g',0,none⟩) ws.length sc') ws.length (yaV ws)
 ne:g≠g'
 n1:g≠X6
 n2:g'≠X6
 ga:∀ g o,a=some ⟨g,o,none⟩->0<n->g<w.heap.size
section
variable {w v v':World} {R X2 X6:Nat} {a:Option Addr} {n c:Nat} {q q':Int} {g sc:Nat} {ss:List ByteArray} {g' sc':Nat} {ws:List WrT}
theorem FrS.lg (h:FrS w v R X2 X6 a n c q g sc ss g' sc' ws):(R+1<=g/\g<v.heap.size)/\(R+1<=g'/\g'<v.heap.size):=⟨h.so.lt g rfl,h.wo.lt g' rfl⟩
theorem FrS.below (h:FrS w v R X2 X6 a n c q g sc ss g' sc' ws) (hb:Below v.heap.size v v'):FrS w v' R X2 X6 a n c q g sc ss g' sc' ws :=
 ⟨h.rd.below hb,h.be.trans (hb.mono h.be.size),h.r2.below hb,h.r6.below hb,h.h2,h.h3,h.h6,jcb h.so hb,jcb h.wo hb,h.ne,h.n1,h.n2,h.ga⟩
theorem FrS.pick (h:FrS w v R X2 X6 a n c q g sc ss g' sc' ws) (hr:Rdr v' R a n c q') (hg:v.grownBy v' (some R)):FrS w v' R X2 X6 a n c q' g sc ss g' sc' ws:=by
 have h2:=h.h2;have h3:=h.h3;have h6:=h.h6;have h4:=h.lg;exact ⟨hr,h.be.trans (jJX hg h.be.size (fun x e=>by have e:=Option.some.inj e;omega)),h.r2.grown hg (fun e=>by injection e with e;omega),h.r6.grown hg (fun e=>by injection e with e;omega),h.h2,h.h3,h.h6,h.so.kept hg (.inr (fun e=>by have e:=Option.some.inj e;(try dsimp only at e);omega)),h.wo.kept hg (.inr (fun e=>by have e:=Option.some.inj e;(try dsimp only at e);omega)),h.ne,h.n1,h.n2,h.ga⟩
theorem FrS.else (h:FrS w v R X2 X6 a n c q g sc ss g' sc' ws) {b:Nat} (hg:v.grownBy v' (some b)) (hb:R<b) (b1:b≠X6) (b2:b≠g) (b3:b≠g'):FrS w v' R X2 X6 a n c q g sc ss g' sc' ws:=by
 have h2:=h.h2;have h3:=h.h3;have h6:=h.h6;have h4:=h.lg;have hr:=ykG h.rd.pc;exact ⟨h.rd.keep (N:=R+1) (by omega) (fun g o e e2=>by have:=h.ga g o e e2;omega) (jJX hg hr (fun x e=>by have e:=Option.some.inj e;omega)),h.be.trans (jJX hg h.be.size (fun x e=>by have e:=Option.some.inj e;omega)),h.r2.grown hg (fun e=>by injection e with e;omega),h.r6.grown hg (fun e=>by injection e with e;omega),h.h2,h.h3,h.h6,h.so.kept hg (.inr (fun e=>by have e:=Option.some.inj e;(try dsimp only at e);omega)),h.wo.kept hg (.inr (fun e=>by have e:=Option.some.inj e;(try dsimp only at e);omega)),h.ne,h.n1,h.n2,h.ga⟩
theorem FrS.sect (h:FrS w v R X2 X6 a n c q g sc ss g' sc' ws) (k:Nat) (hk:k<ss.length) (s:ByteArray):FrS w (v.setCell ⟨g,k,none⟩ (.string s)) R X2 X6 a n c q g sc (ss.set k s) g' sc' ws:=by
 have h2:=h.h2;have h3:=h.h3;have h6:=h.h6;have h4:=h.lg;have hr:=ykG h.rd.pc;have hg:=XGx v g k (.string s);have hl:(ss.set k s).length=ss.length:=List.length_set;refine ⟨h.rd.keep (N:=R+1) (by omega) (fun g o e e2=>by have:=h.ga g o e e2;omega) (jJX hg hr (fun x e=>by have e:=Option.some.inj e;omega)),h.be.trans (jJX hg h.be.size (fun x e=>by have e:=Option.some.inj e;omega)),h.r2.grown hg (fun e=>by injection e with e;omega),by rw [hl];exact h.r6.grown hg (fun e=>by injection e with e;exact h.n1 e.symm),h.h2,h.h3,h.h6,?_,h.wo.kept hg (.inr (fun e=>by have e:=Option.some.inj e;(try dsimp only at e);exact h.ne e.symm)),h.ne,h.n1,h.n2,h.ga⟩;rw [hl,List.map_set];exact (h.so.stored k (.string s)).1
end
end
theorem DkLe.at {ss:List ByteArray} {ws:List WrT} (h:DkLe ss ws) (k:Nat) (s:ByteArray) (hs:s.size<=64):DkLe (ss.set k s) ws :=
 ⟨⟨by rw [List.length_set];exact h.1.1,fun t ht=>by rcases List.mem_or_eq_of_mem_set ht with q | q;exact h.1.2 t q;rw [q];exact hs⟩,h.2⟩
def ylb (w w':World) (e:Ending):Prop:=(∃ a1 n1 c1 aA m1 aB ss ws z,e=.returned (.tuple #[.agg #[.slice a1 n1 c1,.slice aA m1 aB],.int .i64 z])/\Strs w' a1 ss/\Wrs w' aA ws/\ss.length=n1/\ws.length=m1/\DkLe ss ws)/\Below w.heap.size w w'
def FrL (w:World) (R X2 X6:Nat) (a:Option Addr) (n c:Nat) (p:Int) (g sc N g' sc':Nat) (ws:List WrT) (n0:Nat) (cv iv:Value) (wr:World):Prop:=∃ (i n1 c1:Nat) (a1:Option Addr) (q:Int) (ss:List ByteArray),i<=2/\iv=.int .i64 (i:Int)/\cv=.slice a1 n1 c1/\n1<=c1/\n1<=n0+i/\DepF wr (fun b=>b≠R/\b≠g) (fun W=>Bys W a1 n1)/\p<=q/\q<=p+10*(i:Int)/\ss.length=N/\DkLe ss ws/\FrS w wr R X2 X6 a n c q g sc ss g' sc' ws
def FrE (w:World) (R X2 X6:Nat) (a:Option Addr) (n c:Nat) (p:Int) (g sc N g' sc':Nat) (ws:List WrT) (wr:World):Prop:=∃ (ss:List ByteArray) (q:Int),p<=q/\q<=p+20/\ss.length=N/\DkLe ss ws/\FrS w wr R X2 X6 a n c q g sc ss g' sc' ws
def FrB (w:World) (R X2 X6:Nat) (a:Option Addr) (n c:Nat) (q:Int) (g sc:Nat) (ss:List ByteArray) (g' sc':Nat) (ws:List WrT) (a1:Option Addr) (n1:Nat) (wx:World):Prop:=DepF wx (fun b=>b≠R/\b≠g) (fun W=>Bys W a1 n1)/\FrS w wx R X2 X6 a n c q g sc ss g' sc' ws
def FrQ (w:World) (R X2 X6:Nat) (a:Option Addr) (n c:Nat) (p:Int) (g sc:Nat) (ss:List ByteArray) (g' sc':Nat) (ws:List WrT) (a1:Option Addr) (n1:Nat) (sv:Value) (wx:World):Prop:=∃ (s:ByteArray) (q:Int),sv=.string s/\p<=q/\q<=p+3/\DepF wx (fun b=>b≠R/\b≠g) (fun W=>Bys W a1 n1)/\FrS w wx R X2 X6 a n c q g sc ss g' sc' ws
theorem zAs:(Tryz.prog.info? 5).map (fun i=>(i.zero,i.size,i.bytes))=some (some (.int .u8 0),1,1):=by kernel_rfl
theorem XDb (m:Nat) (h:m<4):∃ p:ByteArray,([.string ⟨#[0,0,0,0,1]⟩,.string ⟨#[2,0,0,0,1]⟩,.string ⟨#[0,0,0,0,0]⟩,.string ⟨#[1,0,0,1]⟩]:List Value)[m]?=some (.string p)/\p.size<=5:=by
 have:m=0\/m=1\/m=2\/m=3:=by omega
 rcases this with rfl | rfl | rfl | rfl
 ·exact ⟨_,rfl,by decide⟩
 ·exact ⟨_,rfl,by decide⟩
 ·exact ⟨_,rfl,by decide⟩
 ·exact ⟨_,rfl,by decide⟩
theorem x1S (a:Option Addr) (n c:Nat) (w:World) (h:Bys w a n) (hn:n<=1048576) (hc:n<=c):Calls Tryz.prog 7 #[.slice a n c] w fun e w'=>ylb w w' e:=by
 obtain ⟨i0,fB,eX,dR,eS⟩:=yWN zAs;have HI:=hid (And.intro fB (And.intro eX (And.intro dR eS)));clear fB eX dR eS;have iK:=hid h;go_enter Tryz.func7,Tryz.ntmps7;go_wp2_with fail;generalize dM:w.alloc _=v1;obtain ⟨hb,eN,b2⟩:=bx1 dM;clear dM;have hE:Below w.heap.size w v1:=hb;refine (QfQ a n c _ (h.below hb) (by omega) hc).mono ?_;rintro e v2 ⟨rfl,⟨n',c',hI,dQ⟩,dU⟩
 have ga:∀ g o,a=some ⟨g,o,none⟩->0<n'->g<w.heap.size:=by
  intro g o ha h0;obtain ⟨g1,o1,h1,h2⟩:=h;rw [ha] at h1;have h1:=h1.resolve_left (by omega)
  cases h1
  exact (h2 0 (by omega)).1
 have CB:=(juE h).below hE;obtain ⟨R,eZ⟩:∃ R,R=v1.heap.size:=⟨_,rfl⟩;obtain ⟨X2,cI⟩:∃ R,R=w.heap.size:=⟨_,rfl⟩;rw [<-eZ] at dQ ⊢;have hR:X2<R:=by omega
 have fF:w.heap.size<=X2:=by omega
 rw [<-cI] at b2 ⊢;replace CB:=CB.below dU;replace hE:=hE.trans (dU.mono hE.size);replace b2:=(b2.below dU).now;have lR:=ykG dQ.pc
 try dsimp only at lR
 clear hb dU h eN eZ cI;go_wp2_with fail;refine (XXp R a n' c' 0 _ dQ (by omega)).mono ?_;rintro e v3 ⟨⟨x,q,N,g,g',rfl,hG,hN,hW,FX,fG,cM,bH,bI,fH⟩,⟨p1,iF,gX,hr⟩,hg⟩;have s3:=hg.size;replace hE:=hE.trans (jJX hg hE.size (fun x e=>by have e:=Option.some.inj e;omega));replace CB:=CB.grown hg (fun x e k=>by have e:=Option.some.inj e;omega);replace b2:=b2.grown hg (fun e=>by injection e with e;omega);have HG:=hid hG;replace bH:=bH.mono (base':=R+1) (by omega);replace bI:=bI.mono (base':=R+1) (by omega);clear hG dQ hg FX;obtain ⟨qa,qc,iO,aC,qs,iD,qp,gY,qt,gV⟩:=q;simp only at fG cM bH bI;subst fG cM;have lg:=bH.lt g rfl;have gG:=bI.lt g' rfl;unfold Zov;go_upto_region 3 with fail;generalize dO:v3.alloc _=v4;obtain ⟨hb,eP,b5⟩:=bx1 dO;clear dO;obtain ⟨X5,cQ⟩:∃ B,B=v3.heap.size:=⟨_,rfl⟩;rw [<-cQ] at b5 ⊢;replace CB:=CB.below hb;replace hr:=hr.below hb;replace hE:=hE.trans (hb.mono hE.size);replace b2:=b2.below hb;replace bH:=jcb bH hb
 replace bI:=jcb bI hb;have gN:v3.heap.size<=v4.heap.size:=by omega
 have gQ:R<v4.heap.size:=by omega
 clear hb eP cQ;generalize Value.agg _=A0;obtain ⟨c0,c1,c2⟩:=b5.now.k3;have cl:=b5.now.lt;go_upto_region 5 with fail;clear c0 c1 c2 cl b5;generalize cS:v4.alloc _=v5;obtain ⟨hb,eD,b6⟩:=bx1 cS;clear cS;obtain ⟨X6,cJ⟩:∃ B,B=v4.heap.size:=⟨_,rfl⟩;rw [<-cJ] at b6 ⊢;have S:FrS w v5 R X2 X6 a n' c' p1 g qc x.ss g' aC x.ws:=⟨hr.below hb,hE.trans (hb.mono hE.size),b2.below hb,b6.now,fF,hR,by omega,jcb bH hb,jcb bI hb,fH,by omega,by omega,ga⟩;replace CB:=(CB.below hb).mono (G:=fun b=>b≠R/\b≠g) (fun b _ k=>by omega);have dV:=yTD HG.out.d;have eM:x.ss.length=N:=HG.out.n;have eI:x.ws.length<=300:=(q67 HG.out.d).1.2.2;obtain ⟨xs,dE⟩:∃ l,x.ss=l:=⟨_,rfl⟩;obtain ⟨xw,cO⟩:∃ l,x.ws=l:=⟨_,rfl⟩;obtain ⟨wd,cH⟩:∃ l,x.w=l:=⟨_,rfl⟩;rw [dE] at S dV eM ⊢;rw [cO] at S dV eI ⊢;rw [cH] at hW ⊢;clear b2 b6 hr hE hb fF hR ga lR s3 lg gG bH bI fH HG dE cO cH eD cJ gN gQ;have HD:=hid dV;have aO:=hid eM;have gU:=hid eI;clear dV eM eI;generalize Value.agg _=A1
 have e6:=S.r6.cell 0 _ rfl;have l6:=S.r6.lt;have fE:(1:Int)<(xs.length:Int):=by have:=aO.out;omega
 go_cut [29] from 21 to 29 (fun tv wx=>∃ b,tv=.bool b/\FrB w R X2 X6 a n' c' (p1+1) g qc xs g' aC xw a n wx)
 case first =>
  clear e6 l6;go_wp2_with fail;refine (ZfV R a n' c' p1 2 _ S.rd (by omega)).mono ?_;rintro e v6 ⟨⟨t,rfl,t0,t1⟩,hr,hg⟩;replace S:=S.pick hr hg;replace CB:=CB.grown hg (fun x e k=>k.1 (Option.some.inj e).symm);clear hr hg t1;have e6:=S.r6.cell 0 _ rfl;have l6:=S.r6.lt
  by_cases ht:t=0
  ·subst ht
   go_wp2_with fail;go_meet;exact ⟨true,rfl,CB,S⟩
  ·go_wp2_with fail
   go_meet;exact ⟨false,rfl,CB,S⟩
 case rest =>
 clear S CB e6 l6;obtain ⟨b,rfl,CB,S⟩:=hcut
 rename World=>v6
 go_upto_if 29 with fail;go_cut [] from 30 to 82 (fun wx=>FrE w R X2 X6 a n' c' (p1+1) g qc N g' aC xw wx)
 case first =>
  cases b with
  | true =>
   go_wp2_with fail;go_loopw [0,8] (fun cv iv wr=>FrL w R X2 X6 a n' c' (p1+1) g qc N g' aC xw n cv iv wr) (fun _ iv _=>2-(intOf iv).toNat)
   case atStart=>exact ⟨0,n,c,a,p1+1,xs,by omega,rfl,rfl,hc,by omega,CB,by omega,by omega,aO.out,HD.out,S⟩
   case round =>
    clear S CB HD aO fE;obtain ⟨i,n1,c1,a1,q,ss,hi,rfl,rfl,fJ,fT,CB,q0,q1,cF,dH,S⟩:=hrel;have HD:=hid dH;have aO:=hid cF;clear dH cF
    by_cases iJ:i<2
    ·have gH:(i:Int)<2:=by omega
     go_wp2_with fail;refine (Xt6 a1 n1 c1 _ CB.now (by omega) fJ).mono ?_;rintro e u1 ⟨⟨v,z,rfl,⟨z1,z2,z3,z4,rfl,hz⟩,fZ⟩,hb⟩;replace S:=S.below hb;replace CB:=CB.below hb;clear hb fZ;go_upto_region 10 with fail;generalize cN:u1.alloc _=u2;obtain ⟨hb,dZ,b9⟩:=bx1 cN;clear cN;obtain ⟨X9,cE⟩:∃ B,B=u1.heap.size:=⟨_,rfl⟩;have aH:=S.lg;have fY:=S.r6.lt;have bZ:R<u1.heap.size:=ykG S.rd.pc;have n9:R<X9/\X9≠X6/\X9≠g/\X9≠g':=by omega
     rw [<-cE] at b9 ⊢;have r9:=b9.now;replace S:=S.below hb;replace CB:=(CB.mono (G:=fun b=>b≠R/\b≠g/\b≠X9) (fun b hl k=>⟨k.1,k.2,by omega⟩)).below hb;clear hb b9 dZ cE aH fY bZ;generalize Value.tuple _=T0;have dR:=hz.1;have eT:=r9.below (Below.refl u2.heap.size u2).drew;refine yO4 (6) (S:=fun w'=>w'.cell? ⟨X9,0,none⟩=some (.int .i64 z1)) (by kernel_rfl) (eT.cell 0 _ rfl) (fun b8=>?_);refine TYT 0 (.pointer (some ⟨X9,0,none⟩)) rfl b8 (TYT 1 (.int .i64 z1) rfl b8 (TYT 2 (.pointer (some ⟨R,0,none⟩)) rfl b8 ?_));simp only [PS];refine RDT 3 rfl (fun Kq aA=>?_);obtain ⟨y0,b7⟩:∃ y,y=u2.drew:=⟨_,rfl⟩;rw [<-b7];have hb:Below u2.heap.size u2 y0:=by rw [b7];exact (Below.refl _ _).drew
     replace S:=S.below hb;replace CB:=CB.below hb;replace r9:=r9.below hb;clear b7 hb;refine XRf (by rfl) _ _ (by go_simp) (ZfV R a n' c' q 3 _ S.rd (by omega)) ?_;rintro e u3 ⟨⟨t,rfl,fO,fS⟩,hr,hg⟩;refine ⟨_,rfl,?_⟩;replace S:=S.pick hr hg;replace CB:=CB.grown hg (fun x e k=>k.1 (Option.some.inj e).symm);replace r9:=r9.grown hg (fun e=>by injection e with e;omega);have gP:IntKind.i64.wrap (z1+t)=z1+t:=vRg _ (by omega) (by omega);clear hr hg;refine aA.out _ _ (r9.cell 0 _ rfl) (fun eK=>?_)
     try simp only [PS]
     refine RDT 4 rfl (fun Kq aA=>?_);go_simp;refine aA.out _ _ (r9.cell 0 _ rfl) (fun bU=>?_)
     try simp only [PS]
     refine RDT 5 rfl (fun Kq aA=>?_);go_simp;refine aA.out _ _ (r9.cell 0 _ rfl) (fun gL=>?_)
     try simp only [PS]
     refine kPc (rs:=[6]) (by kernel_rfl) (by simp) ?_;refine AllReadyT.last rfl (fun Kq aA=>?_);have l0:=r9.cell 0 _ rfl;have l2:=r9.froz 0 (by simp);have l4:=r9.lt;go_simp;clear l0 l2 l4;refine aA.out _ _ trivial (fun _=>?_)
     try simp only [PS]
     refine kgn (by kernel_rfl) ?_ _;have G9:=XGx u3 X9 0 (.int .i64 (z1+t));replace S:=S.else G9 n9.1 n9.2.1 n9.2.2.1 n9.2.2.2;replace CB:=(CB.grown G9 (fun x e k=>k.2.2 (Option.some.inj e).symm)).mono (G:=fun b=>b≠R/\b≠g) (fun b _ k=>⟨k.1,k.2.1⟩);replace r9:=r9.set 0 (by simp) (.int .i64 (z1+t));generalize u3.setCell _ _=u4 at *;clear G9 eT;obtain ⟨y1,cU⟩:∃ y,z1+t=y:=⟨_,rfl⟩;rw [cU] at r9;clear gP cU hz dR fO fS;go_wp2_with fail;refine (ZfV R a n' c' (q+1) 2 _ S.rd (by omega)).mono ?_;rintro e u5 ⟨⟨eV,rfl,gM,gO⟩,hr,hg⟩;replace S:=S.pick hr hg;replace CB:=CB.grown hg (fun x e k=>k.1 (Option.some.inj e).symm);replace r9:=r9.grown hg (fun e=>by injection e with e;omega);clear hr hg;obtain ⟨ka,rfl⟩:∃ m:Nat,eV=(m:Int):=⟨eV.toNat,by omega⟩;have eH:ka<ss.length:=by have:=aO.out;omega
     clear gM gO;obtain ⟨c0,c1,c2,c3⟩:=r9.k4;have cl:=r9.lt;go_wp2_with fail;clear c0 c1 c2 c3 cl r9 n9;refine (qAa _ z2 z3 z4 wd _).mono ?_;rintro e u6 ⟨rfl,hb⟩;replace S:=S.below hb;replace CB:=CB.below hb;clear hb;generalize QCt _ _ _ _ _=s1;go_wp2_with fail;refine (ZfV R a n' c' (q+1+1) 6 _ S.rd (by omega)).mono ?_;rintro e u7 ⟨⟨y6,rfl,iL,gJ⟩,hr,hg⟩;replace S:=S.pick hr hg;replace CB:=CB.grown hg (fun x e k=>k.1 (Option.some.inj e).symm);clear hr hg gJ;go_upto_if 52 with fail;go_cut [12] from 53 to 67 (fun sv wx=>FrQ w R X2 X6 a n' c' (q+1+1+1) g qc ss g' aC xw a1 n1 sv wx)
     case first =>
      by_cases gR:y6=0
      ·subst gR
       go_wp2_with fail;refine (ZfV R a n' c' (q+1+1+1) 4 _ S.rd (by omega)).mono ?_;rintro e u8 ⟨⟨k1,rfl,iG,iI⟩,hr,hg⟩;replace S:=S.pick hr hg;replace CB:=CB.grown hg (fun x e k=>k.1 (Option.some.inj e).symm);clear hr hg;have fU:IntKind.i64.wrap (1+k1)=1+k1:=vRg _ (by omega) (by omega);go_wp2_with fail;refine (ZfV R a n' c' (q+1+1+1+1) 2 _ S.rd (by omega)).mono ?_;rintro e u9 ⟨⟨k2,rfl,iA,gW⟩,hr,hg⟩;replace S:=S.pick hr hg;replace CB:=CB.grown hg (fun x e k=>k.1 (Option.some.inj e).symm);clear hr hg;have fW:IntKind.i64.wrap (2+k2)=2+k2:=vRg _ (by omega) (by omega);go_wp2_with fail;generalize bJ:u9.alloc _=iN;have bZ:R<u9.heap.size:=ykG S.rd.pc;obtain ⟨hb,dI,eO⟩:=bx1 bJ;clear bJ;obtain ⟨G,aT⟩:∃ B,B=u9.heap.size:=⟨_,rfl⟩;have aX:G≠R:=by omega
       rw [<-aT] at eO ⊢;have rg:=eO.now;replace S:=S.below hb;replace CB:=CB.below hb;clear hb eO dI aT bZ;refine (ZfV R a n' c' (q+1+1+1+1+1) 4 _ S.rd (by omega)).mono ?_;rintro e iH ⟨⟨m',rfl,m0,m1⟩,hr,hg⟩;replace S:=S.pick hr hg;replace CB:=CB.grown hg (fun x e k=>k.1 (Option.some.inj e).symm);replace rg:=rg.grown hg (fun e=>by injection e with e;exact aX e);clear hr hg;obtain ⟨m,rfl⟩:∃ m:Nat,m'=(m:Int):=⟨m'.toNat,by omega⟩;obtain ⟨pt,fC,iC⟩:=XDb m (by omega);have aF:=rg.cell m _ fC;have aR:(m:Int)<4:=by omega
       have aU:¬ ((4:Int)<=(m:Int)):=by omega
       have aV:=rg.lt;clear fC rg m0 m1;go_wp2_with fail;clear aF aR aU aV;refine (x4N _ _ _ pt wd _ (by omega)).mono ?_;rintro e iM ⟨rfl,hb⟩;replace S:=S.below hb;replace CB:=CB.below hb;clear hb fU fW;go_wp2_with fail;go_meet;exact ⟨_,q+1+1+1+1+1+1,rfl,by omega,by omega,CB,S⟩
      ·go_wp2_with fail
       go_meet;exact ⟨s1,q+1+1+1,rfl,by omega,by omega,CB,S⟩
     case rest =>
      clear S CB;obtain ⟨s,q2,rfl,hY,iB,CB,S⟩:=hcut
      rename World=>uu
      by_cases hs:s.size=64
      ·have gK:(s.size:Int)=64:=by omega
       have c0:=S.r6.cell 0 _ rfl;have cl:=S.r6.lt;have fI:¬ ((ss.length:Int)<=(ka:Int)):=by omega
       have gE:(ka:Int)<(ss.length:Int):=by omega
       have rs:=kX5 S.so;have cs:=rs.cell ka (.string ss[ka]) (by simp [eH]);have fs:=rs.froz ka (by simpa using eH);have ls:=rs.lt;go_upto_region 17 with fail;clear c0 cl fI gE rs cs fs ls;replace S:=S.sect ka eH s;replace CB:=CB.grown (XGx uu g ka (.string s)) (fun x e k=>k.2 (Option.some.inj e).symm);generalize uu.setCell _ _=uc at *;have aH:=S.lg;have bZ:R<uc.heap.size:=ykG S.rd.pc;obtain ⟨xb,cC,dN,cY⟩:=qVz (P:=Tryz.prog) CB.now 22 5 Tryz.underlying22 c1;have dL:=hid cY;have eB:=hid dN;have eF:=hid cC;clear cY dN cC;have HO:Hid ((uc.alloc (.cells #[] 5)).ownsRow uc.heap.size 5 1 (.slice (some ⟨uc.heap.size,0,none⟩) 0 0) 0 []):=hid (World.ownsRow_lit _ #[] 0 (by omega) (by simp) (by simp));have fX:IntKind.i64.wrap ((i:Int)+3)=(i:Int)+3:=vRg _ (by omega) (by omega);have gI:IntKind.u8.wrap ((i:Int)+3)=(i:Int)+3
       :=by
         have:i=0\/i=1:=by omega
         rcases this with rfl | rfl<;>decide
       have fQ:IntKind.i64.wrap ((i:Int)+1)=(i:Int)+1:=vRg _ (by omega) (by omega)
       go_wp2_with (first | (at_builtin;refine y29 rfl _ _ 22 rfl 5 i0 (.int .u8 0) 1 1 Tryz.underlying22 HI.out.1 HI.out.2.1 HI.out.2.2.1 HI.out.2.2.2 rfl uc.heap.size uc.heap.size rfl HO.out _ rfl n1 _ (dL.out _ (quc uc _)) (by omega) (by omega) (by simp) ?_;intro gc eL ud aI eJ bV;have dJ:=hid (jcb aI (quc ud (.cells #[.int .u8 ((i:Int)+3)] 5)));have gD:uc.heap.size+1<=ud.heap.size:=(by have:=bV.size;simpa using this);have cZ:Below uc.heap.size uc ud:=(quc uc (.cells #[] 5)).trans (bV.mono (by simp));clear aI bV) | (at_builtin;refine WAL _ rfl _ _ 22 rfl uc.heap.size Tryz.underlying22 HI.out rfl (by omega) _ n1 _ rfl dJ.out ⟨ud.heap.size,0,none⟩ 1 1 [.int .u8 ((i:Int)+3)] rfl rfl (World.news_of_block (heap_alloc_new ud _)) (by intro u hu;simp at hu;subst hu;rfl) (by simp;omega) (ud.heap.size+1) (by simp) ?_;intro kk bW yA aJ aK eR eC;have bC:=hid aJ;have cW:=hid aK;clear aJ aK eR))
       have gS:uc.heap.size<=gc:=by rcases eJ with e | e;omega;simp at e;omega
       have cV:Below uc.heap.size uc yA:=cZ.trans (((quc ud (.cells #[.int .u8 ((i:Int)+3)] 5)).mono (by omega)).trans (jJX cW.out (by simp;omega) (fun x e=>by have e:gc=x:=Option.some.inj e;omega)));have lk:=(bC.out.lt kk rfl).1;have aZ:=JVt bC.out;have cK:=(XjE (xs:=xb++[(i:Int)+3]) (by rw [List.map_append];exact bC.out) (by rw [List.length_append,eF.out];rfl) (fun x hx=>by rcases List.mem_append.1 hx with h | h;exact eB.out x h;rw [List.mem_singleton.1 h];omega)).mono (G:=fun b=>b≠R/\b≠g) (fun b _ k=>by omega);have S2:=S.below cV;have bY:=hid (And.intro cK (And.intro S2 aZ));clear cK S2 S CB dJ bC cW cV cZ dL aZ aH bZ;go_roundw
       case rel=>exact ⟨i+1,n1+1,bW,some ⟨kk,0,none⟩,q2,ss.set ka s,by omega,by first | go_num | (congr 1;omega),rfl,bY.out.2.2,by omega,bY.out.1,by omega,by omega,by rw [List.length_set];exact aO.out,HD.out.at ka s (by omega),bY.out.2.1⟩
       case measure=>simp [intOf];omega
      ·have gK:¬ ((s.size:Int)=64):=by omega
       go_upto_region 17 with fail;obtain ⟨uc,dK⟩:∃ x,x=uu:=⟨_,rfl⟩;rw [<-dK] at S CB ⊢;clear dK;have aH:=S.lg;have bZ:R<uc.heap.size:=ykG S.rd.pc;obtain ⟨xb,cC,dN,cY⟩:=qVz (P:=Tryz.prog) CB.now 22 5 Tryz.underlying22 c1;have dL:=hid cY;have eB:=hid dN;have eF:=hid cC;clear cY dN cC;have HO:Hid ((uc.alloc (.cells #[] 5)).ownsRow uc.heap.size 5 1 (.slice (some ⟨uc.heap.size,0,none⟩) 0 0) 0 []):=hid (World.ownsRow_lit _ #[] 0 (by omega) (by simp) (by simp));have fX:IntKind.i64.wrap ((i:Int)+3)=(i:Int)+3:=vRg _ (by omega) (by omega);have gI:IntKind.u8.wrap ((i:Int)+3)=(i:Int)+3
       :=by
         have:i=0\/i=1:=by omega
         rcases this with rfl | rfl<;>decide
       have fQ:IntKind.i64.wrap ((i:Int)+1)=(i:Int)+1:=vRg _ (by omega) (by omega)
       go_wp2_with (first | (at_builtin;refine y29 rfl _ _ 22 rfl 5 i0 (.int .u8 0) 1 1 Tryz.underlying22 HI.out.1 HI.out.2.1 HI.out.2.2.1 HI.out.2.2.2 rfl uc.heap.size uc.heap.size rfl HO.out _ rfl n1 _ (dL.out _ (quc uc _)) (by omega) (by omega) (by simp) ?_;intro gc eL ud aI eJ bV;have dJ:=hid (jcb aI (quc ud (.cells #[.int .u8 ((i:Int)+3)] 5)));have gD:uc.heap.size+1<=ud.heap.size:=(by have:=bV.size;simpa using this);have cZ:Below uc.heap.size uc ud:=(quc uc (.cells #[] 5)).trans (bV.mono (by simp));clear aI bV) | (at_builtin;refine WAL _ rfl _ _ 22 rfl uc.heap.size Tryz.underlying22 HI.out rfl (by omega) _ n1 _ rfl dJ.out ⟨ud.heap.size,0,none⟩ 1 1 [.int .u8 ((i:Int)+3)] rfl rfl (World.news_of_block (heap_alloc_new ud _)) (by intro u hu;simp at hu;subst hu;rfl) (by simp;omega) (ud.heap.size+1) (by simp) ?_;intro kk bW yA aJ aK eR eC;have bC:=hid aJ;have cW:=hid aK;clear aJ aK eR))
       have gS:uc.heap.size<=gc:=by rcases eJ with e | e;omega;simp at e;omega
       have cV:Below uc.heap.size uc yA:=cZ.trans (((quc ud (.cells #[.int .u8 ((i:Int)+3)] 5)).mono (by omega)).trans (jJX cW.out (by simp;omega) (fun x e=>by have e:gc=x:=Option.some.inj e;omega)));have lk:=(bC.out.lt kk rfl).1;have aZ:=JVt bC.out;have cK:=(XjE (xs:=xb++[(i:Int)+3]) (by rw [List.map_append];exact bC.out) (by rw [List.length_append,eF.out];rfl) (fun x hx=>by rcases List.mem_append.1 hx with h | h;exact eB.out x h;rw [List.mem_singleton.1 h];omega)).mono (G:=fun b=>b≠R/\b≠g) (fun b _ k=>by omega);have S2:=S.below cV;have bY:=hid (And.intro cK (And.intro S2 aZ));clear cK S2 S CB dJ bC cW cV cZ dL aZ aH bZ;go_roundw
       case rel=>exact ⟨i+1,n1+1,bW,some ⟨kk,0,none⟩,q2,ss,by omega,by first | go_num | (congr 1;omega),rfl,bY.out.2.2,by omega,bY.out.1,by omega,by omega,aO.out,HD.out,bY.out.2.1⟩
       case measure=>simp [intOf];omega
    ·obtain rfl:i=2:=by omega
     go_wp2_with fail;go_meet;exact ⟨ss,q,by omega,by omega,aO.out,HD.out,S⟩
  | false =>
   go_wp2_with fail;go_meet;exact ⟨xs,p1+1,by omega,by omega,aO.out,HD.out,S⟩
 case rest =>
  clear S CB HD aO fE;obtain ⟨ss,q,q0,q1,cF,dH,S⟩:=hcut
  rename World=>wr
  have HD:=hid dH;have aO:=hid cF;clear dH cF;have gZ:q<99000000:=by omega
  go_wp2_with fail;refine (ZfV R a n' c' (q) 12 _ S.rd (by omega)).mono ?_;rintro e eY ⟨⟨y,rfl,y0,y1⟩,hr,hg⟩;replace S:=S.pick hr hg;clear hr hg y1
  by_cases hy:y=0
  ·subst hy
   have h1:=(yiG S.so ss.length (Nat.le_refl _)).now;rw [List.take_length] at h1;have h2:Wrs eY (some ⟨g',0,none⟩) xw:=OwnS.wrs (.inr ⟨g',rfl,kX5 S.wo⟩);have CS:=hid (yFR R a n' c' (q+1) (some ⟨g,0,none⟩) ss qc (some ⟨g',0,none⟩) xw aC eY S.rd (by omega) h1 h2 HD.out (by rw [aO.out];omega) gU.out);unfold Zoj at CS;clear h1 h2;have c0:=S.r6.cell 0 _ rfl;have c1:=S.r6.cell 1 _ rfl;have cl:=S.r6.lt;go_wp2_with fail;clear c0 c1 cl;refine CS.out.mono ?_;rintro e aP ⟨⟨s5,w5,k,sc,k',sc',rfl,dk,ho,hd⟩,-,hg⟩;have lv:=S.be.size;have h3:=S.h3;have h2:=S.h2;have lX:=S.r2.lt;have hE:=S.be.trans (jJX hg lv (fun x e=>by have e:=Option.some.inj e;omega));have r2:=S.r2.grown hg (fun e=>by injection e with e;omega);clear S CS hg;have f0:=r2.cell 0 _ rfl;have f1:=r2.cell 1 _ rfl;obtain ⟨f2,f3⟩:=r2.z2;have fl:=r2.lt;have aB:=ZpU (XGx aP X2 0 (.slice (some ⟨k,0,none⟩) s5.length sc)) (XGx _ X2 1 (.slice (some ⟨k',0,none⟩) w5.length sc'))
   have rX:=(r2.set 0 (by simp) (.slice (some ⟨k,0,none⟩) s5.length sc)).set 1 (by simp) (.slice (some ⟨k',0,none⟩) w5.length sc');have dY:=hE.trans (jJX aB hE.size (fun x e=>by have e:=Option.some.inj e;omega));have lk:=ho.lt k' rfl;have hw:=hid (OwnS.wrs (.inr ⟨k',rfl,kX5 (ho.kept aB (.inr (fun e=>by have e:=Option.some.inj e;(try dsimp only at e);omega)))⟩));have hs:=hid (hd.grown aB (fun x e q=>by have e:=Option.some.inj e;omega)).now;have eQ:=hid dk;clear ho hd dk aB r2 hE;unfold Zoj;go_wp2;have y0:=rX.cell 0 _ rfl;have y1:=rX.cell 1 _ rfl;exact bodyPost_ret (v:=.tuple #[.agg #[.slice (some ⟨k,0,none⟩) s5.length sc,.slice (some ⟨k',0,none⟩) w5.length sc'],.int .i64 wd]) (by simp [results,Tryz.results7,go_sem,y0,y1]) rfl ⟨⟨_,_,_,_,_,_,s5,w5,wd,rfl,hs.out,hw.out,rfl,rfl,eQ.out⟩,dY⟩
  ·go_wp2_with fail
   refine (ZfV R a n' c' (q+1) 12 _ S.rd (by omega)).mono ?_;rintro e aP ⟨⟨y2,rfl,iE,fV⟩,hr,hg⟩;replace S:=S.pick hr hg;clear hr hg fV;have h1:=(yiG S.so ss.length (Nat.le_refl _)).mono (G:=fun b=>b≠X2) (fun b _ q=>by have:=S.lg;have:=S.h3;omega);rw [List.take_length] at h1;have aE:=hid h1;clear h1
   by_cases gF:y2=0
   ·subst gF
    go_upto_region 21 with fail;have eU:=S.below ((Below.refl aP.heap.size aP).drew);refine wp_region_held_drew (S:=fun w'=>w'.cell? ⟨X6,0,none⟩=some (.slice (some ⟨g,0,none⟩) ss.length qc)/\w'.cell? ⟨X6,1,none⟩=some (.slice (some ⟨g',0,none⟩) xw.length aC)) (by kernel_rfl) (⟨eU.r6.cell 0 _ rfl,eU.r6.cell 1 _ rfl⟩) (fun b8=>?_);refine TY 0 (.agg #[.slice (some ⟨g,0,none⟩) ss.length qc,.slice (some ⟨g',0,none⟩) xw.length aC]) rfl b8 (TY 2 (.pointer (some ⟨R,0,none⟩)) rfl b8 ?_);simp only [PS];refine wpAnyH_ready (rs:=[1,3]) (by kernel_rfl) (by simp) ?_;refine AllReadyH.cons rfl (fun Kq aA=>?_) (AllReadyH.cons rfl (fun Kq aA=>?_) AllReadyH.nil)
    ·obtain ⟨u0,aM⟩:∃ y,y=aP.drew:=⟨_,rfl⟩
     rw [<-aM];have hT:Below aP.heap.size aP u0:=by rw [aM];exact (Below.refl _ _).drew
     replace S:=S.below hT;replace aE:=hid (aE.out.below hT);clear aM hT;go_simp;have hb:=quc u0 (.cells #[.int .i64 0,.int .i64 9,.int .i64 3] 3);have rg:=xER u0 #[.int .i64 0,.int .i64 9,.int .i64 3] 3;have lW:R<u0.heap.size:=ykG S.rd.pc;have cT:X2<u0.heap.size:=S.r2.lt;obtain ⟨G,aT⟩:∃ k,k=u0.heap.size:=⟨_,rfl⟩;have aX:G≠R/\G≠X2:=by omega
     replace S:=S.below hb;replace aE:=hid (aE.out.below hb);rw [<-aT] at rg ⊢;generalize aY:u0.alloc _=u1 at *;clear aY aT hb lW cT;refine aA.out _ _ (⟨S.r6.cell 0 _ rfl,S.r6.cell 1 _ rfl⟩) (fun eK=>?_)
     try simp only [PS]
     refine RD 3 rfl (fun Kq aA=>?_);refine XRf (by rfl) _ _ (by go_simp) (ZfV R a n' c' (q+1+1) 3 _ S.rd (by omega)) ?_;rintro e u3 ⟨⟨m',rfl,m0,m1⟩,hr,hg⟩;refine ⟨_,rfl,?_⟩;obtain ⟨m,rfl⟩:∃ m:Nat,m'=(m:Int):=⟨m'.toNat,by omega⟩;have hm:m<3:=by omega
     have nR:¬ (R≠X2/\False):=fun e=>e.2
     replace aE:=hid ((yiG S.so ss.length (Nat.le_refl _)).grown hg (fun x e k=>by have e:=Option.some.inj e;have:=S.lg;omega));replace S:=S.pick hr hg;replace rg:=rg.grown hg (fun e=>by injection e with e;exact aX.1 e);rw [List.take_length] at aE;replace aE:=hid (aE.out.mono (G:=fun b=>b≠X2) (fun b _ q=>by have:=S.lg;have:=S.h3;omega));have aL:R<u3.heap.size:=ykG S.rd.pc;clear hr hg nR m0 m1;refine aA.out _ _ (⟨S.r6.cell 0 _ rfl,S.r6.cell 1 _ rfl⟩) (fun bU=>?_)
     try simp only [PS]
     refine wpAnyH_ready (rs:=[4,6]) (by kernel_rfl) (by simp) ?_;refine AllReadyH.cons rfl (fun Kq aA=>?_) (AllReadyH.cons rfl (fun Kq aA=>?_) AllReadyH.nil)
     ·have aR:(m:Int)<3:=by omega
      have aU:¬ ((3:Int)<=(m:Int)):=by omega
      have aV:=rg.lt;go_simp;clear aR aU aV;refine aA.out _ _ bU (fun _=>?_)
      try simp only [PS]
      refine wpAnyH_ready (rs:=[5,6]) (by kernel_rfl) (by simp) ?_;refine AllReadyH.cons rfl (fun Kq aA=>?_) (AllReadyH.cons rfl (fun Kq aA=>?_) AllReadyH.nil)
      ·have aF:=Row.nth (l:=[0,9,3]) rg hm
       obtain ⟨z,aG⟩:∃ z,nth [0,9,3] m=z:=⟨_,rfl⟩;rw [aG] at aF;go_simp;clear aF aG;refine aA.out _ _ bU (fun _=>?_)
       try simp only [PS]
       refine RD 6 rfl (fun Kq aA=>?_);have f0:=S.r2.cell 0 _ rfl;have f1:=S.r2.cell 1 _ rfl;obtain ⟨f2,f3⟩:=S.r2.z2;have fl:=S.r2.lt;go_simp;clear f0 f1 f2 f3;have aB:=ZpU (XGx u3 X2 0 (.slice (some ⟨g,0,none⟩) ss.length qc)) (XGx _ X2 1 (.slice (some ⟨g',0,none⟩) xw.length aC));have rX:=(S.r2.set 0 (by simp) (.slice (some ⟨g,0,none⟩) ss.length qc)).set 1 (by simp) (.slice (some ⟨g',0,none⟩) xw.length aC);have h3:=S.h3;have h6:=S.h6;have h2:=S.h2;have aH:=S.lg;have r6:=S.r6.grown aB (fun e=>by injection e with e;omega);have hE:=S.be.trans (jJX aB S.be.size (fun x e=>by have e:=Option.some.inj e;omega));have aN:=hid (OwnS.wrs (.inr ⟨g',rfl,kX5 (S.wo.kept aB (.inr (fun e=>by have e:=Option.some.inj e;(try dsimp only at e);omega)))⟩));replace aE:=hid (aE.out.grown aB (fun x e k=>k (Option.some.inj e).symm));have aD:R<u3.heap.size:=ykG S.rd.pc;replace rg:=rg.grown aB (fun e=>by injection e with e;exact aX.2 e);clear aL
       have aL:R<((u3.setCell ⟨X2,0,none⟩ (.slice (some ⟨g,0,none⟩) ss.length qc)).setCell ⟨X2,1,none⟩ (.slice (some ⟨g',0,none⟩) xw.length aC)).heap.size:=by rw [World.size_setCell,World.size_setCell];exact aD
       generalize ((u3.setCell ⟨X2,0,none⟩ (.slice (some ⟨g,0,none⟩) ss.length qc)).setCell ⟨X2,1,none⟩ (.slice (some ⟨g',0,none⟩) xw.length aC))=u6 at *;clear aB h3 h6 h2 aH fl S aD;refine aA.out _ _ (⟨r6.cell 0 _ rfl,r6.cell 1 _ rfl⟩) (fun eG=>?_)
       try simp only [PS]
       refine RD 7 rfl (fun Kq aA=>?_);go_simp;refine aA.out _ _ eG (fun _=>?_)
       try simp only [PS]
       refine DN ?_;have y0:=rX.cell 0 _ rfl;have y1:=rX.cell 1 _ rfl;have yl:=rX.lt;go_wp2;exact bodyPost_ret (v:=.tuple #[.agg #[.slice (some ⟨g,0,none⟩) ss.length qc,.slice (some ⟨g',0,none⟩) xw.length aC],.int .i64 z]) (by simp [results,Tryz.results7,go_sem,y0,y1]) rfl ⟨⟨_,_,_,_,_,_,ss,xw,z,rfl,aE.out.now,aN.out,rfl,rfl,HD.out⟩,hE⟩
      ·have f0:=S.r2.cell 0 _ rfl
       have f1:=S.r2.cell 1 _ rfl;obtain ⟨f2,f3⟩:=S.r2.z2;have fl:=S.r2.lt;go_simp;clear f0 f1 f2 f3;have aB:=ZpU (XGx u3 X2 0 (.slice (some ⟨g,0,none⟩) ss.length qc)) (XGx _ X2 1 (.slice (some ⟨g',0,none⟩) xw.length aC));have rX:=(S.r2.set 0 (by simp) (.slice (some ⟨g,0,none⟩) ss.length qc)).set 1 (by simp) (.slice (some ⟨g',0,none⟩) xw.length aC);have h3:=S.h3;have h6:=S.h6;have h2:=S.h2;have aH:=S.lg;have r6:=S.r6.grown aB (fun e=>by injection e with e;omega);have hE:=S.be.trans (jJX aB S.be.size (fun x e=>by have e:=Option.some.inj e;omega));have aN:=hid (OwnS.wrs (.inr ⟨g',rfl,kX5 (S.wo.kept aB (.inr (fun e=>by have e:=Option.some.inj e;(try dsimp only at e);omega)))⟩));replace aE:=hid (aE.out.grown aB (fun x e k=>k (Option.some.inj e).symm));have aD:R<u3.heap.size:=ykG S.rd.pc;replace rg:=rg.grown aB (fun e=>by injection e with e;exact aX.2 e);clear aL;have aL:R<((u3.setCell ⟨X2,0,none⟩ (.slice (some ⟨g,0,none⟩) ss.length qc)).setCell ⟨X2,1,none⟩ (.slice (some ⟨g',0,none⟩) xw.length aC)).heap.size:=by rw [World.size_setCell,World.size_setCell];exact aD
       generalize ((u3.setCell ⟨X2,0,none⟩ (.slice (some ⟨g,0,none⟩) ss.length qc)).setCell ⟨X2,1,none⟩ (.slice (some ⟨g',0,none⟩) xw.length aC))=u6 at *;clear aB h3 h6 h2 aH fl S aD;refine aA.out _ _ (⟨r6.cell 0 _ rfl,r6.cell 1 _ rfl⟩) (fun cP=>?_)
       try simp only [PS]
       refine RD 5 rfl (fun Kq aA=>?_);have aF:=Row.nth (l:=[0,9,3]) rg hm;obtain ⟨z,aG⟩:∃ z,nth [0,9,3] m=z:=⟨_,rfl⟩;rw [aG] at aF;go_simp;clear aF aG;refine aA.out _ _ cP (fun _=>?_)
       try simp only [PS]
       refine RD 7 rfl (fun Kq aA=>?_);go_simp;refine aA.out _ _ cP (fun _=>?_)
       try simp only [PS]
       refine DN ?_;have y0:=rX.cell 0 _ rfl;have y1:=rX.cell 1 _ rfl;have yl:=rX.lt;go_wp2;exact bodyPost_ret (v:=.tuple #[.agg #[.slice (some ⟨g,0,none⟩) ss.length qc,.slice (some ⟨g',0,none⟩) xw.length aC],.int .i64 z]) (by simp [results,Tryz.results7,go_sem,y0,y1]) rfl ⟨⟨_,_,_,_,_,_,ss,xw,z,rfl,aE.out.now,aN.out,rfl,rfl,HD.out⟩,hE⟩
     ·have f0:=S.r2.cell 0 _ rfl
      have f1:=S.r2.cell 1 _ rfl;obtain ⟨f2,f3⟩:=S.r2.z2;have fl:=S.r2.lt;go_simp;clear f0 f1 f2 f3;have aB:=ZpU (XGx u3 X2 0 (.slice (some ⟨g,0,none⟩) ss.length qc)) (XGx _ X2 1 (.slice (some ⟨g',0,none⟩) xw.length aC));have rX:=(S.r2.set 0 (by simp) (.slice (some ⟨g,0,none⟩) ss.length qc)).set 1 (by simp) (.slice (some ⟨g',0,none⟩) xw.length aC);have h3:=S.h3;have h6:=S.h6;have h2:=S.h2;have aH:=S.lg;have r6:=S.r6.grown aB (fun e=>by injection e with e;omega);have hE:=S.be.trans (jJX aB S.be.size (fun x e=>by have e:=Option.some.inj e;omega));have aN:=hid (OwnS.wrs (.inr ⟨g',rfl,kX5 (S.wo.kept aB (.inr (fun e=>by have e:=Option.some.inj e;(try dsimp only at e);omega)))⟩));replace aE:=hid (aE.out.grown aB (fun x e k=>k (Option.some.inj e).symm));have aD:R<u3.heap.size:=ykG S.rd.pc;replace rg:=rg.grown aB (fun e=>by injection e with e;exact aX.2 e);clear aL;have aL:R<((u3.setCell ⟨X2,0,none⟩ (.slice (some ⟨g,0,none⟩) ss.length qc)).setCell ⟨X2,1,none⟩ (.slice (some ⟨g',0,none⟩) xw.length aC)).heap.size:=by rw [World.size_setCell,World.size_setCell];exact aD
      generalize ((u3.setCell ⟨X2,0,none⟩ (.slice (some ⟨g,0,none⟩) ss.length qc)).setCell ⟨X2,1,none⟩ (.slice (some ⟨g',0,none⟩) xw.length aC))=u6 at *;clear aB h3 h6 h2 aH fl S aD;refine aA.out _ _ (⟨r6.cell 0 _ rfl,r6.cell 1 _ rfl⟩) (fun aQ=>?_)
      try simp only [PS]
      refine RD 4 rfl (fun Kq aA=>?_);have aR:(m:Int)<3:=by omega
      have aU:¬ ((3:Int)<=(m:Int)):=by omega
      have aV:=rg.lt;go_simp;clear aR aU aV;refine aA.out _ _ aQ (fun _=>?_)
      try simp only [PS]
      refine RD 5 rfl (fun Kq aA=>?_);have aF:=Row.nth (l:=[0,9,3]) rg hm;obtain ⟨z,aG⟩:∃ z,nth [0,9,3] m=z:=⟨_,rfl⟩;rw [aG] at aF;go_simp;clear aF aG;refine aA.out _ _ aQ (fun _=>?_)
      try simp only [PS]
      refine RD 7 rfl (fun Kq aA=>?_);go_simp;refine aA.out _ _ aQ (fun _=>?_)
      try simp only [PS]
      refine DN ?_;have y0:=rX.cell 0 _ rfl;have y1:=rX.cell 1 _ rfl;have yl:=rX.lt;go_wp2;exact bodyPost_ret (v:=.tuple #[.agg #[.slice (some ⟨g,0,none⟩) ss.length qc,.slice (some ⟨g',0,none⟩) xw.length aC],.int .i64 z]) (by simp [results,Tryz.results7,go_sem,y0,y1]) rfl ⟨⟨_,_,_,_,_,_,ss,xw,z,rfl,aE.out.now,aN.out,rfl,rfl,HD.out⟩,hE⟩
    ·obtain ⟨u0,aM⟩:∃ y,y=aP.drew:=⟨_,rfl⟩
     rw [<-aM];have hT:Below aP.heap.size aP u0:=by rw [aM];exact (Below.refl _ _).drew
     replace S:=S.below hT;replace aE:=hid (aE.out.below hT);clear aM hT;refine XRf (by rfl) _ _ (by go_simp) (ZfV R a n' c' (q+1+1) 3 _ S.rd (by omega)) ?_;rintro e u3 ⟨⟨m',rfl,m0,m1⟩,hr,hg⟩;refine ⟨_,rfl,?_⟩;obtain ⟨m,rfl⟩:∃ m:Nat,m'=(m:Int):=⟨m'.toNat,by omega⟩;have hm:m<3:=by omega
     have nR:¬ (R≠X2/\False):=fun e=>e.2
     replace aE:=hid ((yiG S.so ss.length (Nat.le_refl _)).grown hg (fun x e k=>by have e:=Option.some.inj e;have:=S.lg;omega));replace S:=S.pick hr hg;rw [List.take_length] at aE;replace aE:=hid (aE.out.mono (G:=fun b=>b≠X2) (fun b _ q=>by have:=S.lg;have:=S.h3;omega));have aL:R<u3.heap.size:=ykG S.rd.pc;clear hr hg nR m0 m1;refine aA.out _ _ (⟨S.r6.cell 0 _ rfl,S.r6.cell 1 _ rfl⟩) (fun fA=>?_)
     try simp only [PS]
     refine wpAnyH_ready (rs:=[1,6]) (by kernel_rfl) (by simp) ?_;refine AllReadyH.cons rfl (fun Kq aA=>?_) (AllReadyH.cons rfl (fun Kq aA=>?_) AllReadyH.nil)
     ·go_simp
      have hb:=quc u3 (.cells #[.int .i64 0,.int .i64 9,.int .i64 3] 3);have rg:=xER u3 #[.int .i64 0,.int .i64 9,.int .i64 3] 3;have lW:R<u3.heap.size:=ykG S.rd.pc;have cT:X2<u3.heap.size:=S.r2.lt;obtain ⟨G,aT⟩:∃ k,k=u3.heap.size:=⟨_,rfl⟩;have aX:G≠R/\G≠X2:=by omega
      replace S:=S.below hb;replace aE:=hid (aE.out.below hb);rw [<-aT] at rg ⊢;generalize aY:u3.alloc _=u1 at *;clear aY aT hb lW cT;refine aA.out _ _ (⟨S.r6.cell 0 _ rfl,S.r6.cell 1 _ rfl⟩) (fun bQ=>?_)
      try simp only [PS]
      refine wpAnyH_ready (rs:=[4,6]) (by kernel_rfl) (by simp) ?_;refine AllReadyH.cons rfl (fun Kq aA=>?_) (AllReadyH.cons rfl (fun Kq aA=>?_) AllReadyH.nil)
      ·have aR:(m:Int)<3:=by omega
       have aU:¬ ((3:Int)<=(m:Int)):=by omega
       have aV:=rg.lt;go_simp;clear aR aU aV;refine aA.out _ _ bQ (fun _=>?_)
       try simp only [PS]
       refine wpAnyH_ready (rs:=[5,6]) (by kernel_rfl) (by simp) ?_;refine AllReadyH.cons rfl (fun Kq aA=>?_) (AllReadyH.cons rfl (fun Kq aA=>?_) AllReadyH.nil)
       ·have aF:=Row.nth (l:=[0,9,3]) rg hm
        obtain ⟨z,aG⟩:∃ z,nth [0,9,3] m=z:=⟨_,rfl⟩;rw [aG] at aF;go_simp;clear aF aG;refine aA.out _ _ bQ (fun _=>?_)
        try simp only [PS]
        refine RD 6 rfl (fun Kq aA=>?_);have f0:=S.r2.cell 0 _ rfl;have f1:=S.r2.cell 1 _ rfl;obtain ⟨f2,f3⟩:=S.r2.z2;have fl:=S.r2.lt;go_simp;clear f0 f1 f2 f3;have aB:=ZpU (XGx u1 X2 0 (.slice (some ⟨g,0,none⟩) ss.length qc)) (XGx _ X2 1 (.slice (some ⟨g',0,none⟩) xw.length aC));have rX:=(S.r2.set 0 (by simp) (.slice (some ⟨g,0,none⟩) ss.length qc)).set 1 (by simp) (.slice (some ⟨g',0,none⟩) xw.length aC);have h3:=S.h3;have h6:=S.h6;have h2:=S.h2;have aH:=S.lg;have r6:=S.r6.grown aB (fun e=>by injection e with e;omega);have hE:=S.be.trans (jJX aB S.be.size (fun x e=>by have e:=Option.some.inj e;omega));have aN:=hid (OwnS.wrs (.inr ⟨g',rfl,kX5 (S.wo.kept aB (.inr (fun e=>by have e:=Option.some.inj e;(try dsimp only at e);omega)))⟩));replace aE:=hid (aE.out.grown aB (fun x e k=>k (Option.some.inj e).symm));have aD:R<u1.heap.size:=ykG S.rd.pc;replace rg:=rg.grown aB (fun e=>by injection e with e;exact aX.2 e);clear aL
        have aL:R<((u1.setCell ⟨X2,0,none⟩ (.slice (some ⟨g,0,none⟩) ss.length qc)).setCell ⟨X2,1,none⟩ (.slice (some ⟨g',0,none⟩) xw.length aC)).heap.size:=by rw [World.size_setCell,World.size_setCell];exact aD
        generalize ((u1.setCell ⟨X2,0,none⟩ (.slice (some ⟨g,0,none⟩) ss.length qc)).setCell ⟨X2,1,none⟩ (.slice (some ⟨g',0,none⟩) xw.length aC))=u6 at *;clear aB h3 h6 h2 aH fl S aD;refine aA.out _ _ (⟨r6.cell 0 _ rfl,r6.cell 1 _ rfl⟩) (fun cL=>?_)
        try simp only [PS]
        refine RD 7 rfl (fun Kq aA=>?_);go_simp;refine aA.out _ _ cL (fun _=>?_)
        try simp only [PS]
        refine DN ?_;have y0:=rX.cell 0 _ rfl;have y1:=rX.cell 1 _ rfl;have yl:=rX.lt;go_wp2;exact bodyPost_ret (v:=.tuple #[.agg #[.slice (some ⟨g,0,none⟩) ss.length qc,.slice (some ⟨g',0,none⟩) xw.length aC],.int .i64 z]) (by simp [results,Tryz.results7,go_sem,y0,y1]) rfl ⟨⟨_,_,_,_,_,_,ss,xw,z,rfl,aE.out.now,aN.out,rfl,rfl,HD.out⟩,hE⟩
       ·have f0:=S.r2.cell 0 _ rfl
        have f1:=S.r2.cell 1 _ rfl;obtain ⟨f2,f3⟩:=S.r2.z2;have fl:=S.r2.lt;go_simp;clear f0 f1 f2 f3;have aB:=ZpU (XGx u1 X2 0 (.slice (some ⟨g,0,none⟩) ss.length qc)) (XGx _ X2 1 (.slice (some ⟨g',0,none⟩) xw.length aC));have rX:=(S.r2.set 0 (by simp) (.slice (some ⟨g,0,none⟩) ss.length qc)).set 1 (by simp) (.slice (some ⟨g',0,none⟩) xw.length aC);have h3:=S.h3;have h6:=S.h6;have h2:=S.h2;have aH:=S.lg;have r6:=S.r6.grown aB (fun e=>by injection e with e;omega);have hE:=S.be.trans (jJX aB S.be.size (fun x e=>by have e:=Option.some.inj e;omega));have aN:=hid (OwnS.wrs (.inr ⟨g',rfl,kX5 (S.wo.kept aB (.inr (fun e=>by have e:=Option.some.inj e;(try dsimp only at e);omega)))⟩));replace aE:=hid (aE.out.grown aB (fun x e k=>k (Option.some.inj e).symm));have aD:R<u1.heap.size:=ykG S.rd.pc;replace rg:=rg.grown aB (fun e=>by injection e with e;exact aX.2 e);clear aL;have aL:R<((u1.setCell ⟨X2,0,none⟩ (.slice (some ⟨g,0,none⟩) ss.length qc)).setCell ⟨X2,1,none⟩ (.slice (some ⟨g',0,none⟩) xw.length aC)).heap.size:=by rw [World.size_setCell,World.size_setCell];exact aD
        generalize ((u1.setCell ⟨X2,0,none⟩ (.slice (some ⟨g,0,none⟩) ss.length qc)).setCell ⟨X2,1,none⟩ (.slice (some ⟨g',0,none⟩) xw.length aC))=u6 at *;clear aB h3 h6 h2 aH fl S aD;refine aA.out _ _ (⟨r6.cell 0 _ rfl,r6.cell 1 _ rfl⟩) (fun bG=>?_)
        try simp only [PS]
        refine RD 5 rfl (fun Kq aA=>?_);have aF:=Row.nth (l:=[0,9,3]) rg hm;obtain ⟨z,aG⟩:∃ z,nth [0,9,3] m=z:=⟨_,rfl⟩;rw [aG] at aF;go_simp;clear aF aG;refine aA.out _ _ bG (fun _=>?_)
        try simp only [PS]
        refine RD 7 rfl (fun Kq aA=>?_);go_simp;refine aA.out _ _ bG (fun _=>?_)
        try simp only [PS]
        refine DN ?_;have y0:=rX.cell 0 _ rfl;have y1:=rX.cell 1 _ rfl;have yl:=rX.lt;go_wp2;exact bodyPost_ret (v:=.tuple #[.agg #[.slice (some ⟨g,0,none⟩) ss.length qc,.slice (some ⟨g',0,none⟩) xw.length aC],.int .i64 z]) (by simp [results,Tryz.results7,go_sem,y0,y1]) rfl ⟨⟨_,_,_,_,_,_,ss,xw,z,rfl,aE.out.now,aN.out,rfl,rfl,HD.out⟩,hE⟩
      ·have f0:=S.r2.cell 0 _ rfl
       have f1:=S.r2.cell 1 _ rfl;obtain ⟨f2,f3⟩:=S.r2.z2;have fl:=S.r2.lt;go_simp;clear f0 f1 f2 f3;have aB:=ZpU (XGx u1 X2 0 (.slice (some ⟨g,0,none⟩) ss.length qc)) (XGx _ X2 1 (.slice (some ⟨g',0,none⟩) xw.length aC));have rX:=(S.r2.set 0 (by simp) (.slice (some ⟨g,0,none⟩) ss.length qc)).set 1 (by simp) (.slice (some ⟨g',0,none⟩) xw.length aC);have h3:=S.h3;have h6:=S.h6;have h2:=S.h2;have aH:=S.lg;have r6:=S.r6.grown aB (fun e=>by injection e with e;omega);have hE:=S.be.trans (jJX aB S.be.size (fun x e=>by have e:=Option.some.inj e;omega));have aN:=hid (OwnS.wrs (.inr ⟨g',rfl,kX5 (S.wo.kept aB (.inr (fun e=>by have e:=Option.some.inj e;(try dsimp only at e);omega)))⟩));replace aE:=hid (aE.out.grown aB (fun x e k=>k (Option.some.inj e).symm));have aD:R<u1.heap.size:=ykG S.rd.pc;replace rg:=rg.grown aB (fun e=>by injection e with e;exact aX.2 e);clear aL;have aL:R<((u1.setCell ⟨X2,0,none⟩ (.slice (some ⟨g,0,none⟩) ss.length qc)).setCell ⟨X2,1,none⟩ (.slice (some ⟨g',0,none⟩) xw.length aC)).heap.size:=by rw [World.size_setCell,World.size_setCell];exact aD
       generalize ((u1.setCell ⟨X2,0,none⟩ (.slice (some ⟨g,0,none⟩) ss.length qc)).setCell ⟨X2,1,none⟩ (.slice (some ⟨g',0,none⟩) xw.length aC))=u6 at *;clear aB h3 h6 h2 aH fl S aD;refine aA.out _ _ (⟨r6.cell 0 _ rfl,r6.cell 1 _ rfl⟩) (fun aS=>?_)
       try simp only [PS]
       refine RD 4 rfl (fun Kq aA=>?_);have aR:(m:Int)<3:=by omega
       have aU:¬ ((3:Int)<=(m:Int)):=by omega
       have aV:=rg.lt;go_simp;clear aR aU aV;refine aA.out _ _ aS (fun _=>?_)
       try simp only [PS]
       refine RD 5 rfl (fun Kq aA=>?_);have aF:=Row.nth (l:=[0,9,3]) rg hm;obtain ⟨z,aG⟩:∃ z,nth [0,9,3] m=z:=⟨_,rfl⟩;rw [aG] at aF;go_simp;clear aF aG;refine aA.out _ _ aS (fun _=>?_)
       try simp only [PS]
       refine RD 7 rfl (fun Kq aA=>?_);go_simp;refine aA.out _ _ aS (fun _=>?_)
       try simp only [PS]
       refine DN ?_;have y0:=rX.cell 0 _ rfl;have y1:=rX.cell 1 _ rfl;have yl:=rX.lt;go_wp2;exact bodyPost_ret (v:=.tuple #[.agg #[.slice (some ⟨g,0,none⟩) ss.length qc,.slice (some ⟨g',0,none⟩) xw.length aC],.int .i64 z]) (by simp [results,Tryz.results7,go_sem,y0,y1]) rfl ⟨⟨_,_,_,_,_,_,ss,xw,z,rfl,aE.out.now,aN.out,rfl,rfl,HD.out⟩,hE⟩
     ·have f0:=S.r2.cell 0 _ rfl
      have f1:=S.r2.cell 1 _ rfl;obtain ⟨f2,f3⟩:=S.r2.z2;have fl:=S.r2.lt;go_simp;clear f0 f1 f2 f3;have aB:=ZpU (XGx u3 X2 0 (.slice (some ⟨g,0,none⟩) ss.length qc)) (XGx _ X2 1 (.slice (some ⟨g',0,none⟩) xw.length aC));have rX:=(S.r2.set 0 (by simp) (.slice (some ⟨g,0,none⟩) ss.length qc)).set 1 (by simp) (.slice (some ⟨g',0,none⟩) xw.length aC);have h3:=S.h3;have h6:=S.h6;have h2:=S.h2;have aH:=S.lg;have r6:=S.r6.grown aB (fun e=>by injection e with e;omega);have hE:=S.be.trans (jJX aB S.be.size (fun x e=>by have e:=Option.some.inj e;omega));have aN:=hid (OwnS.wrs (.inr ⟨g',rfl,kX5 (S.wo.kept aB (.inr (fun e=>by have e:=Option.some.inj e;(try dsimp only at e);omega)))⟩));replace aE:=hid (aE.out.grown aB (fun x e k=>k (Option.some.inj e).symm));have aD:R<u3.heap.size:=ykG S.rd.pc;clear aL;have aL:R<((u3.setCell ⟨X2,0,none⟩ (.slice (some ⟨g,0,none⟩) ss.length qc)).setCell ⟨X2,1,none⟩ (.slice (some ⟨g',0,none⟩) xw.length aC)).heap.size:=by rw [World.size_setCell,World.size_setCell];exact aD
      generalize ((u3.setCell ⟨X2,0,none⟩ (.slice (some ⟨g,0,none⟩) ss.length qc)).setCell ⟨X2,1,none⟩ (.slice (some ⟨g',0,none⟩) xw.length aC))=u6 at *;clear aB h3 h6 h2 aH fl S aD;refine aA.out _ _ (⟨r6.cell 0 _ rfl,r6.cell 1 _ rfl⟩) (fun eW=>?_)
      try simp only [PS]
      refine RD 1 rfl (fun Kq aA=>?_);go_simp;have hb:=quc u6 (.cells #[.int .i64 0,.int .i64 9,.int .i64 3] 3);have rg:=xER u6 #[.int .i64 0,.int .i64 9,.int .i64 3] 3;have lW:R<u6.heap.size:=aL;have cT:X2<u6.heap.size:=rX.lt;obtain ⟨G,aT⟩:∃ k,k=u6.heap.size:=⟨_,rfl⟩;have aX:G≠R/\G≠X2:=by omega
      replace aE:=hid (aE.out.below hb);replace rX:=rX.below hb;replace r6:=r6.below hb;replace hE:=hE.trans (hb.mono hE.size);replace aN:=hid (aN.out.below hb);rw [<-aT] at rg ⊢;generalize aY:u6.alloc _=u1 at *;clear aY aT hb lW cT;refine aA.out _ _ (⟨r6.cell 0 _ rfl,r6.cell 1 _ rfl⟩) (fun aW=>?_)
      try simp only [PS]
      refine RD 4 rfl (fun Kq aA=>?_);have aR:(m:Int)<3:=by omega
      have aU:¬ ((3:Int)<=(m:Int)):=by omega
      have aV:=rg.lt;go_simp;clear aR aU aV;refine aA.out _ _ aW (fun _=>?_)
      try simp only [PS]
      refine RD 5 rfl (fun Kq aA=>?_);have aF:=Row.nth (l:=[0,9,3]) rg hm;obtain ⟨z,aG⟩:∃ z,nth [0,9,3] m=z:=⟨_,rfl⟩;rw [aG] at aF;go_simp;clear aF aG;refine aA.out _ _ aW (fun _=>?_)
      try simp only [PS]
      refine RD 7 rfl (fun Kq aA=>?_);go_simp;refine aA.out _ _ aW (fun _=>?_)
      try simp only [PS]
      refine DN ?_;have y0:=rX.cell 0 _ rfl;have y1:=rX.cell 1 _ rfl;have yl:=rX.lt;go_wp2;exact bodyPost_ret (v:=.tuple #[.agg #[.slice (some ⟨g,0,none⟩) ss.length qc,.slice (some ⟨g',0,none⟩) xw.length aC],.int .i64 z]) (by simp [results,Tryz.results7,go_sem,y0,y1]) rfl ⟨⟨_,_,_,_,_,_,ss,xw,z,rfl,aE.out.now,aN.out,rfl,rfl,HD.out⟩,hE⟩
   ·
    have c0:=S.r6.cell 0 _ rfl;have c1:=S.r6.cell 1 _ rfl;have cl:=S.r6.lt;have r2:=S.r2;have h3:=S.h3;have h6:=S.h6;have h2:=S.h2;have aH:=S.lg;have hE:=S.be;have f0:=r2.cell 0 _ rfl;have f1:=r2.cell 1 _ rfl;obtain ⟨f2,f3⟩:=r2.z2;have fl:=r2.lt;have aB:=ZpU (XGx aP X2 0 (.slice (some ⟨g,0,none⟩) ss.length qc)) (XGx _ X2 1 (.slice (some ⟨g',0,none⟩) xw.length aC));have rX:=(r2.set 0 (by simp) (.slice (some ⟨g,0,none⟩) ss.length qc)).set 1 (by simp) (.slice (some ⟨g',0,none⟩) xw.length aC);have dY:=hE.trans (jJX aB hE.size (fun x e=>by have e:=Option.some.inj e;omega));have hw:=hid (OwnS.wrs (.inr ⟨g',rfl,kX5 (S.wo.kept aB (.inr (fun e=>by have e:=Option.some.inj e;(try dsimp only at e);omega)))⟩));have hs:=hid (aE.out.grown aB (fun x e k=>k (Option.some.inj e).symm)).now;have eQ:=hid HD.out;clear aB r2 hE S aE;go_wp2;have y0:=rX.cell 0 _ rfl;have y1:=rX.cell 1 _ rfl;exact bodyPost_ret (v:=.tuple #[.agg #[.slice (some ⟨g,0,none⟩) ss.length qc,.slice (some ⟨g',0,none⟩) xw.length aC],.int .i64 wd]) (by simp [results,Tryz.results7,go_sem,y0,y1]) rfl ⟨⟨_,_,_,_,_,_,ss,xw,wd,rfl,hs.out,hw.out,rfl,rfl,eQ.out⟩,dY⟩
structure Dz (w:World) (a a':Option Addr) (ws:List WrT):Prop where
 s:Strs w a z20
 p:Wrs w a' ws
theorem Dz.below {w w':World} {a a':Option Addr} {ws:List WrT} (h:Dz w a a' ws) (hb:Below w.heap.size w w'):Dz w' a a' ws:=⟨h.s.below hb,h.p.below hb⟩
def W01 (ws:List WrT):Prop:=ws.length<=100/\∀ x∈ws,(x.1=0\/x.1=1)/\x.2.size=64
theorem ZeR:W01 []:=⟨by simp,fun x hx=>by cases hx⟩
theorem Qsp {x:WrT} (h1:x.1=0\/x.1=1) (h2:x.2.size=64):W01 [x]:=⟨by simp,fun y hy=>by rw [List.mem_singleton.1 hy];exact ⟨h1,h2⟩⟩
theorem J7w {x y:WrT} (h:W01 [x]) (h1:y.1=0\/y.1=1) (h2:y.2.size=64):W01 [x,y]:=⟨by simp,fun z hz=>by
 simp only [List.mem_cons,List.not_mem_nil,or_false] at hz;rcases hz with rfl | rfl
 ·exact h.2 z (by simp)
 ·exact ⟨h1,h2⟩⟩
theorem XCv (w:World):Calls Tryz.prog 11 #[.int .i64 20] w fun e w'=>(∃ a c a' c',e=.returned (.agg #[.slice a 20 c,.slice a' 0 c'])/\Dz w' a a' [])/\Below w.heap.size w w':=by
 refine (vOE 20 w (by omega) (by omega)).mono ?_;rintro e w' ⟨g,c,a',c',rfl,hg,hr,hb⟩;exact ⟨⟨some ⟨g,0,none⟩,c,a',c',rfl,⟨OwnS.strs (.inr ⟨g,rfl,hr⟩),.inl rfl⟩⟩,hb⟩
theorem xCa {l:List WrT} (h:yaV l≠[]):l.length≠0:=fun e=>h (by rw [List.eq_nil_of_length_eq_zero e];rfl)
theorem Q53 {l:List ByteArray} (h:l.map Value.string≠[]):l.length≠0:=fun e=>h (by rw [List.eq_nil_of_length_eq_zero e];rfl)
theorem jVL (a:Option Addr) (c:Nat) (a':Option Addr) (c':Nat) (ws:List WrT) (q q':Nat) (x:WrT) (f cf:Nat) (w:World) (h:Dz w a a' ws) (hq:ws.length=q) (aC:q+1=q') (hw:W01 ws) (h1:x.1=0\/x.1=1) (h2:x.2.size=64) (hz:Row w f [.bool false,.int .i64 x.1,.string x.2]) (aF:1<=cf) :
  Calls Tryz.prog 10 #[.agg #[.slice a 20 c,.slice a' q c'],.slice (some ⟨f,0,none⟩) 1 cf,.int .i64 1] w fun e w'=>(∃ a1 c1 aA aB,e=.returned (.agg #[.slice a1 20 c1,.slice aA q' aB])/\DepF w' (fun b=>w.heap.size<=b) (fun W=>Dz W a1 aA (ws++[x])))/\Below w.heap.size w w':=by
 subst hq;subst aC
 have hO:Ops w (some ⟨f,0,none⟩) [(false,x)]:=.inr ⟨f,0,rfl,hz.lt,fun i hi=>by
  have:i=0:=by simpa using hi
  subst this
  exact ⟨hz.cell 0 _ rfl,hz.cell 1 _ rfl,hz.cell 2 _ rfl⟩⟩
 have e:=qbO a z20 c a' ws c' (some ⟨f,0,none⟩) [(false,x)] cf 1 w h.s h.p hO aF (by simp) (fun y hy=>by simp only [List.mem_singleton] at hy;subst hy;show x.2.size<=_;omega) (by rw [JR4];omega) (by have:=hw.1;omega) (fun s hs=>by rw [ZHr hs];decide) (fun y hy=>by have:=(hw.2 y hy).2;omega);rw [JML ws x hw.1 hw.2 h1 h2] at e;simp only [JR4,List.length_append,List.length_cons,List.length_nil,Nat.zero_add] at e;refine e.mono ?_;rintro r w' ⟨a1,c1,aA,aB,rfl,ho,g1,g2,hb⟩;have aE:∀ g,blk a1 z20.length=some g->w.heap.size<=g:=by rw [JR4];exact g1
 have aD:∀ g,blk aA (ws++[x]).length=some g->w.heap.size<=g:=by rw [List.length_append];exact g2
 have d1:=xat (F:=fun b=>w.heap.size<=b) (JKD (lo:=w.heap.size) ho.s Q53 aE) (fun b h _=>h);have d2:=xat (F:=fun b=>w.heap.size<=b) (JKD (lo:=w.heap.size) ho.p xCa aD) (fun b h _=>h);exact ⟨⟨a1,c1,aA,aB,rfl,(d1.and d2).map fun W k=>⟨k.1.strs,k.2.wrs⟩⟩,hb⟩
theorem qwi (a:Option Addr) (c:Nat) (a':Option Addr) (c':Nat) (ws:List WrT) (q:Nat) (n:Int) (x:RtT) (w:World) (h:Dz w a a' ws) (hq:ws.length=q) (hw:W01 ws) (hx:frD z20 ws n=x) (ty:TypeId) (v:Value) (hG:w.cell? ⟨1,0,none⟩=some (.iface ty v)/\w.cell? ⟨0,0,none⟩=some (.iface 183 (.agg #[.pointer (some ⟨2,142,none⟩)]))/\1<w.heap.size) :
  Calls Tryz.prog 8 #[.agg #[.slice a 20 c,.slice a' q c'],.int .i64 n] w fun e w'=>e=.returned (.agg #[.int .i64 x.1,.int .i64 x.2.1,.int .i64 x.2.2.1,.int .i64 x.2.2.2])/\Below w.heap.size w w':=by
 have e:=yAY a z20 c a' ws c' n w h.s h.p (by rw [JR4];omega) (by have:=hw.1;omega) (fun s hs=>by rw [ZHr hs];decide) (fun y hy=>by have:=(hw.2 y hy).2;omega) ty v hG.1 hG.2.1 hG.2.2;rw [hx,JR4,hq] at e;exact e
theorem q7m (a:Option Addr) (n c:Nat) (a':Option Addr) (m c':Nat) (ss:List ByteArray) (ws:List WrT) (z:Int) (y1 y2 y3 y4:Int) (w:World) (h1:Strs w a ss) (h2:Wrs w a' ws) (hn:ss.length=n) (hm:ws.length=m) (hd:DkLe ss ws) (hx:frD ss ws z=(y1,y2,y3,y4)) (ty:TypeId) (v:Value) (hG:w.cell? ⟨1,0,none⟩=some (.iface ty v)/\w.cell? ⟨0,0,none⟩=some (.iface 183 (.agg #[.pointer (some ⟨2,142,none⟩)]))/\1<w.heap.size) :
  Calls Tryz.prog 8 #[.agg #[.slice a n c,.slice a' m c'],.int .i64 z] w fun e w'=>e=.returned (.agg #[.int .i64 y1,.int .i64 y2,.int .i64 y3,.int .i64 y4])/\Below w.heap.size w w':=by
 have e:=yAY a ss c a' ws c' z w h1 h2 (by have:=hd.1.1;omega) (by have:=hd.2.1;omega) (fun s hs=>by have:=hd.1.2 s hs;omega) (fun y hy=>by have:=hd.2.2 y hy;omega) ty v hG.1 hG.2.1 hG.2.2;rw [hx,hn,hm] at e;exact e
theorem zg5 (a:Option Addr) (n c:Nat) (a':Option Addr) (m c':Nat) (ss:List ByteArray) (ws:List WrT) (z:Int) (y1 y2 y3 y4:Int) (w:World) (h1:Strs w a ss) (h2:Wrs w a' ws) (hn:ss.length=n) (hm:ws.length=m) (hd:DkLe ss ws) (hx:frD ss ws z=(y1,y2,y3,y4)) :
  Calls Tryz.prog 9 #[.agg #[.slice a n c,.slice a' m c'],.int .i64 z] w fun e w'=>e=.returned (.agg #[.int .i64 y1,.int .i64 y2,.int .i64 y3,.int .i64 y4])/\Below w.heap.size w w':=by
 have e:=kLE a ss c a' ws c' z w h1 h2 (by have:=hd.1.1;omega) (by have:=hd.2.1;omega) (fun s hs=>by have:=hd.1.2 s hs;omega) (fun y hy=>by have:=hd.2.2 y hy;omega);rw [hx,hn,hm] at e;exact e
theorem z90 (s:ByteArray):s.toList.isEmpty=decide (s.size=0):=by
 rw [Bool.eq_iff_iff,List.isEmpty_iff,decide_eq_true_eq,ByteArray.toList_eq]
 constructor
 ·intro h
  show s.data.size=0;rw [<-Array.length_toList,h];rfl
 ·intro h
  exact List.eq_nil_of_length_eq_zero h
theorem yL8 {P:Program} {aC:Array Oper} {o:Oper} {a:Act} {w:World} {K:Act->World->Prop} {Q:Exit->Act->World->Prop} {E:Prop} (hw:Region.wanted o (yielded aC a.tmps)=true) (f:FuncId) (aA:Array Value)
  (aB:(execOp a.eval o).run P w=.ok (.enter f aA) w) {C:Ending->World->Prop} (hc:Calls P f aA w C) (h:∀ e w',C e w'->∃ v,e=.returned v/\K (a.put o.dst v) w') :
  if Region.wanted o (yielded aC a.tmps)=true then Oper.wp P o a w K Q else E:=by
 rw [if_pos hw];unfold Oper.wp;rw [aB,Oper.upon_enter]
 refine hc.mono fun e aD hh=>?_
 obtain ⟨v,rfl,hk⟩:=h e aD hh;exact hk
def RoY (vb wx:World) (yv:Value) (q:Nat) (ws:List WrT):Prop:=∃ (B:Nat) (a1:Option Addr) (c1:Nat) (aA:Option Addr) (aB:Nat),yv=.pointer (some ⟨B,0,none⟩)/\Below vb.heap.size vb wx/\Row wx B [.slice a1 20 c1,.slice aA q aB]/\Dz wx a1 aA ws
theorem vi7 {vb W y:World} {cs:Array Value} {ty:TypeId} (e:W.alloc (.cells cs ty)=y) (hT:Below vb.heap.size vb W):∃ B,W.heap.size=B/\Below W.heap.size W y/\Row y B cs.toList/\vb.heap.size<=B/\Below vb.heap.size vb y:=by
 subst e;exact ⟨_,rfl,quc _ _,xER _ _ _,hT.size,hT.trans ((quc _ _).mono hT.size)⟩
theorem JdK {vb W:World} {B q:Nat} {a1 aA:Option Addr} {c1 aB:Nat} {ws:List WrT} {u v:Value} (hT:Below vb.heap.size vb W) (hB:vb.heap.size<=B) (rB:Row W B [u,v]) (E4:DepF W (fun b=>b≠B) (fun X=>Dz X a1 aA ws)):RoY vb ((W.setCell ⟨B,0,none⟩ (.slice a1 20 c1)).setCell ⟨B,1,none⟩ (.slice aA q aB)) (.pointer (some ⟨B,0,none⟩)) q ws:=by
 have G:=ZpU (XGx W B 0 (.slice a1 20 c1)) (XGx (W.setCell ⟨B,0,none⟩ (.slice a1 20 c1)) B 1 (.slice aA q aB));exact ⟨B,a1,c1,aA,aB,rfl,hT.trans (jJX G hT.size (fun x e=>by have e:=Option.some.inj e;omega)),(rB.set 0 (by simp) _).set 1 (by simp) _,(E4.grown G (fun x e k=>k (Option.some.inj e).symm)).now⟩
end Go.Proofs.YtcdojnnkjeakmaaGreatDoor
