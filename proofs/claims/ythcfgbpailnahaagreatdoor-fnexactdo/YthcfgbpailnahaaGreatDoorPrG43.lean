import Derived.Deep.MidRow
import Derived.Lib.LazyBuf
import Derived.Test.YthcfgbpailnahaaGreatDoorPrG42
set_option maxHeartbeats 16000000
set_option maxRecDepth 8000
set_option linter.all false
namespace Go.Proofs.YthcfgbpailnahaaGreatDoor
open _root_.ByteArray(empty)
open Tryz
open Go.RowKit
variable {xs ys:List Int}{F o:Nat}{P:Program}{w w':World}
section
def OU(xs:List Int)(o:Nat)(ys:List Int):List Int:=xs.take o++ys++xs.drop (o+ys.length)
def df(xs:List Int)(o:Nat)(ys:List Int)(h:o+ys.length<=xs.length):(OU xs o ys).length=xs.length:=by
 simp[OU];omega
def Gq(xs:List Int)(o:Nat)(ys:List Int)(h:o+ys.length<=xs.length)(i:Nat)(hi:i<ys.length):(OU xs o ys).getD (o+i) 0=ys.getD i 0:=by
 have ho:(xs.take o).length=o:=by simp;omega
 unfold OU;rw[BB,BG,CJ (by omega),ho,show o+i-o=i by omega,AX hi,BB]
def Hw(xs:List Int)(o:Nat)(ys:List Int)(h:o+ys.length<=xs.length)(i:Nat)(hi:i<o\/o+ys.length<=i):(OU xs o ys).getD i 0=xs.getD i 0:=by
 have ho:(xs.take o).length=o:=by simp;omega
 unfold OU;rcases hi with hi|hi
 ·rw[BB,BG,AX (by omega),EM hi,BB]
 rw[BB,CJ (by simp;omega),AF,ho,EV,show o+ys.length+(i-(o+ys.length))=i by omega,BB]
structure Fm(w:World)(F:Nat)(xs:List Int):Prop where
 cell:∀i,i<xs.length->w.cell? ⟨F,i,none⟩=some (.int .u8 (xs.getD i 0))
 froz:∀i,i<xs.length->w.frozen? ⟨F,i,none⟩=false
def Fm.drew(h:Fm w F xs):Fm w.drew F xs:=⟨h.cell,h.froz⟩
def Fm.wrote(h:Fm w F xs)(hw:Wrote w w' F o ys)(hl:o+ys.length<=xs.length):Fm w' F (OU xs o ys):=by
 have aB:=df xs o ys hl;refine⟨λi hi=>?_,λi hi=>(hw.frozen _).j (h.froz i (by omega))⟩
 by_cases aA:o<=i/\i<o+ys.length
 ·have:=hw.inside (i-o) (by omega)
  rw[show o+(i-o)=i by omega]at this;rw[this];have e:=Gq xs o ys hl (i-o) (by omega);rw[show o+(i-o)=i by omega]at e;rw[e]
 rw[hw.outside i (by omega),h.cell i (by omega),Hw xs o ys hl i (by omega)]
def Fm.I(h:Fm w F xs)(hb:Below w.heap.size w w')(hF:F<w.heap.size):Fm w' F xs :=⟨λi hi=>(hb.cell (p:=⟨F,i,none⟩) hF).j (h.cell i hi),λi hi=>(hb.frozen (p:=⟨F,i,none⟩) hF).j (h.froz i hi)⟩
def TL(b:Nat):∀(vs:List Value) (o:Nat) (w:World),(w.setCells b o vs).heap.size=w.heap.size
 | [],_,_=>rfl
 | v::r,o,w=>by rw[World.setCells,TL b r];simp[World.setCell]
def dm(b:Nat):∀(vs:List Value) (o:Nat) (w:World) (k:Nat),k≠b->(w.setCells b o vs).heap[k]?=w.heap[k]?
 | [],_,_,_,_=>rfl
 | v::r,o,w,k,h=>by rw[World.setCells,dm b r _ _ _ h,BD _ _ _ _ h]
def WC(b:Nat):∀(vs:List Value) (o:Nat) (w:World),(w.setCells b o vs).os=w.os/\(w.setCells b o vs).tape=w.tape/\(w.setCells b o vs).output=w.output
 | [],_,_=>⟨rfl,rfl,rfl⟩
 | v::r,o,w=>by rw[World.setCells];exact WC b r (o+1) _
def nJ(w:World)(b o:Nat)(t:ByteArray)(hc:∀j,j<t.size->(w.cell? ⟨b,o+j,none⟩).isSome=true):Wrote w (w.setCells b o (t.data.toList.map λx=>Value.int .u8 (x.toNat:Int))) b o (LF t):=by
 have hl:(t.data.toList.map λx=>Value.int .u8 (x.toNat:Int)).length=t.size:=by simp
 obtain⟨h1,h2,h3⟩:=WC b (t.data.toList.map λx=>Value.int .u8 (x.toNat:Int)) o w;refine⟨h1,h2,h3,TL _ _ _ _,λk hk=>dm _ _ _ _ _ hk,λi hi=>?_,λx hx=>?_,λa=>EG _ _ _ _ _⟩
 ·rw[ML]at hi
  rw[JG b _ o w (by rw[hl];exact hc) i (by rw[hl];exact hi)];have hd:i<t.data.toList.length:=by simpa using hi
  simp[LF,List.getD,AM hd]
 rw[ML]at hx
 exact DL b _ o w ⟨b,x,none⟩ (λ_ _=>by rw[hl];simpa using hx)
def Fm.text(h:Fm w F xs)(aB e aA:TypeId)(hs:P.underlying aB=some (.slice e))(he:P.underlying e=some (.int .u8))(hd:P.underlying aA=some .string)(o n cap:Nat)(hl:o+n<=xs.length):(convert aB aA (.slice (some ⟨F,o,none⟩) n cap)).run P w=.ok (.string (strOfNums ((xs.drop o).take n))) w :=Za (P:=P) w aB e hs he F o n cap ((xs.drop o).take n) (by simp;omega) (λi hi=>by
  rw[h.cell (o+i) (by omega)]
  simp[List.getD,EM hi,EV]) aA hd
def Fm.step(h:Fm w F xs)(hx:xs.length=64)(hw:Wrote w w' F o ys)(hl:o+ys.length<=64):∃aA,Hid (aA=OU xs o ys)/\aA.length=64/\Fm w' F aA :=⟨OU xs o ys,(rfl:OU xs o ys=OU xs o ys),by rw[df _ _ _ (by omega),hx],h.wrote hw (by omega)⟩
def Fm.range(h:Fm w F xs):w.rangeAt F 0 (xs.map (Value.int .u8)):=λj v hv=>by
 obtain⟨hj,e⟩:=CA.1 hv;simp at hj;rw[BF,h.cell j hj];simp at e;subst e;simp[List.getD,AM hj]
structure PI(W w:World)(c0 c1 c2 c3:Value):Prop where
 size:W.heap.size+3<=w.heap.size
 bel:Below W.heap.size W w
 b0:w.cell? ⟨W.heap.size,0,none⟩=some c0
 b1:w.cell? ⟨W.heap.size,1,none⟩=some c1
 b2:w.cell? ⟨W.heap.size,2,none⟩=some c2
 b3:w.cell? ⟨W.heap.size,3,none⟩=some c3
 there:w.there (W.heap.size+1) 0 64
section
variable {W w w':World} {c0 c1 c2 c3:Value}
def PI.drew(h:PI W w c0 c1 c2 c3):PI W w.drew c0 c1 c2 c3:=⟨h.size,h.bel.drew,h.b0,h.b1,h.b2,h.b3,h.there⟩
def PI.I(h:PI W w c0 c1 c2 c3)(hb:Below w.heap.size w w'):PI W w' c0 c1 c2 c3 :=have hs:=h.size
 ⟨AL hs hb.size,h.bel.j (hb.i (by omega)),(hb.cell (p:=⟨_,0,none⟩) (by show W.heap.size<_;omega)).j h.b0,(hb.cell (p:=⟨_,1,none⟩) (by show W.heap.size<_;omega)).j h.b1,
  (hb.cell (p:=⟨_,2,none⟩) (by show W.heap.size<_;omega)).j h.b2,(hb.cell (p:=⟨_,3,none⟩) (by show W.heap.size<_;omega)).j h.b3,
  λj hj=>by rw[hb.cell (p:=⟨_,_,none⟩) (by show W.heap.size+1<_;omega),hb.frozen (p:=⟨_,_,none⟩) (by show W.heap.size+1<_;omega)];exact h.there j hj⟩
def PI.wrote(h:PI W w c0 c1 c2 c3)(hw:Wrote w w' (W.heap.size+1+1) o ys):PI W w' c0 c1 c2 c3 :=have hs:=h.size;have hb:Below (W.heap.size+1+1) w w':=hw.I (AA _)
 ⟨AL hs hb.size,h.bel.j (hb.i (by omega)),(hb.cell (p:=⟨_,0,none⟩) (by show W.heap.size<_;omega)).j h.b0,(hb.cell (p:=⟨_,1,none⟩) (by show W.heap.size<_;omega)).j h.b1,
  (hb.cell (p:=⟨_,2,none⟩) (by show W.heap.size<_;omega)).j h.b2,(hb.cell (p:=⟨_,3,none⟩) (by show W.heap.size<_;omega)).j h.b3,
  λj hj=>by rw[hb.cell (p:=⟨_,_,none⟩) (by show W.heap.size+1<_;omega),hb.frozen (p:=⟨_,_,none⟩) (by show W.heap.size+1<_;omega)];exact h.there j hj⟩
def PI.toS(h:PI W w c0 c1 c2 c3):w.cell? ⟨W.heap.size,0,none⟩=some c0/\w.cell? ⟨W.heap.size,1,none⟩=some c1/\w.cell? ⟨W.heap.size,2,none⟩=some c2/\w.cell? ⟨W.heap.size,3,none⟩=some c3/\PI W w c0 c1 c2 c3:=⟨h.b0,h.b1,h.b2,h.b3,h⟩
def PI.ofS(h:w.cell? ⟨W.heap.size,0,none⟩=some c0/\w.cell? ⟨W.heap.size,1,none⟩=some c1/\w.cell? ⟨W.heap.size,2,none⟩=some c2/\w.cell? ⟨W.heap.size,3,none⟩=some c3/\PI W w c0 c1 c2 c3):PI W w c0 c1 c2 c3:=h.2.2.2.2
end
def VN(w:World)(b o:Nat)(h:w.heap.size<=b):w.frozen? ⟨b,o,none⟩=false:=by
 have e:w.heap[b]?=none:=by simp[h]
 simp[World.frozen?,e]
def Cz{c:Code}{Q:Exit->Act->World->Prop}{a:Act}(w:World)(c0 c1 c2 c3:Value)(t1 t2 t3:TypeId)(A B:Array Value)(hA:A=Array.replicate 64 (.int .u8 0))(hB:B=Array.replicate 64 (.int .u8 0))
  (h:∀wa,PI w wa c0 c1 c2 c3->Fm wa (w.heap.size+1+1) (List.replicate 64 0)->c.wp P Q a wa):c.wp P Q a (((w.alloc (.cells #[c0,c1,c2,c3] t1)).alloc (.cells A t2)).alloc (.cells B t3)):=by
 subst hA hB
 have aA:∀(i:Nat) {v:Value},#[c0,c1,c2,c3][i]?=some v->(((w.alloc (.cells #[c0,c1,c2,c3] t1)).alloc (.cells (Array.replicate 64 (.int .u8 0)) t2)).alloc (.cells (Array.replicate 64 (.int .u8 0)) t3)).cell? ⟨w.heap.size,i,none⟩=some v:=λi v hv=>by
  rw[EK _ _ _ (by simp;omega),EK _ _ _ (by simp),DT _ _ _ _ rfl];exact hv
 refine h _ ⟨by simp,((LG _ _).alloc (by simp) _).alloc (by simp;omega) _,aA _ rfl,aA _ rfl,aA _ rfl,aA _ rfl,λj hj=>?_⟩ ⟨λi hi=>?_,λi hi=>?_⟩
 ·rw[BF,EK _ _ _ (by simp),DT _ _ _ _ (by simp),DH,DH,DH]
  simp[hj,VN]
 ·rw[DT _ _ _ _ (by simp)]
  have aB:i<64:=by simpa only[IF] using hi
  rw[Array.getElem?_replicate,AK aB,BB,FV,AK aB];rfl
 rw[DH,DH,DH]
 exact VN _ _ _ (by omega)
def qK{fn:Func}{p:Tmp}{ty:TypeId}(h:fn.results=#[.cell p ty])(tmps:Array Value)(w:World)(b o:Nat)(hp:tmps.getD p undef=.pointer (some ⟨b,o,none⟩))
  (cs:List Value)(d:TypeDesc)(hc:w.rangeAt b o cs)(hu:P.underlying ty=some d)(hd:d.isRow=true)(hi:(P.info? ty).map (·.size)=some cs.length):(results fn tmps).run P w=.ok (.agg cs.toArray) w:=by
 have hl:=JB (P:=P) w b o ty cs d hc hu hd hi;simp only[results,h];rw[Array.getD_eq_getD_getElem?]at hp;simp[hp,asAddr,hl]
def UA(xs:List Int):∀v∈xs.map (Value.int .u8),v.oneCell'=true:=λv hv=>by
 obtain⟨x,_,rfl⟩:=CE.1 hv;rfl
def Dl(xs ys:List Int)(n:Nat)(hn:ys.length=n):(OU xs 0 ys).drop n=xs.drop n:=by
 unfold OU;rw[FE,DU,BF,<-hn,List.drop_left]
def Fm.isSome(h:Fm w F xs)(o m:Nat)(hl:o+m<=xs.length):∀j,j<m->(w.cell? ⟨F,o+j,none⟩).isSome=true:=λj hj=>by
 rw[h.cell (o+j) (by omega)];rfl
def Fm.frozen(h:Fm w F xs)(o m:Nat)(hl:o+m<=xs.length):∀j,j<m->w.frozen? ⟨F,o+j,none⟩=false:=λj hj=>h.froz (o+j) (by omega)
def Fm.copied(h:Fm w F xs)(o:Nat)(t:ByteArray)(hl:o+t.size<=xs.length):Wrote w (w.setCells F o (t.data.toList.map λx=>Value.int .u8 (x.toNat:Int))) F o (LF t) :=nJ w F o t (h.isSome o t.size hl)
def de(A ys:List Int)(j o:Nat)(ho:A.length=o):OU (A++List.replicate j 0) o ys=A++ys++List.replicate (j-ys.length) 0:=by
 unfold OU;rw[JT (by omega),AT (by omega),<-ho,List.drop_length_add_append,List.drop_replicate]
def rM(k l m:Int)(p:ByteArray)(n:Nat)(h:n<=64){aA aB aC aD aE aF:List Int}(h0:aA=List.replicate 64 0)(h1:aB=OU aA n (be 1 k))(h2:aC=OU aB (n+1) (be 2 l))(h3:aD=OU aC (n+3) (be 4 m))
  (h4:aE=OU aD (n+7) (be 1 (p.size:Int)))(h5:aF=OU aE (n+8) (LF p)):aF=List.replicate n 0++UG k l m p n:=by
 have e0:aA=List.replicate n 0++List.replicate (64-n) 0:=by rw[h0,List.replicate_append_replicate];congr 1;omega
 rw[e0,de _ _ _ n (by simp)]at h1;rw[h1,de _ _ _ (n+1) (by simp[OK])]at h2;rw[h2,de _ _ _ (n+3) (by simp[OK])]at h3;rw[h3,de _ _ _ (n+7) (by simp[OK])]at h4;rw[h4]at h5;rw[h5,de _ _ _ (n+8) (by simp[OK])];unfold UG UZ;simp only[BG,OK,ML]
 congr 7
 omega
def su(a b:ByteArray):LF (a++b)=LF a++LF b:=by simp[LF]
def vK(xs:List Int)(h:∀x∈xs,0<=x/\x<256):LF (strOfNums xs)=xs:=by
 unfold LF;rw[strOfNums_data,IT]
 conv=>rhs;rw[<-List.map_id xs]
 apply GP
 intro x hx;have:=h x hx;simp only[Function.comp,id];rw[UInt8.toNat_ofNat'];omega
def fj(n:Nat)(v:Int):∀x∈be n v,0<=x/\x<256:=λx hx=>by
 unfold be at hx;obtain⟨i,_,rfl⟩:=CE.1 hx;omega
def yF(p:ByteArray):∀x∈LF p,0<=x/\x<256:=λx hx=>by
 unfold LF at hx;obtain⟨c,_,rfl⟩:=CE.1 hx;have:=c.toNat_lt;omega
def tV(k l m:Int)(p:ByteArray)(n:Nat):∀x∈UG k l m p n,0<=x/\x<256:=λx hx=>by
 unfold UG UZ at hx;simp only[BP,List.mem_replicate]at hx;rcases hx with ((((h|h)|h)|h)|h)|h
 ·exact fj _ _ x h
 ·exact fj _ _ x h
 ·exact fj _ _ x h
 ·exact fj _ _ x h
 ·exact yF _ x h
 omega
def uJ(k l m:Int)(p:ByteArray)(n:Nat)(h:p.size+n<=56){aA:List Int}{bt:ByteArray}{M:Nat}(hM:M=64-n)(h5:aA=List.replicate n 0++UG k l m p n)(hb:bt=strOfNums ((aA.drop n).take M)):bt=strOfNums (UG k l m p n)/\OU aA 0 (LF (RZ bt n))=LF (SI k l m p n):=by
 have hl:=zt k l m p n h
 have e1:bt=strOfNums (UG k l m p n):=by
  rw[hb,h5,JV (by simp),AT (by omega)]
 refine⟨e1,?_⟩;unfold OU SI;rw[<-e1,su,ML,fv,h5,FE,DU,BF,JV (by simp)]
 congr 1
 rw[e1,vK _ (tV k l m p n)]
def yU(w:World)(A:Array Value)(t:TypeId)(n:Nat)(v:Value)(hA:A=Array.replicate n v):(w.alloc (.cells A t)).there w.heap.size 0 n:=λj hj=>by
 subst hA;rw[BF,DT _ _ _ _ rfl,DH];exact⟨by simp[hj],VN _ _ _ (AA _)⟩
def mj{aC:Array Oper}{aA:List Oper}{op:Oper}{a:Act}{Q:Exit->Act->World->Prop}(aD:op.guard=none)(ty:TypeId)(x y:Operand)(ho:op.op=.store ty x y)
  (xs:List Int)(hx:a.eval x=.pointer (some ⟨w.heap.size,0,none⟩))(hy:a.eval y=.agg (xs.map (Value.int .u8)).toArray)(A:Array Value)(t:TypeId)(v:Value)(hA:A=Array.replicate xs.length v)
  (hi:(P.info? ty).map (·.size)=some xs.length)
  (h:∀wx,Fm wx w.heap.size xs->Below w.heap.size w wx->wx.heap.size=w.heap.size+1->wpList P aC Q aA (a.put op.dst undef) wx):wpList P aC Q (op::aA) a (w.alloc (.cells A t)):=by
 have aB:=yU w A t xs.length v hA;have hz:(xs.map (Value.int .u8)).toArray.size=xs.length:=by simp
 refine BI aD ty x y ho w.heap.size 0 _ hx hy (by rw[hz];exact aB) (by rw[hz];exact hi) (FQ (UA xs)) ?_;have hr:=DS (w.alloc (.cells A t)) w.heap.size 0 (xs.map (Value.int .u8)) (by rw[BJ];exact aB);refine h _ ⟨λi hi=>?_,λi hi=>?_⟩ (Go.below_setCells (AA _) _ _ _ (LG _ _)) (by rw[TL];simp)
 ·have:=hr i (.int .u8 (xs.getD i 0)) (by simp[List.getD,AM hi])
  simpa using this
 rw[EG,DH];exact VN _ _ _ (AA _)
end
set_option maxRecDepth 4000 in
def uu(k l m:Int)(p:ByteArray)(n:Nat)(w:World)(cH:NI k l m p n=true):Calls prog 238 #[NH k l m p,.int .i64 (n:Int)] w λe w'=>e=.returned (.agg ((LF (SI k l m p n)).map (Value.int .u8)).toArray)/\Below w.heap.size w w':=by
 have bQ:=AZ (by unfold NI at cH;exact cH);obtain⟨eF,eG,dU,dV,dZ,eB,eC,eE,hp,_⟩:=bQ
 have cJ:=λwx=>ik (P:=prog) (t:=168) underlying168 (λ_=>by kernel_rfl) (w.heap.size+1+1) 0 n (by omega) .i64 (n:Int) rfl wx
 rw[BF]at cJ;obtain⟨M,HM⟩:∃M,Hid (M=64-n):=⟨64-n,PA rfl⟩;rw[<-HM.o]at cJ;have cZ:(56:Int)<=(M:Int):=by have:=HM.o;omega
 have dB:(M:Int)<=63:=by have:=HM.o;omega
 have dH:(1:Int)<=(M:Int):=by omega
 have dL:(3:Int)<=(M:Int):=by omega
 have dM:(7:Int)<=(M:Int):=by omega
 have dN:(8:Int)<=(M:Int):=by omega
 have eI:IntKind.u64.wrap k=k:=VP k (by omega) (by omega);have eJ:IntKind.u64.wrap l=l:=VP l (by omega) (by omega);have eK:IntKind.u64.wrap m=m:=VP m (by omega) (by omega);have eL:IntKind.u64.wrap (p.size:Int)=(p.size:Int):=VP _ (by omega) (by omega);have dP:¬(M=1):=by omega
 have dQ:¬(M=3):=by omega
 have dR:¬(M=7):=by omega
 go_enter func238,ntmps238;go_wp2_with fail;refine Cz w (.int .i64 k) (.int .i64 l) (.int .i64 m) (.string p) _ _ _ _ _ rfl rfl ?_;intro wa cI bP;have aD:(List.replicate 64 (0:Int)).length=64:=by simp
 obtain⟨cP,cF⟩:∃cP,Hid (cP=List.replicate 64 (0:Int)):=⟨_,PA rfl⟩;rw[<-cF.o]at bP aD;have aH:=bP;have aW:=cI;clear bP cI;have bW:=PA aW.toS;clear aW
 go_region_held3 (λw'=>w'.cell? ⟨w.heap.size,0,none⟩=some (.int .i64 k)/\w'.cell? ⟨w.heap.size,1,none⟩=some (.int .i64 l)/\w'.cell? ⟨w.heap.size,2,none⟩=some (.int .i64 m)/\w'.cell? ⟨w.heap.size,3,none⟩=some (.string p)/\PI w w' (.int .i64 k) (.int .i64 l) (.int .i64 m) (.string p))
  (first|assumption|exact(PI.ofS bW.o).drew.toS|exact(PI.wrote (PI.ofS (by assumption)) (by assumption)).toS)
  (first|(go_at_call 236;refine(YP (w.heap.size+1+1) n 1 M k _ (by omega) (by omega) (by omega) (λi hi=>⟨_,aH.drew.cell (n+i) (by rw[aD];omega)⟩) (λi hi=>aH.drew.froz (n+i) (by rw[aD];omega))).i ?_;rintro e wb ⟨rfl,cL⟩))
 have aX:PI w wb (.int .i64 k) (.int .i64 l) (.int .i64 m) (.string p):=PI.ofS (by assumption);obtain⟨eM,cQ,aL,aI⟩:=aH.drew.step aD cL (by rw[OK];omega);clear bW cL aH aD;go_wp2_with fail;have b7:=PA aX.toS;clear aX
 go_region_held3 (λw'=>w'.cell? ⟨w.heap.size,0,none⟩=some (.int .i64 k)/\w'.cell? ⟨w.heap.size,1,none⟩=some (.int .i64 l)/\w'.cell? ⟨w.heap.size,2,none⟩=some (.int .i64 m)/\w'.cell? ⟨w.heap.size,3,none⟩=some (.string p)/\PI w w' (.int .i64 k) (.int .i64 l) (.int .i64 m) (.string p))
  (first|assumption|exact(PI.ofS b7.o).drew.toS|exact(PI.wrote (PI.ofS (by assumption)) (by assumption)).toS)
  (first|(go_at_call 236;refine(YP (w.heap.size+1+1) (n+1) 2 (M-1) l _ (by omega) (by omega) (by omega) (λi hi=>⟨_,aI.drew.cell (n+1+i) (by rw[aL];omega)⟩) (λi hi=>aI.drew.froz (n+1+i) (by rw[aL];omega))).i ?_;rintro e wc ⟨rfl,cM⟩))
 have aY:PI w wc (.int .i64 k) (.int .i64 l) (.int .i64 m) (.string p):=PI.ofS (by assumption);obtain⟨eN,cS,aM,aJ⟩:=aI.drew.step aL cM (by rw[OK];omega);clear b7 cM aI aL;go_wp2_with fail;have cA:=PA aY.toS;clear aY
 go_region_held3 (λw'=>w'.cell? ⟨w.heap.size,0,none⟩=some (.int .i64 k)/\w'.cell? ⟨w.heap.size,1,none⟩=some (.int .i64 l)/\w'.cell? ⟨w.heap.size,2,none⟩=some (.int .i64 m)/\w'.cell? ⟨w.heap.size,3,none⟩=some (.string p)/\PI w w' (.int .i64 k) (.int .i64 l) (.int .i64 m) (.string p))
  (first|assumption|exact(PI.ofS cA.o).drew.toS|exact(PI.wrote (PI.ofS (by assumption)) (by assumption)).toS)
  (first|(go_at_call 236;refine(YP (w.heap.size+1+1) (n+3) 4 (M-3) m _ (by omega) (by omega) (by omega) (λi hi=>⟨_,aJ.drew.cell (n+3+i) (by rw[aM];omega)⟩) (λi hi=>aJ.drew.froz (n+3+i) (by rw[aM];omega))).i ?_;rintro e wd ⟨rfl,cN⟩))
 have aZ:PI w wd (.int .i64 k) (.int .i64 l) (.int .i64 m) (.string p):=PI.ofS (by assumption);obtain⟨eO,cT,aN,aK⟩:=aJ.drew.step aM cN (by rw[OK];omega);clear cA cN aJ aM;go_wp2_with fail;have cB:=PA aZ.toS;clear aZ
 go_region_held3 (λw'=>w'.cell? ⟨w.heap.size,0,none⟩=some (.int .i64 k)/\w'.cell? ⟨w.heap.size,1,none⟩=some (.int .i64 l)/\w'.cell? ⟨w.heap.size,2,none⟩=some (.int .i64 m)/\w'.cell? ⟨w.heap.size,3,none⟩=some (.string p)/\PI w w' (.int .i64 k) (.int .i64 l) (.int .i64 m) (.string p))
  (first|assumption|exact(PI.ofS cB.o).drew.toS|exact(PI.wrote (PI.ofS (by assumption)) (by assumption)).toS)
  (first|(go_at_call 236;refine(YP (w.heap.size+1+1) (n+7) 1 (M-7) (p.size:Int) _ (by omega) (by omega) (by omega) (λi hi=>⟨_,aK.drew.cell (n+7+i) (by rw[aN];omega)⟩) (λi hi=>aK.drew.froz (n+7+i) (by rw[aN];omega))).i ?_;rintro e we ⟨rfl,cO⟩))
 have bC:PI w we (.int .i64 k) (.int .i64 l) (.int .i64 m) (.string p):=PI.ofS (by assumption);obtain⟨eP,cU,aE,aC⟩:=aK.drew.step aN cO (by rw[OK];omega);clear cB cO aK aN;go_wp2_with fail;have dF:¬(M=8):=by omega
 have cY:p.size<=M-8:=by have:=HM.o;omega
 have bJ:=PA (aC.drew.copied (n+8) p (by rw[aE];omega));have bU:=PA (aC.drew.isSome (n+8) p.size (by rw[aE];omega));have bV:=PA (aC.drew.frozen (n+8) p.size (by rw[aE];omega));have bI:=PA bC.toS;clear bC
 go_region_held3 (λw'=>w'.cell? ⟨w.heap.size,0,none⟩=some (.int .i64 k)/\w'.cell? ⟨w.heap.size,1,none⟩=some (.int .i64 l)/\w'.cell? ⟨w.heap.size,2,none⟩=some (.int .i64 m)/\w'.cell? ⟨w.heap.size,3,none⟩=some (.string p)/\PI w w' (.int .i64 k) (.int .i64 l) (.int .i64 m) (.string p))
  (first|assumption|exact(PI.ofS bI.o).drew.toS|exact(PI.wrote (PI.ofS bI.o).drew bJ.o).toS)
  (first|(refine step_copy_string (by rfl) _ _ _ _ (by rfl) 5 underlying172 (λ_=>by kernel_rfl) (w.heap.size+1+1) (n+8) (M-8) (M-8) (by rfl) p (by rfl) cY bU.o bV.o ?_))
 have aP:=PI.wrote (PI.ofS bI.o).drew bJ.o;obtain⟨aU,cV,aA,aT⟩:=aC.drew.step aE bJ.o (by rw[ML];omega);clear bI bJ bU bV aC aE;obtain⟨wf,cC⟩:∃wf,wf=we.drew.setCells (w.heap.size+1+1) (n+8) (List.map (λx=>Value.int IntKind.u8 (x.toNat:Int)) p.data.toList):=⟨_,rfl⟩;rw[<-cC]at aT aP⊢;clear cC;go_wp2_with fail
 have eH:=λwx=>jt (P:=prog) (t:=168) underlying168 (λ_=>by kernel_rfl) (w.heap.size+1+1) 0 n (by omega) (by omega) .i64 (n:Int) rfl wx
 obtain⟨bt,HB⟩:∃bt,Hid (bt=strOfNums ((aU.drop n).take M)):=⟨_,PA rfl⟩;have cX:bt.size=M:=by rw[HB.o,BS,BC,BU,aA];have:=HM.o;omega
 have hF:w.heap.size+1+1<wf.drew.heap.size:=by have:=aP.size;show _<wf.heap.size;omega
 have bF:∀(wx:World) (xs:List Int),xs.length=64->(xs.drop n).take M=(aU.drop n).take M->Fm wx (w.heap.size+1+1) xs->PI w wx (.int .i64 k) (.int .i64 l) (.int .i64 m) (.string p) ->
   (convert 172 9 (.slice (some ⟨w.heap.size+1+1,n,none⟩) M M)).run prog wx=.ok (.string bt) wx/\wx.there (w.heap.size+1+1) 0 64/\PI w wx (.int .i64 k) (.int .i64 l) (.int .i64 m) (.string p):=λwx xs hx hd hf hp=>by
  refine⟨?_,λj hj=>⟨?_,?_⟩,hp⟩
  ·rw[hf.text 172 5 9 underlying172 underlying5 underlying9 n M M (by have:=HM.o;omega),hd,HB.o]
  ·exact hf.isSome 0 64 (by omega) j hj
  exact hf.frozen 0 64 (by omega) j hj
 have HT:=PA bF;have aF:=PA aT;have aS:=PA aP;clear bF aT aP;have aG:(RZ bt n).size=n:=fv _ _
 go_region_held3 (λw'=>(convert 172 9 (.slice (some ⟨w.heap.size+1+1,n,none⟩) M M)).run prog w'=.ok (.string bt) w'/\w'.there (w.heap.size+1+1) 0 64/\PI w w' (.int .i64 k) (.int .i64 l) (.int .i64 m) (.string p))
  (first|assumption|exact HT.o _ aU aA rfl aF.o.drew aS.o.drew|exact HT.o _ aU aA rfl (aF.o.drew.I aB hF) (aS.o.drew.I aB)|exact HT.o _ _ (by rw[df _ _ _ (by rw[ML,aG];omega)];exact aA) (by rw[Dl _ _ n (by rw[ML,aG])]) ((aF.o.drew.I aB hF).wrote ((aF.o.drew.I aB hF).copied 0 (RZ bt n) (by rw[aG];omega)) (by rw[ML,aG];omega)) (PI.wrote (aS.o.drew.I aB) ((aF.o.drew.I aB hF).copied 0 (RZ bt n) (by rw[aG];omega))))
  (first|(go_at_call 241;refine(F5 bt _ n (by rw[cX];omega) (by omega) (by omega)).i ?_;rintro e wg ⟨rfl,aB⟩)|(refine step_copy_string (by rfl) _ _ _ _ (by rfl) 5 underlying172 (λ_=>by kernel_rfl) (w.heap.size+1+1) 0 n 64 (by rfl) (RZ bt n) (by rfl) (by rw[aG];omega) (λj hj=>((HT.o _ aU aA rfl (aF.o.drew.I aB hF) (aS.o.drew.I aB)).2.1 j (by rw[aG]at hj;omega)).1) (λj hj=>((HT.o _ aU aA rfl (aF.o.drew.I aB hF) (aS.o.drew.I aB)).2.1 j (by rw[aG]at hj;omega)).2) ?_))
 have bT:=(aF.o.drew.I aB hF).copied 0 (RZ bt n) (by rw[aG];omega);have aQ:=PI.wrote (aS.o.drew.I aB) bT;obtain⟨aR,cW,aO,aV⟩:=(aF.o.drew.I aB hF).step aA bT (by rw[ML,aG];omega)
 have HR:Hid (aR=LF (SI k l m p n)):=by
  have h5:=rM k l m p n (by omega) cF.o cQ.o cS.o cT.o cU.o cV.o;show aR=_;rw[cW.o,(uJ k l m p n (by omega) HM.o h5 HB.o).2]
 clear bT aF aS HT aB hF;obtain⟨wh,cE⟩:∃wh,wh=wg.setCells (w.heap.size+1+1) 0 (List.map (λx=>Value.int IntKind.u8 (x.toNat:Int)) (RZ bt n).data.toList):=⟨_,rfl⟩;rw[<-cE]at aV aQ⊢;clear cE;have bE:(aR.map (Value.int .u8)).toArray.size=64:=by simp[aO]
 go_wp2_with (first
  | (refine AN rfl 168 _ rfl (w.heap.size+1+1) 0 rfl (aR.map (Value.int .u8)) _ aV.range underlying168 rfl (by rw[BJ,aO];kernel_rfl) ?_)
  | (refine BI rfl 168 _ _ rfl (w.heap.size+1) 0 (aR.map (Value.int .u8)).toArray rfl rfl (by rw[bE];exact aQ.there) (by rw[bE];kernel_rfl) (FQ (UA aR)) ?_))
 refine AJ (v:=.agg (aR.map (Value.int .u8)).toArray) (qK (p:=4) results238 _ _ (w.heap.size+1) 0 rfl (aR.map (Value.int .u8)) _ (DS _ _ _ _ (by rw[BJ,aO];exact aQ.there)) underlying168 rfl (by rw[BJ,aO];kernel_rfl)) rfl ⟨by rw[HR.o],?_⟩;exact below_setCells (by omega) _ _ _ aQ.bel
def MP(k l m:Int)(p:ByteArray)(n:Int):ByteArray:=if NI k l m p n=true then SI k l m p n.toNat else empty
def YG(k l m:Int)(p:ByteArray)(n:Int)(w:World)(hp:p.size<=1048576):Calls prog 154 #[NH k l m p,.int .i64 n] w λe w'=>e=.returned (.string (MP k l m p n))/\Below w.heap.size w w':=by
 unfold MP
 cases h:NI k l m p n with
 | true =>
  have hd:=AZ (by unfold NI at h;exact h);have hn:1<=n:=hd.1;obtain⟨j,rfl⟩:∃j:Nat,n=(j:Int):=⟨n.toNat,by omega⟩;rw[AK rfl,DG];exact Cd k l m p j w h
 | false=>rw[AE (by simp)];exact yM k l m p n w hp h
def XS(s:ByteArray)(l f:Int)(n m N i:Nat):ByteArray:=MP (if i+1=N then 2 else 1) l (f+(i:Int)) (s.extract (i*m) (i*m+m)) (n:Int)
def jp(l f:Int)(N:Nat):Bool:=decide (1<=l/\l<=60000/\1<=f/\f+(N:Int)<=1000000001)
def TE(s:ByteArray)(l f:Int)(n m N k:Nat):List ByteArray:=(List.range k).map (XS s l f n m N)
def kp(s:ByteArray)(l f:Int)(n m N k:Nat):TE s l f n m N (k+1)=TE s l f n m N k++[XS s l f n m N k]:=by simp[TE,DR]
def ip(s:ByteArray)(l f:Int)(n m N k:Nat):(TE s l f n m N k).length=k:=by simp[TE]
def NQ(s:ByteArray)(l f:Int)(n m:Nat):List ByteArray:=if jp l f (PB s.size m)=true then TE s l f n m (PB s.size m) (PB s.size m) else []
def uq(l m:Nat):PB l m<=l+1:=by
 unfold PB
 split
 ·omega
 have:=KY (l-1) m;omega
def zp(l m:Nat):0<PB l m:=by
 unfold PB
 split
 ·omega
 exact Nat.succ_pos _
def wJ(l m k:Nat)(hm:0<m)(hk:k<PB l m):l<=(k+1)*m<->k+1=PB l m:=by
 unfold PB at hk⊢
 by_cases hl:l=0
 ·rw[AK hl]at hk⊢
  omega
 rw[AE hl]at hk⊢
 constructor
 ·intro h
  have:(l-1) / m<k+1:=(KZ hm).2 (by omega);omega
 intro h
 have h2:(l-1) / m<k+1:=by omega
 have:=(KZ hm).1 h2;omega
def A7(s:ByteArray)(a m:Nat):(s.extract a (a+m)).size<=m:=by simp only[AW];omega
def qg{s:ByteArray}{l f:Int}{n m N:Nat}(hN:N=PB s.size m)(h:1<=l/\l<=60000/\1<=f/\f+(N:Int)<=1000000001):NQ s l f n m=TE s l f n m N N:=by
 unfold NQ jp;rw[<-hN,AK (by simpa using h)]
def YN{s:ByteArray}{l f:Int}{n m N:Nat}(hN:N=PB s.size m)(h:¬(1<=l/\l<=60000/\1<=f/\f+(N:Int)<=1000000001)):NQ s l f n m=[]:=by
 unfold NQ jp;rw[<-hN,AE (by simpa using h)]
def iy(w w':World)(e:Ending)(ss:List ByteArray):Prop:=∃a c,e=.returned (.slice a ss.length c)/\OwnS w' a (ss.map Value.string)/\(∀g,blk a ss.length=some g->w.heap.size<=g)/\Below w.heap.size w w'
def bd{v:Value}{a:Option Addr}{c:Nat}(hv:v=.slice a 0 c)(hb:Below w.heap.size w w'):iy w w' (.returned v) []:=⟨a,c,by rw[hv];rfl,.inl rfl,λg h=>(by cases h),hb⟩
def uk{v:Value}{k:Nat}{e:TypeId}{ss:List ByteArray}(h:w'.ownsRow w.heap.size e 1 v k (ss.map Value.string))(hk:k=ss.length)(hb:Below w.heap.size w w'):iy w w' (.returned v) ss:=by
 rcases MM h with ⟨h1,h2⟩|⟨g,cap,h1,h2,_,h3⟩
 ·have:ss=[]:=AC (by omega)
  subst this;exact bd h1 hb
 subst hk
 refine⟨_,cap,by rw[h1],.inr ⟨g,rfl,h3⟩,λg' aA=>?_,hb⟩
 by_cases h0:ss.length=0
 ·rw[h0]at aA;cases aA
 rw[MI g 0 _ h0]at aA;cases aA;exact h2
set_option maxRecDepth 4000 in
def pL(s:ByteArray)(l f:Int)(n m:Nat)(w:World)(hs:s.size<=1048576)(hm:n+m=56)(h1:1<=n)(h2:n<=8):Calls prog 158 #[.string s,.int .i64 l,.int .i64 f,.int .i64 (n:Int)] w λe w'=>iy w w' e (NQ s l f n m):=by
 have hd:decide (1<=(n:Int)/\(n:Int)<=8)=true:=by simp;omega
 have aR:∀o,Below w.heap.size w (w.alloc o):=λo=>LG _ _
 obtain⟨N,HN⟩:∃N,Hid (N=PB s.size m):=⟨_,LE rfl⟩;have bW:N<=1048577:=by have:=uq s.size m;rw[HN.o];omega
 have bV:0<N:=by rw[HN.o];exact zp _ _
 obtain⟨R,HR⟩:∃R,Hid (R=NQ s l f n m):=⟨_,LE rfl⟩;rw[<-HR.o]
 by_cases cA:1<=l
 focus
  by_cases cB:l<=60000
  focus
   by_cases cC:1<=f
   focus
    by_cases cE:f<=1000000000
    ·by_cases b7:(N:Int)<=1000000000-f+1
     ·have aH:Hid (R=TE s l f n m N N):=by show _=_;rw[HR.o];exact qg HN.o (by omega)
      clear HR;obtain⟨i0,aW,bC,bE,bF⟩:=info_parts kw;have HI:=LE (AG aW (AG bC (AG bE bF)));clear aW bC bE bF;go_enter func158,ntmps158
      go_wp2_with (first|(go_at_call 57;refine(PV _ _).i ?_;rw[hd];rintro e w2 ⟨rfl,rfl⟩)|(go_at_call 196;refine(mx s n m _ hs hm h1 h2).i ?_;rw[<-HN.o];rintro e w2 ⟨g,c,rfl,hg,aB,hb⟩;have aQ:=LE aB;clear aB))
      simp only[AU]at hg;have bJ:Below w.heap.size w w2:=(aR _).j (hb.i (by simp));have aM:w2.ownsRow w.heap.size 9 1 (.slice (some ⟨w.heap.size,0,none⟩) 0 0) 0 []:=LY (DM w #[] 0 (AA _) (by simp) (by simp)) hb;clear hb;go_loopw [9,11,12] (λy i _ wr=>∃k:Nat,k<=N/\i=.int .i64 k/\wr.ownsRow w.heap.size 9 1 y k ((TE s l f n m N k).map Value.string)/\y.ownBlock≠some g/\Row wr g ((WF s m N).map Value.string)/\Below w.heap.size w wr) (λ_ i _ _=>N-(intOf i).toNat)
      case atStart =>
       exact⟨0,AH _,rfl,aM,by simp[Value.ownBlock];omega,aQ.o,bJ⟩
      case round =>
       obtain⟨k,hk,rfl,aG,aX,aB,aF⟩:=hrel
       by_cases bQ:k<N
       ·have hc:=aB.cell k (.string (s.extract (k*m) (k*m+m))) (by simp[WF,bQ])
        obtain⟨p,HP⟩:∃p,Hid (p=s.extract (k*m) (k*m+m)):=⟨_,LE rfl⟩;rw[<-HP.o]at hc;have aY:p.size<=1048576:=by rw[HP.o];have:=A7 s (k*m) m;omega
        have bU:w.heap.size<=wr.heap.size:=aF.size;have bP:=aB.lt;have HB:=LE aF;have bI:=LE aB;have aI:=LE aG;clear aF aB aG;obtain⟨F,HF⟩:∃F,Hid (F=XS s l f n m N k):=⟨_,LE rfl⟩;obtain⟨kd,aL⟩:∃kd:Int,kd=if k+1=N then 2 else 1:=⟨_,rfl⟩;have aT:Hid (MP kd l (f+(k:Int)) p (n:Int)=F):=by show _=_;rw[HF.o,HP.o,aL];rfl
        have aU:∀(w5:World),Below wr.heap.size wr w5->∀(w7:World) (g' cap:Nat),w7.ownsRow w.heap.size 9 1 (.slice (some ⟨g',0,none⟩) (k+1) cap) (k+1) ((TE s l f n m N k).map Value.string++[.string F])->(w5.alloc (.cells #[.string F] 9)).grownBy w7 u9.ownBlock->(u9.ownBlock=some g'\/g'=w5.heap.size+1)->(∃k':Nat,k'<=N/\Value.int .i64 ((k:Int)+1)=.int .i64 k'/\w7.ownsRow w.heap.size 9 1 (.slice (some ⟨g',0,none⟩) (k+1) cap) k' ((TE s l f n m N k').map Value.string)/\(Value.slice (some ⟨g',0,none⟩) (k+1) cap).ownBlock≠some g/\Row w7 g ((WF s m N).map Value.string)/\Below w.heap.size w w7):=λw5 aD w7 g' cap bT aV aN=>by
         have aZ:=aD.size;refine⟨k+1,by omega,by go_num,?_,?_,?_,?_⟩
         ·rw[kp,BK,<-HF.o];exact bT
         ·rcases aN with aN|aN
          ·intro he;exact aX (aN.j (by simpa[Value.ownBlock] using he))
          simp[Value.ownBlock];omega
         ·exact((bI.o.I aD).alloc _).z aV (λhe=>aX he.symm)
         exact aj ((HB.o.j (aD.i bU)).alloc (by omega) _) ((LY aI.o aD).alloc _) aV (by simp;omega)
        have aJ:=LE aU;clear aU
        by_cases aK:k+1=N
        ·have hq:((k:Int) == (N:Int)-1)=true:=by simp;omega
         rw[AK aK]at aL;subst aL;clear aK
         go_wp2_with (first|(go_at_call 154;refine(YG 2 l (f+(k:Int)) p (n:Int) _ aY).i ?_;rw[aT.o];rintro e w5 ⟨rfl,aD⟩;have aZ:=aD.size;have aP:=LE ((LY aI.o aD).alloc (.cells #[.string F] 9)))|(at_builtin;refine PU _ rfl _ _ 22 rfl w.heap.size underlying22 HI.o rfl (by omega) _ k _ rfl aP.o ⟨w5.heap.size,0,none⟩ 1 1 [.string F] rfl rfl (World.news_of_block (AY w5 _)) (by intro u hu;simp at hu;subst hu;rfl) (by simp;omega) (w5.heap.size+1) (by simp) ?_;intro g' cap w7 aC aA aE aS;have aO:=LE (aJ.o w5 aD w7 g' cap aC aA aE);clear aC aA aE))
         exact⟨aO.o,by simp[intOf];omega⟩
        have hq:((k:Int) == (N:Int)-1)=false:=by simp;omega
        rw[AE aK]at aL;subst aL
        go_wp2_with (first|(go_at_call 154;refine(YG 1 l (f+(k:Int)) p (n:Int) _ aY).i ?_;rw[aT.o];rintro e w5 ⟨rfl,aD⟩;have aZ:=aD.size;have aP:=LE ((LY aI.o aD).alloc (.cells #[.string F] 9)))|(at_builtin;refine PU _ rfl _ _ 22 rfl w.heap.size underlying22 HI.o rfl (by omega) _ k _ rfl aP.o ⟨w5.heap.size,0,none⟩ 1 1 [.string F] rfl rfl (World.news_of_block (AY w5 _)) (by intro u hu;simp at hu;subst hu;rfl) (by simp;omega) (w5.heap.size+1) (by simp) ?_;intro g' cap w7 aC aA aE aS;have aO:=LE (aJ.o w5 aD w7 g' cap aC aA aE);clear aC aA aE))
        exact⟨aO.o,by simp[intOf];omega⟩
       have aK:k=N:=by omega
       subst aK;have HO:=LE aG;clear aG aB;go_wp2;go_ret;rw[aH.o];exact uk HO.o (ip _ _ _ _ _ _ _).symm aF
     have aH:Hid (R=[]):=by show _=_;rw[HR.o];exact YN HN.o (by omega)
     clear HR;go_enter func158,ntmps158
     go_wp2_with (first|(go_at_call 57;refine(PV _ _).i ?_;rw[hd];rintro e w2 ⟨rfl,rfl⟩)|(go_at_call 196;refine(mx s n m _ hs hm h1 h2).i ?_;rw[<-HN.o];rintro e w2 ⟨g,c,rfl,hg,aB,hb⟩;clear aB))
     go_ret;rw[aH.o];exact bd rfl ((aR _).j (hb.i (by simp)))
    focus
     have aH:Hid (R=[]):=by show _=_;rw[HR.o];exact YN HN.o (by omega)
    rotate_left
   rotate_left
   focus
    have aH:Hid (R=[]):=by show _=_;rw[HR.o];exact YN HN.o (by omega)
   rotate_left
  rotate_left 2
  focus
   have aH:Hid (R=[]):=by show _=_;rw[HR.o];exact YN HN.o (by omega)
  rotate_left
 rotate_left 3
 focus
  have aH:Hid (R=[]):=by show _=_;rw[HR.o];exact YN HN.o (by omega)
 rotate_left
 all_goals
  clear HR;go_enter func158,ntmps158
  go_wp2_with (first|(go_at_call 57;refine(PV _ _).i ?_;rw[hd];rintro e w2 ⟨rfl,rfl⟩))
  go_ret;rw[aH.o];exact bd rfl (aR _)
def uV(k l m:Int)(p:ByteArray)(n:Int)(w:World)(hp:p.size<=1048576)(aB:NI k l m p n=false):Calls prog 217 #[NH k l m p,.int .i64 n] w λe w'=>e=.returned (.string empty)/\Below w.heap.size w w':=by
 go_enter func217,ntmps217;go_wp2_with (go_at_call 237;refine(fi k l m p n _ hp).i ?_;rw[aB];rintro e w1 ⟨rfl,aA⟩);go_ret;exact⟨rfl,(LG _ _).j (aA.i (by simp))⟩
set_option maxRecDepth 4000 in
def uK(k l m:Int)(p:ByteArray)(n:Nat)(w:World)(aA:NI k l m p n=true):Calls prog 217 #[NH k l m p,.int .i64 (n:Int)] w λe w'=>e=.returned (.string (SI k l m p n))/\Below w.heap.size w w':=by
 have aD:=AZ (by unfold NI at aA;exact aA);obtain⟨aQ,aR,aK,aL,aM,aN,aO,aP,hp,_⟩:=aD;go_enter func217,ntmps217;go_wp2_with (go_at_call 237;refine(fi k l m p n _ (by omega)).i ?_;rw[aA];rintro e w1 ⟨rfl,aE⟩;obtain⟨q,q0,q1,q2,q3,aB⟩:=YX (W:=w) (v0:=.int .i64 k) (v1:=.int .i64 l) (v2:=.int .i64 m) (v3:=.string p) aE ⟨by simp,by simp,by simp,by simp,by simp,LG _ _⟩;clear aE);refine(uu k l m p n _ aA).i ?_;rintro e w2 ⟨rfl,aF⟩;clear q q0 q1 q2 q3;have aG:=aB.j (aF.i aB.size);clear aB aF;obtain⟨xs,HX⟩:∃xs,Hid (xs=LF (SI k l m p n)):=⟨_,PA rfl⟩;have aC:xs.length=64:=by rw[HX.o,ML];exact eo k l m p n (by omega)
 have aS:(xs.map (Value.int .u8)).toArray.size=64:=by simp[aC]
 rw[<-HX.o];go_wp2_with (refine mj rfl 168 _ _ rfl xs rfl rfl _ _ (.int .u8 0) (by rw[aC];rfl) (by rw[aC];kernel_rfl) ?_;intro wx aH aI _;have aJ:=aH.text (P:=prog) 172 5 9 underlying172 underlying5 underlying9 0 64 64 (by omega);rw[DY,AT (by omega)]at aJ;clear aH);go_ret;refine⟨dz ?_,aG.j (aI.i aG.size)⟩;rw[HX.o,SJ]
def ZW(k l m:Int)(p:ByteArray)(n:Int)(w:World)(hp:p.size<=1048576):Calls prog 217 #[NH k l m p,.int .i64 n] w λe w'=>e=.returned (.string (MP k l m p n))/\Below w.heap.size w w':=by
 unfold MP
 cases h:NI k l m p n with
 | true =>
  have hd:=AZ (by unfold NI at h;exact h);have hn:1<=n:=hd.1;obtain⟨j,rfl⟩:∃j:Nat,n=(j:Int):=⟨n.toNat,by omega⟩;rw[AK rfl,DG];exact uK k l m p j w h
 | false=>rw[AE (by simp)];exact uV k l m p n w hp h
@[reducible] def MV(t h f l:Int):Value:=.agg #[.int .i64 t,.int .i64 h,.int .i64 f,.int .i64 l]
abbrev SM(h f:Int):Prop:=0<=h/\h<=1/\1<=f/\f<=999999000
def VV(h f:Int):ByteArray:=strOfNums (be 1 h)++strOfNums (be 4 f)
def ON(t h f l n:Int):ByteArray:=if SM h f then MP 4 l t (VV h f) n else empty
def nn(h:Int)(w:World):Calls prog 206 #[.int .i64 h] w λe w'=>e=.returned (.bool (decide (0<=h/\h<=1)))/\w'=w:=by
 have hh:decide (0<=h/\h<=1)=(decide (h=0) || decide (h=1)):=by rw[IA];simp;omega
 rw[hh];go_enter func206,ntmps206
 by_cases h1:h=0
 ·subst h1;go_wp2;go_ret;exact⟨rfl,rfl⟩
 by_cases h2:h=1
 ·subst h2;go_wp2;go_ret;exact⟨rfl,rfl⟩
 go_wp2;go_ret;simp[h1,h2]
def ti(f:Int)(w:World):Calls prog 207 #[.int .i64 f] w λe w'=>e=.returned (.bool (decide (1<=f/\f<=999999000)))/\w'=w:=by
 go_enter func207,ntmps207
 by_cases h1:1<=f<;>by_cases h2:f<=999999000<;>(go_wp2;go_ret;simp[h1,h2])
def Al(t h f l n:Int)(w:World)(aA:¬SM h f):Calls prog 201 #[MV t h f l,.int .i64 n] w λe w'=>e=.returned (.string empty)/\Below w.heap.size w w':=by
 have aB:∀o,Below w.heap.size w (w.alloc o):=λo=>LG _ _
 unfold SM at aA;go_enter func201,ntmps201
 by_cases h1:0<=h<;>by_cases h2:h<=1<;>by_cases h3:1<=f<;>by_cases h4:f<=999999000<;>first|(exfalso;omega)|(clear aA;go_wp2;go_ret;exact⟨rfl,aB _⟩)
def Hr(t h f l n:Int)(w:World)(aD:SM h f):Calls prog 201 #[MV t h f l,.int .i64 n] w λe w'=>e=.returned (.string (MP 4 l t (VV h f) n))/\Below w.heap.size w w':=by
 obtain⟨h1,h2,h3,h4⟩:=aD;obtain⟨A,hA⟩:∃A,strOfNums (be 1 h)=A:=⟨_,rfl⟩;obtain⟨B,hB⟩:∃B,strOfNums (be 4 f)=B:=⟨_,rfl⟩;have zA:A.size=1:=by rw[<-hA,BS,OK]
 have zB:B.size=4:=by rw[<-hB,BS,OK]
 have HP:Hid (VV h f=A++B):=by show _=_;unfold VV;rw[hA,hB]
 have aA:=λwx=>ZO h 1 1 rfl wx (by omega) (by omega) (by omega)
 have aB:=λwx=>ZO f 4 4 rfl wx (by omega) (by omega) (by omega)
 simp only[hA]at aA;simp only[hB]at aB;rw[HP.o];have hz:(A++B).size<=1048576:=by simp only[DI];omega
 go_enter func201,ntmps201;go_wp2_with fail;have hS:w.heap.size<(w.alloc (.cells #[.int .i64 t,.int .i64 h,.int .i64 f,.int .i64 l] 45)).heap.size/\(w.alloc (.cells #[.int .i64 t,.int .i64 h,.int .i64 f,.int .i64 l] 45)).cell? ⟨w.heap.size,0,none⟩=some (.int .i64 t)/\(w.alloc (.cells #[.int .i64 t,.int .i64 h,.int .i64 f,.int .i64 l] 45)).cell? ⟨w.heap.size,1,none⟩=some (.int .i64 h)/\(w.alloc (.cells #[.int .i64 t,.int .i64 h,.int .i64 f,.int .i64 l] 45)).cell? ⟨w.heap.size,2,none⟩=some (.int .i64 f)/\(w.alloc (.cells #[.int .i64 t,.int .i64 h,.int .i64 f,.int .i64 l] 45)).cell? ⟨w.heap.size,3,none⟩=some (.int .i64 l)/\Below w.heap.size w (w.alloc (.cells #[.int .i64 t,.int .i64 h,.int .i64 f,.int .i64 l] 45)):=⟨by simp,by simp,by simp,by simp,by simp,LG _ _⟩;have HS:=PA hS;clear hS
 go_region_held3 (λw'=>w.heap.size<w'.heap.size/\w'.cell? ⟨w.heap.size,0,none⟩=some (.int .i64 t)/\w'.cell? ⟨w.heap.size,1,none⟩=some (.int .i64 h)/\w'.cell? ⟨w.heap.size,2,none⟩=some (.int .i64 f)/\w'.cell? ⟨w.heap.size,3,none⟩=some (.int .i64 l)/\Below w.heap.size w w')
  (first|assumption|exact YX (below_drewN (AB _ _) 1) HS.o|exact YX (by assumption) (by assumption))
  (first|(go_at_call_of 203 h;refine(aA _).i ?_;rintro e w2 ⟨rfl,aE⟩)|(go_at_call_of 203 f;refine(aB _).i ?_;rintro e w3 ⟨rfl,aF⟩)|(go_at_call 154;refine(YG 4 l t (A++B) n _ hz).i ?_;rintro e w4 ⟨rfl,aG⟩))
 rename_i hSl;have aC:=hSl.2.2.2.2.2;clear hSl;go_wp2;go_ret;exact⟨rfl,aC⟩
def nH(t h f l n:Int)(w:World):Calls prog 201 #[MV t h f l,.int .i64 n] w λe w'=>e=.returned (.string (ON t h f l n))/\Below w.heap.size w w':=by
 unfold ON
 by_cases aA:SM h f
 ·rw[AK aA];exact Hr t h f l n w aA
 rw[AE aA];exact Al t h f l n w aA
