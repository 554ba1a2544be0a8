import Derived.Test.YteflhojcomcfaaaGreatDoorPrG32
import Derived.Test.YteflhojcomcfaaaGreatDoorPrG31
import Derived.Maps.Own
import Derived.Maps.Views
set_option maxHeartbeats 32000000
set_option maxRecDepth 8000
set_option linter.all false
namespace Go.Proofs.YteflhojcomcfaaaGreatDoor
open _root_.ByteArray(empty)
section
open Tryz
open Go.RowKit nw
variable {s:Q4}{n:Nat}
structure Dk where
 x:Wo
 b:List Ch
def US(n a:Int):Wo:={ w:=a,ss:=newSS n,ws:=[],up:=false,W:=0,S:=0,L:=0,T:=0,H:=0,F:=0,R:=0,U:=0,O:=0,rs:=[],P:=[[]],ts:=[] }
theorem tr{n b:Int}(h:nwOk n b):MF (US n b)=true:=by
 have c:LT (newSS n) []=true:=by
  unfold newSS;rw[G h.1];exact su (by have:=h.1;rw[DX];simp;omega) (λs a=>by rw[List.eq_of_mem_replicate a];decide) (λx d=>by cases d)
 have d:RJ [[]]=true:=by unfold RJ;simp[YI]
 have a:QJ (US n b)=true:=z;have e:ST []=true:=z;unfold MF;simp only[BF,BH];exact⟨h.2,c,a,d,e⟩
abbrev NT:Q4:=⟨#[98,97,100]⟩
abbrev YX:Q4:=⟨#[100,111,119,110]⟩
abbrev zLH:Q4:=⟨#[112,117,116]⟩
abbrev QPE:Q4:=⟨#[100,101,108]⟩
abbrev YW:Q4:=⟨#[103,101,116]⟩
abbrev ai:Q4:=⟨#[102,111,117,110,100]⟩
abbrev az:Q4:=⟨#[114,111,111,109]⟩
abbrev ew:Q4:=⟨#[112,111,119,101,114]⟩
abbrev ZS:Q4:=⟨#[100,105,115,107]⟩
abbrev fo:Q4:=⟨#[111,112,101,110]⟩
abbrev em:Q4:=⟨#[99,111,109,109,105,116]⟩
abbrev gq:Q4:=⟨#[102,108,117,115,104]⟩
abbrev fj:Q4:=⟨#[99,111,109,112,97,99,116]⟩
def XC(d:Dk)(c:Ch):Dk×Q4:=(⟨d.x,d.b++[c]⟩,⟨#[119,97,105,116,32]⟩++y0p (d.b.length+1))
def XY(d:Dk)(a:List Q4):Dk×Q4:=if TL a=true/\a.length=2 then XC d ((QQ a).getD 0 empty,(QQ a).getD 1 empty,false) else (d,NT)
def YJ(d:Dk)(a:List Q4):Dk×Q4:=if TL a=true/\a.length=1 then XC d ((QQ a).getD 0 empty,empty,true) else (d,NT)
def YM(x:Wo)(k:Q4):Q4:=if (MJ (x.P.getD (x.P.length-1) []) k).isSome=true then shO ((MJ (x.P.getD (x.P.length-1) []) k).getD ⟨#[]⟩) else ⟨#[110,111,110,101]⟩
def YQ(d:Dk)(a:List Q4):Dk×Q4:=if TL a=true/\a.length=1 then (d,YM d.x ((QQ a).getD 0 empty)) else (d,NT)
def ae(x:Wo):Q4:=y0p (ON x).2.toNat++⟨#[32,112,97,105,114,115,32]⟩++y0p (ON x).1.length++(if UO x=true then ⟨#[32,114,105,103,104,116]⟩ else ⟨#[32,119,114,111,110,103]⟩)
def XK(x:Wo):Q4:=if (XF x).size=0 then ae x else ae x++⟨#[32,102,111,114,103,101,100]⟩
def YN(d:Dk)(a:List Q4):Dk×Q4:=if a.length=0 then (d,XK d.x) else (d,NT)
def XR(x:Wo):Q4:=if x.up=true then y0p x.U.toNat++⟨#[32,111,102,32]⟩++y0p (hv x.S).toNat else YX
def YS(d:Dk)(a:List Q4):Dk×Q4:=if a.length=0 then (d,XR d.x) else (d,NT)
def bn(d:Dk)(a:List Q4):Dk×Q4:=if NY a=true then (⟨d.x.doR ⟨5,[],0,QM a⟩,d.b⟩,YX) else (d,NT)
def UR(d:Dk)(a:List Q4):Dk×Q4 :=if NY a=true/\a.length=2 then
  if nwOk ((QM a).getD 0 0) ((QM a).getD 1 0) then (⟨US ((QM a).getD 0 0) ((QM a).getD 1 0),d.b⟩,⟨#[111,107]⟩) else (d,⟨#[110,111]⟩)
 else (d,NT)
def jm(k:Int)(b:List Ch)(a:List Int):Ev:=⟨k,if k=2 then b else [],a.getD 0 (-1),a.drop 1⟩
def qIJ(x:Wo)(e:Ev):Nat:=if (x.call e).2=true then (x.call e).1.C.toNat else 9
def cw(x:Wo)(e:Ev):Q4:=(if (x.doR e).up=true then ⟨#[117,112,32]⟩ else ⟨#[100,111,119,110,32]⟩)++y0p (qIJ x e)
def RH(k:Int)(d:Dk)(a:List Q4):Dk×Q4:=if NY a=true then (⟨d.x.doR (jm k d.b (QM a)),if k=2 then [] else d.b⟩,cw d.x (jm k d.b (QM a))) else (d,NT)
def QO(d:Dk)(f:Q4)(a:List Q4):Dk×Q4 :=if f=zLH then XY d a
 else if f=QPE then YJ d a
 else if f=YW then YQ d a
 else if f=ai then YN d a
 else if f=az then YS d a
 else if f=ew then bn d a
 else if f=ZS then UR d a
 else if f=fo then RH 1 d a
 else if f=em then RH 2 d a
 else if f=gq then RH 3 d a
 else if f=fj then RH 4 d a
 else (d,NT)
def bj(a:List Q4):Bool:=a.any λs=>decide (s.size=0)
def OX(d:Dk)(s:Q4):Dk×Q4:=if bj (MO 32 s)=true then (d,NT) else QO d ((MO 32 s).getD 0 empty) ((MO 32 s).drop 1)
def SQ:Dk->List Q4->List UInt8
 | _,[]=>[]
 | d,s::r=>(OX d s).2.data.toList++10::SQ (OX d s).1 r
def UU:Dk->List Q4->Dk
 | d,[]=>d
 | d,s::r=>UU (OX d s).1 r
def Xw3(t:Q4):Q4:=if 20000<t.size\/400<(WP t).length then ⟨#[116,111,111,32,108,111,110,103,10]⟩ else ⟨(SQ ⟨US 40 8,[]⟩ (WP t)).toArray⟩
theorem xa:∀(ls:List Q4) (d:Dk) (s:Q4),SQ d (ls++[s])=SQ d ls++((OX (UU d ls) s).2.data.toList++[10])
 | [],d,s=>by simp[SQ,UU]
 | t::ls,d,s=>by
  show(OX d t).2.data.toList++10::SQ (OX d t).1 (ls++[s])=((OX d t).2.data.toList++10::SQ (OX d t).1 ls)++_;rw[xa ls];simp[UU]
theorem nZ:∀(ls:List Q4) (d:Dk) (s:Q4),UU d (ls++[s])=(OX (UU d ls) s).1
 | [],d,s=>rfl
 | t::ls,d,s=>nZ ls _ s
structure Dk.ok(d:Dk)(n:Nat):Prop where
 w:MF d.x=true
 l:d.b.length<=n
 s:∀c∈d.b,c.1.size<=30000/\c.2.1.size<=30000
theorem Dk.ok.J{d:Dk}{m:Nat}(h:d.ok n)(k:n<=m):d.ok m:=⟨h.w,AJ h.l k,h.s⟩
theorem zp:∀(k:Nat) (l r:List UInt8),VX k l=some r->r.length<=l.length
 | k,[],r,h=>by
  have e:some []=some r:=by rw[<-h];cases k<;>rfl
  cases e
  exact C
 | 0,c::l,r,h=>by simp[VX]at h
 | k+1,c::l,r,h=>by
  rw[VX]at h
  split at h
  .obtain⟨t,a,rfl⟩:=EC.1 h
   have:=zp k l t a;simp only[BN];omega
  split at h
  .obtain⟨x,d,b⟩:=Option.bind_eq_some_iff.1 h
   obtain⟨t,a,rfl⟩:=EC.1 b;have:=zp k _ t a;rw[BS]at this;simp only[BN];omega
  cases h
theorem M2{t:Q4}(h:NN s=some t):t.size<=s.size:=by
 unfold NN at h
 split at h
 .cases h;exact AL
 obtain⟨l,a,rfl⟩:=EC.1 h
 exact zp _ _ _ a
theorem Gh{a:List Q4}(h:∀s∈a,s.size<=20000):∀t∈QQ a,t.size<=20000:=by
 intro t c;obtain⟨s,b,rfl⟩:=DW.1 c
 cases e:NN s with
 | none=>exact AL
 | some t=>exact AJ (M2 e) (h s b)
theorem oI{l:List Q4}{N:Nat}(h:∀t∈l,t.size<=N)(i:Nat):(l.getD i empty).size<=N:=by
 by_cases a:i<l.length
 .rw[show l.getD i empty=l[i] by simp[List.getD,a]];exact h _ (FU a)
 rw[show l.getD i empty=empty by simp[List.getD,List.getElem?_eq_none (show l.length<=i by omega)]];exact AL
theorem tI(W S L T H F:Int)(a:List Pr):0<=(PU W S L T H F a).C/\(PU W S L T H F a).C<=9:=by
 unfold PU am
 split<;>simp[LO]
theorem qG(a:List Q4)(b:List (Int×Q4))(n:Int):0<=(OL a b n).C/\(OL a b n).C<=9:=by
 unfold OL
 split
 .split
  .simp[LO]
  split
  .simp[LO]
  split
  .simp[LO]
  split
  .exact tI _ _ _ _ _ _ _
  simp
 simp[LO]
theorem Qj(W S L T H F R U O:Int)(a:List Pr)(b:List Ch):0<=(QV W S L T H F R U O a b).C/\(QV W S L T H F R U O a b).C<=9:=by
 unfold QV
 split
 .split
  .split
   .split<;>simp[LO]
   simp[LO]
  simp[LO]
 simp[LO]
theorem Nn(W S L T H F R U O:Int)(a:List Pr):0<=(RM W S L T H F R U O a).C/\(RM W S L T H F R U O a).C<=9:=by
 unfold RM
 split<;>simp[LO]
theorem Pj(W S L T H F R U O:Int)(a:List Pr):0<=(QL W S L T H F R U O a).C/\(QL W S L T H F R U O a).C<=9:=by
 unfold QL
 split
 .exact tI _ _ _ _ _ _ _
 simp[LO]
theorem lT(x:Wo)(e:Ev):0<=(x.call e).1.C/\(x.call e).1.C<=9:=by
 unfold Wo.call
 split
 .exact qG _ _ _
 split
 .exact Qj _ _ _ _ _ _ _ _ _ _ _
 split
 .exact Nn _ _ _ _ _ _ _ _ _ _
 split
 .exact Pj _ _ _ _ _ _ _ _ _ _
 simp[LO]
theorem oQ(x:Wo)(e:Ev):qIJ x e<=9:=by
 unfold qIJ;have:=lT x e
 split<;>omega
theorem nU(x:Wo):0<=(ON x).2/\(ON x).2<=9:=by
 unfold ON
 split
 .exact qG _ _ _
 simp
theorem qO{x:Wo}(h:MF x=true)(e:Ev):MF (x.doR e)=true:=by unfold Wo.doR;rw[G h];exact Fp h e
theorem vQ{d:Dk}{c:Ch}(h:d.ok n)(a:c.1.size<=30000/\c.2.1.size<=30000):(XC d c).1.ok (n+1) :=⟨h.w,by have:=h.l;simp[XC];omega,λx b=>by
  rcases BZ.1 b with k|k
  .exact h.s x k
  rw[DL.1 k];exact a⟩
theorem Mh{a:Dk}(h:a.ok n)(f:Q4)(j:List Q4)(l:∀s∈j,s.size<=20000):(QO a f j).1.ok (n+1):=by
 have b:a.ok (n+1):=h.J d
 have g:=λi=>oI (Gh l) i
 have e:∀k,(RH k a j).1.ok (n+1):=λk=>by
  unfold RH
  split
  .refine⟨qO h.w _,?_,?_⟩
   .show(if k=2 then [] else a.b).length<=n+1
    split
    .exact AL
    exact b.l
   show ∀c∈(if k=2 then [] else a.b),_
   split
   .intro c m;cases m
   exact h.s
  exact b
 unfold QO
 split
 .unfold XY
  split
  .exact vQ h ⟨AJ (g 0) δ,AJ (g 1) δ⟩
  exact b
 split
 .unfold YJ
  split
  .exact vQ h ⟨AJ (g 0) δ,AL⟩
  exact b
 split
 .unfold YQ;split<;>exact b
 split
 .unfold YN;split<;>exact b
 split
 .unfold YS;split<;>exact b
 split
 .unfold bn
  split
  .exact⟨qO h.w _,b.l,h.s⟩
  exact b
 split
 .unfold UR
  split
  .split
   .rename_i k;exact⟨tr k,b.l,h.s⟩
   exact b
  exact b
 split
 .exact e 1
 split
 .exact e 2
 split
 .exact e 3
 split
 .exact e 4
 exact b
theorem Et(a:s.size<=20000):∀t∈(MO 32 s).drop 1,t.size<=20000:=λt b=>AJ (qz (FA b)) a
theorem Qh{a:Dk}(h:a.ok n)(b:s.size<=20000):(OX a s).1.ok (n+1):=by
 unfold OX
 split
 .exact h.J d
 exact Mh h _ _ (Et b)
theorem t8{t:Q4}(a:t.size<=20000)(h:s∈WP t):s.size<=20000:=by
 have:s∈MO 10 t:=by
  unfold WP at h
  split at h
  .exact(List.dropLast_sublist _).subset h
  exact h
 exact AJ (qz this) a
theorem rj:∀(ls:List Q4) (d:Dk) (n:Nat),d.ok n->(∀s∈ls,s.size<=20000)->(UU d ls).ok (n+ls.length)
 | [],d,n,h,_=>h
 | s::r,d,n,h,hs=>(rj r _ (n+1) (Qh h (hs s σ)) (λt ht=>hs t (by simp[ht]))).J τ
theorem UT(h:n<1000000000):(y0p n).size<=9:=yu 8 n h
theorem vF(h:s.size<=100):(shO s).size<=300:=by
 unfold shO
 split
 .exact(by decide:(1:Nat)<=300)
 split
 .exact(by decide:(3:Nat)<=300)
 have:=pS s.data.toList
 have e:s.data.toList.length=s.size:=z;show(UP s.data.toList).length<=300;omega
theorem mV{a:List Pr}{k v:Q4}(h:MJ a k=some v):v.size<=100:=by
 unfold MJ at h
 split at h
 .rename_i c
  obtain⟨p,b,rfl⟩:=EC.1 h;have:=(((NW a).1 c).2.1 p (List.mem_of_find?_eq_some b)).2;unfold PA at this;simpa using this
 cases h
theorem Dw(x:Wo)(k:Q4):(YM x k).size<=300:=by
 unfold YM
 cases e:MJ (x.P.getD (x.P.length-1) []) k with
 | none=>exact(by decide:(4:Nat)<=300)
 | some v=>exact vF (mV e)
theorem I9(x:Wo):(XK x).size<=300:=by
 have a:(y0p (ON x).2.toNat).size<=9:=UT (by have:=nU x;omega);have b:(y0p (ON x).1.length).size<=9:=UT (by have:=qm x;omega)
 have c:(ae x).size<=40:=by
  unfold ae
  split<;>(simp only[AP];show _+7+_+6<=40;omega)
 unfold XK
 split
 .omega
 rw[AP];show _+7<=300;omega
theorem Cj{x:Wo}(h:MF x=true):(XR x).size<=300:=by
 unfold XR
 split
 .rename_i b
  have a:QJ x=true:=by unfold MF at h;simp only[BF]at h;exact h.2.2.1
  unfold QJ at a;rw[G b]at a;unfold OW at a;simp only[BF,BH]at a;have f:=a.1.1.1.1.2;have g:=QS a.1.1.1.1.1.1.1.2;have c:(y0p x.U.toNat).size<=9:=UT d;have e:(y0p (hv x.S).toNat).size<=9:=UT d;simp only[AP];show _+4+_<=300;omega
 exact(by decide:(4:Nat)<=300)
theorem Gd(x:Wo)(e:Ev):(cw x e).size<=300:=by
 have a:(y0p (qIJ x e)).size<=9:=UT (by have:=oQ x e;omega);unfold cw;rw[AP]
 split
 .show 3+_<=300;omega
 show 5+_<=300;omega
theorem nP{d:Dk}(h:d.ok n)(f:n<=1000)(s:Q4):(OX d s).2.size<=300:=by
 have a:NT.size<=300:=δ
 have e:∀c,(XC d c).2.size<=300:=λc=>by
  have b:(y0p (d.b.length+1)).size<=9:=UT (by have:=h.l;omega);show((⟨#[119,97,105,116,32]⟩:Q4)++y0p (d.b.length+1)).size<=300;rw[AP];show 5+_<=300;omega
 have b:∀k c,(RH k d c).2.size<=300:=λk c=>by
  unfold RH
  split
  .exact Gd _ _
  exact a
 unfold OX
 split
 .exact a
 unfold QO
 split
 .unfold XY
  split
  .exact e _
  exact a
 split
 .unfold YJ
  split
  .exact e _
  exact a
 split
 .unfold YQ
  split
  .exact Dw _ _
  exact a
 split
 .unfold YN
  split
  .exact I9 _
  exact a
 split
 .unfold YS
  split
  .exact Cj h.w
  exact a
 split
 .unfold bn
  split
  .exact(by decide:YX.size<=300)
  exact a
 split
 .unfold UR
  split
  .split
   .exact(by decide:(2:Nat)<=300)
   exact(by decide:(2:Nat)<=300)
  exact a
 split
 .exact b _ _
 split
 .exact b _ _
 split
 .exact b _ _
 split
 .exact b _ _
 exact a
end
section
open Tryz
open Go.RowKit nw
def ir(s:Q4):Int:=if s=fo then 1 else if s=em then 2 else if s=gq then 3 else if s=fj then 4 else 0
theorem VR{s:Q4}{l:List UInt8}(h:s=⟨l.toArray⟩):(s.toList == l)=true:=by rw[TO,h];simp
theorem VL{s:Q4}{l:List UInt8}(h:¬s=⟨l.toArray⟩):(s.toList == l)=false:=by rw[TO];exact BL.2 (λe=>h (VT (by rw[e])))
theorem Cl(s:Q4)(w:Q9):Calls prog 50 #[Ow s] w λr a=>r=Q2 (Z (ir s))/\a=w:=by
 unfold ir
 by_cases a:s=fo
 .rw[G a]
  have b:=VR (l:=[111,112,101,110]) a;clear a;go_enter func50,ntmps50;go_wp2;exact H (v:=Z 1) (by simp[results,results50]) z ⟨z,z⟩
 rw[A a];have b:=VL (l:=[111,112,101,110]) a;clear a
 by_cases a:s=em
 .rw[G a]
  have c:=VR (l:=[99,111,109,109,105,116]) a;clear a;go_enter func50,ntmps50;go_wp2;exact H (v:=Z 2) (by simp[results,results50]) z ⟨z,z⟩
 rw[A a];have c:=VL (l:=[99,111,109,109,105,116]) a;clear a
 by_cases a:s=gq
 .rw[G a]
  have k3:=VR (l:=[102,108,117,115,104]) a;clear a;go_enter func50,ntmps50;go_wp2;exact H (v:=Z 3) (by simp[results,results50]) z ⟨z,z⟩
 rw[A a];have k3:=VL (l:=[102,108,117,115,104]) a;clear a
 by_cases a:s=fj
 .rw[G a]
  have d:=VR (l:=[99,111,109,112,97,99,116]) a;clear a;go_enter func50,ntmps50;go_wp2;exact H (v:=Z 4) (by simp[results,results50]) z ⟨z,z⟩
 rw[A a];have d:=VL (l:=[99,111,109,112,97,99,116]) a;clear a;go_enter func50,ntmps50;go_wp2;exact H (v:=Z 0) (by simp[results,results50]) z ⟨z,z⟩
theorem ul(C W S L T H F R U O:Int)(a b:Ra)(w:Q9):Sem.run prog (Instr.field 115 (.agg #[Z C,Z W,Z S,Z L,Z T,Z H,Z F,Z R,Z U,Z O,a,b]) 0) w=.ok (Z C) w:=h
theorem En{x:Wo}{e:Ev}{D:Dd}(h:x.call e=(D,false)):(qIJ x e:Int)=9:=by unfold qIJ;rw[h];rfl
theorem P9{x:Wo}{e:Ev}{D:Dd}(h:x.call e=(D,true)):(qIJ x e:Int)=D.C:=by
 have:=lT x e;unfold qIJ;rw[h]at this⊢;rw[G z];have a:0<=D.C:=this.1;show((D.C.toNat:Nat):Int)=D.C;omega
theorem F7(b:Wo)(q:Wp)(e:Ev)(a:Q5)(c:Nat)(f:Q5)(i:Nat)(w:Q9)(h:b.at w q)(hc:b.rs.length<=q.cs)(u:b.le 1048576)(h2:Chs w a e.b)(he:e.le)(x:1<=e.K/\e.K<=4)(hv:Vz w):Calls prog 89 #[MD b q,OQ e a c f i] w λr g=>r=Q2 (Z (qIJ b e:Int))/\Q3 w g:=by
 have d:=LE (λg l o (k3:Vz g)=>show Calls prog 100 _ g _ by
  obtain⟨ty,gv,hn⟩:=k3.np
  exact lO q.a b.ss q.c q.a' b.ws q.c' b.w g l o u.l1 u.l2 u.s1 u.s2 ty gv hn k3.et (by have:=k3.sz;omega))
 have M:=LE (λg l o=>Bm b.W b.S b.L b.T b.H b.F b.R b.U b.O q.s b.rs q.cs a e.b c g l hc u.l3 u.s3 o he.b.1 he.b.2);have P:=LE (λg l=>zU b.W b.S b.L b.T b.H b.F b.R b.U b.O q.s b.rs q.cs g l hc u.l3 u.s3);have Q:=LE (λg l=>A7 b.W b.S b.L b.T b.H b.F b.R b.U b.O q.s b.rs q.cs g l hc u.l3 u.s3);unfold LR at d;unfold NA at M P Q;have aG:=LE (λD (k:b.call e=(D,false))=>En k);have X:=LE (λD (k:b.call e=(D,true))=>P9 k);obtain⟨N,HN⟩:=nHz ((qIJ b e:Int):Int);rw[<-HN.j]at aG X⊢;have V:=LE h;have aN:=LE h2;have HV:=LE hv;clear h h2 hc u he hv;unfold MD OQ;go_enter func89,ntmps89;go_upto_region 1 with fail;generalize j:w.alloc _=v;obtain⟨g,t,B⟩:=LP j;clear j;generalize j:v.alloc _=p;obtain⟨m,y,s⟩:=LP j;clear j;rw[t]at s y;have j:=g.E (m.J g.size);have n:=(B.I m).q;have J:=s.q;clear g m B s t y
 have e0:=J.y 0;have el:=J.lt;have y:=n.y 3;have dl:=n.lt
 by_cases l:e.K=1
 .have kb:(e.K == 1)=true:=by simp[l]
  have m:b.call e=(OL b.ss b.ws b.w,!b.up):=by unfold Wo.call;rw[G l]
  clear l x M P Q
  cases hu:b.up with
  | true =>
   rw[hu]at m y;have s:=LE (aG.j _ m);go_wp2;refine H (v:=Z 9) (by simp[results,results89]) z ⟨by rw[s.j],j⟩
  | false =>
   rw[hu]at m y;have s:=LE (X.j _ m);obtain⟨g,t,B⟩:=n.k3;go_wp2_with fail;clear g t B y e0 el dl;refine(d.j p (V.j.I j).h1 (V.j.I j).h2 (HV.j.I j)).J ?_;rintro r K ⟨⟨oa,oc,ob,oe,rfl,aA,own,B,E,t⟩,I⟩;unfold MT;clear I own B E;have B:=LE (j.E (t.J j.size));clear t j n J
   have t:=λC W S L T g F R U O v p=>ul C W S L T g F R U O v p K
   go_wp2;refine H (v:=Z (OL b.ss b.ws b.w).C) (by simp[results,results89]) z ⟨by rw[s.j],B.j⟩
 have kb:(e.K == 1)=false:=by simp[l]
 cases hu:b.up with
 | false =>
  have m:∃D,b.call e=(D,false):=by
   unfold Wo.call;rw[A l,hu]
   by_cases o:e.K=2
   .rw[G o];exact⟨_,z⟩
   rw[A o]
   by_cases k3:e.K=3
   .rw[G k3];exact⟨_,z⟩
   rw[A k3,G ω];exact⟨_,z⟩
  obtain⟨D,m⟩:=m;have s:=LE (aG.j _ m);rw[hu]at y;clear m l x M P Q d;go_wp2;refine H (v:=Z 9) (by simp[results,results89]) z ⟨by rw[s.j],j⟩
 | true =>
 rw[hu]at y;have d4:=n.y 4;have d5:=n.y 5;have d6:=n.y 6;have d7:=n.y 7;have d8:=n.y 8;have d9:=n.y 9;have aH:=n.y 10;have aI:=n.y 11;have aJ:=n.y 12;have aK:=n.y 13;clear d
 by_cases o:e.K=2
 .have d:(e.K == 2)=true:=by simp[o]
  have m:b.call e=(QV b.W b.S b.L b.T b.H b.F b.R b.U b.O b.rs e.b,true):=by unfold Wo.call;rw[A l,G o,hu]
  have s:=LE (X.j _ m);have t:=J.y 1;clear l o x P Q m;go_wp2_with fail;clear y d4 d5 d6 d7 d8 d9 aH aI aJ aK e0 t el dl;refine(M.j p (V.j.I j).h3 (aN.j.I j)).J ?_;rintro r K ⟨⟨oa,oc,ob,oe,rfl,aA,own,B,E,t⟩,I⟩;unfold MT;clear I own B E;have B:=LE (j.E (t.J j.size));clear t j n J
  have t:=λC W S L T g F R U O v p=>ul C W S L T g F R U O v p K
  go_wp2;refine H (v:=Z (QV b.W b.S b.L b.T b.H b.F b.R b.U b.O b.rs e.b).C) (by simp[results,results89]) z ⟨by rw[s.j],B.j⟩
 have d:(e.K == 2)=false:=by simp[o]
 by_cases k3:e.K=3
 .have aP:(e.K == 3)=true:=by simp[k3]
  have m:b.call e=(RM b.W b.S b.L b.T b.H b.F b.R b.U b.O b.rs,true):=by unfold Wo.call;rw[A l,A o,G k3,hu]
  have s:=LE (X.j _ m);clear l o k3 x M Q m;go_wp2_with fail;clear y d4 d5 d6 d7 d8 d9 aH aI aJ aK e0 el dl;refine(P.j p (V.j.I j).h3).J ?_;rintro r K ⟨⟨oa,oc,ob,oe,rfl,aA,own,B,E,t⟩,I⟩;unfold MT;clear I own B E;have B:=LE (j.E (t.J j.size));clear t j n J
  have t:=λC W S L T g F R U O v p=>ul C W S L T g F R U O v p K
  go_wp2;refine H (v:=Z (RM b.W b.S b.L b.T b.H b.F b.R b.U b.O b.rs).C) (by simp[results,results89]) z ⟨by rw[s.j],B.j⟩
 have aP:(e.K == 3)=false:=by simp[k3]
 have m:b.call e=(QL b.W b.S b.L b.T b.H b.F b.R b.U b.O b.rs,true):=by unfold Wo.call;rw[A l,A o,A k3,G ω,hu]
 have s:=LE (X.j _ m);clear l o k3 x M P m;go_wp2_with fail;clear y d4 d5 d6 d7 d8 d9 aH aI aJ aK e0 el dl;refine(Q.j p (V.j.I j).h3).J ?_;rintro r K ⟨⟨oa,oc,ob,oe,rfl,aA,own,B,E,t⟩,I⟩;unfold MT;clear I own B E;have B:=LE (j.E (t.J j.size));clear t j n J
 have t:=λC W S L T g F R U O v p=>ul C W S L T g F R U O v p K
 go_wp2;refine H (v:=Z (QL b.W b.S b.L b.T b.H b.F b.R b.U b.O b.rs).C) (by simp[results,results89]) z ⟨by rw[s.j],B.j⟩
end
section
open Tryz
open Go.RowKit nw
@[reducible] def NF(x:Wo)(q:Wp):List Ra:=(wL x q)
@[reducible] def nn(d:Dk)(q:Wp)(a:Q5)(c:Nat):List Ra:=[Z d.x.w,Y q.a d.x.ss.length q.c,Y q.a' d.x.ws.length q.c',Q1 d.x.up,Z d.x.W,Z d.x.S,Z d.x.L,Z d.x.T,Z d.x.H,Z d.x.F,Z d.x.R,Z d.x.U,Z d.x.O,Y q.s d.x.rs.length q.cs,Y q.p d.x.P.length q.cp,Y q.t d.x.ts.length q.ct,Y a d.b.length c]
structure DkN(w:Q9)(B:Nat)(d:Dk)(G:Nat->Prop)(q:Wp)(a:Q5)(c:Nat):Prop where
 r:Row w B (nn d q a c)
 m:DepF w (λb=>G b/\b≠B/\(Y a d.b.length c).ownBlock≠some b) (λW=>d.x.at W q)
 o:w.ownsRow (B+1) 102 3 (Y a d.b.length c) d.b.length (NL d.b)
 gB:G B
 gO:∀b,(Y a d.b.length c).ownBlock=some b->G b
structure DkI(w:Q9)(B:Nat)(d:Dk)(G:Nat->Prop)(q:Wp)(a:Q5)(c:Nat):Prop extends DkN w B d G q a c where
 cap:d.x.rs.length<=q.cs
structure Fr(w w':Q9)(G:Nat->Prop):Prop where
 os:w'.os=w.os
 tape:w'.tape=w.tape
 output:w'.output=w.output
 size:w.heap.size<=w'.heap.size
 block:∀b,b<w.heap.size->¬G b->w'.heap[b]?=w.heap[b]?
section
variable {w w' w1 v u:Q9} {B:Nat} {d:Dk} {G H:Nat->Prop} {q q':Wp} {a:Q5} {c:Nat}
theorem SU{f:Nat}{e:TypeId}{s:Nat}{x:Ra}{n:Nat}{o:List Ra}(h:w.ownsRow f e s x n o){b:Nat}(k:x.ownBlock=some b):f<=b/\b<w.heap.size:=by
 rcases h.2 with ⟨rfl,_⟩|⟨g,i,j,rfl,l,m,_⟩
 .cases k
 cases k
 exact⟨l,(AR.1 m).1⟩
theorem DkN.step(h:DkN w B d G q a c)(e:Below 0 w w')(f:∀b,G b->b<w.heap.size->w'.heap[b]?=w.heap[b]?):DkN w' B d G q a c :=⟨VM h.r (f B h.gB h.r.lt) (AC h.r.lt e.size),h.m.step e (λb k l=>f b k.1 l),(aj (F:=G) h.o h.gO).keep w' e f,h.gB,h.gO⟩
theorem DkN.I(h:DkN w B d G q a c)(e:Q3 w w'):DkN w' B d G q a c:=h.step (e.J AL) (λb _ l=>e.block b l)
theorem DkN.J(h:DkN w B d G q a c)(e:∀b,b<w.heap.size->G b->H b):DkN w B d H q a c :=⟨h.r,h.m.J (λb l k=>⟨e b l k.1,k.2⟩),h.o,e B h.r.lt h.gB,λb k=>e b (SU h.o k).2 (h.gO b k)⟩
theorem DkN.chs(h:DkN w B d G q a c):Chs w a d.b:=by
 rcases MS h.o with ⟨b,e⟩|⟨g,f,b,e,_,i⟩
 .exact .inl (AD e)
 cases b
 exact i.chs
theorem Fr.refl(w:Q9)(G:Nat->Prop):Fr w w G:=⟨rfl,rfl,rfl,AA,λ_ _ _=>rfl⟩
theorem SW(e:Q3 w w'):Fr w w' G:=⟨e.os,e.tape,e.output,e.size,λb l _=>e.block b l⟩
theorem Fr.E(h:Fr w v G)(k:Fr v u H)(f:∀b,b<w.heap.size->H b->G b):Fr w u G :=⟨k.os.E h.os,k.tape.E h.tape,k.output.E h.output,AJ h.size k.size,λb l n=>(k.block b (AC l h.size) (λe=>n (f b l e))).E (h.block b l n)⟩
theorem ii{r:Option Nat}(f:w.grownBy w' r)(h:∀g,r=some g->G g):Fr w w' G:=⟨f.os,f.tape,f.output,f.size,λb l n=>f.block b l (λe=>n (h b e.symm))⟩
abbrev PO(w w':Q9)(G:Nat->Prop):Nat->Prop:=λb=>G b\/(w.heap.size<=b/\b<w'.heap.size)
theorem DkN.world{y:Wo}(h:DkN w B d G q a c)(m:Q3 w w1)(n:DepF w1 (λb=>w.heap.size<=b/\b<w1.heap.size) (λW=>y.at W q')):DkN (w1.setCells B 0 (NF y q')) B ⟨y,d.b⟩ (PO w (w1.setCells B 0 (NF y q')) G) q' a c/\Fr w (w1.setCells B 0 (NF y q')) G:=by
 have i:=h.I m;have p:=h.r.lt;have f:=QF w1 B 0 (NF y q');have o:(w1.setCells B 0 (NF y q')).heap.size=w1.heap.size:=UV B _ 0 w1
 have j:∀b,(Y a d.b.length c).ownBlock=some b->b≠B/\b<w.heap.size:=λb k=>by have:=SU h.o k;omega
 refine⟨⟨?_,?_,?_,.inl h.gB,λb k=>.inl (h.gO b k)⟩,(SW m).E (ii (G:=G) f (λg e=>by cases e;exact h.gB)) (λb _ k=>k)⟩
 .exact Row.setsMid (pre:=[]) (cs:=NF d.x q) (post:=[Y a d.b.length c]) i.r (NF y q') rfl
 .refine(n.V f (λg e k=>by cases e;omega)).J (λb l k=>⟨.inr ⟨k.1,by rw[o];exact k.2⟩,ω,λe=>?_⟩)
  have:=(j b e).2;omega
 exact(aj (F:=λb=>b≠B) i.o (λb k=>(j b k).1)).keep _ (MU f AL (λ_ _=>AL)) (λb k l=>f.block b l (λe=>k (by cases e;rfl)))
theorem DkN.wait{ch:Ch}{g f:Nat}(h:DkN w B d G q a c)(j:w.grownBy w1 (Y a d.b.length c).ownBlock)(p:w1.ownsRow (B+1) 102 3 (Y (Hw g 0) (d.b.length+1) f) (d.b.length+1) (NL (d.b++[ch])))(m:(Y a d.b.length c).ownBlock=some g\/w.heap.size<=g):DkN (w1.setCell (Ki B 16) (Y (Hw g 0) (d.b.length+1) f)) B ⟨d.x,d.b++[ch]⟩ (PO w (w1.setCell (Ki B 16) (Y (Hw g 0) (d.b.length+1) f)) G) q (Hw g 0) f/\Fr w (w1.setCell (Ki B 16) (Y (Hw g 0) (d.b.length+1) f)) G:=by
 have A:=h.r.lt
 have t:∀b,(Y a d.b.length c).ownBlock=some b->b≠B/\b<w.heap.size:=λb k=>by have:=SU h.o k;omega
 have y:=SU p (b:=g) rfl
 have s:G g\/w.heap.size<=g/\g<w1.heap.size:=by
  rcases m with k|k
  .exact .inl (h.gO g k)
  exact .inr ⟨k,y.2⟩
 have i:=NZ (BC w1 (some B)) 16 (Y (Hw g 0) (d.b.length+1) f);have x:(w1.setCell (Ki B 16) (Y (Hw g 0) (d.b.length+1) f)).heap.size=w1.heap.size:=BI _ _ _;have z:=h.r.V j (λe=>(t B e.symm).1 rfl);have o:(d.b++[ch]).length=d.b.length+1:=σ
 refine⟨⟨?_,?_,?_,.inl h.gB,λb k=>?_⟩,(ii (G:=G) j h.gO).E (ii (G:=G) i (λg e=>by cases e;exact h.gB)) (λb _ k=>k)⟩
 .have:=z.set 16 σ (Y (Hw g 0) (d.b.length+1) f)
  show Row _ B (nn ⟨d.x,d.b++[ch]⟩ q (Hw g 0) f);unfold nn;rw[o];exact this
 .show DepF _ (λb=>_/\b≠B/\(Y (Hw g 0) (d.b++[ch]).length f).ownBlock≠some b) (λW=>d.x.at W q)
  refine(((h.m.J (G:=λb=>b<w.heap.size/\G b/\b≠B/\(Y a d.b.length c).ownBlock≠some b) (λb l k=>⟨l,k⟩)).V j (λb e k=>k.2.2.2 e)).V i (λb e k=>k.2.2.1 (by cases e;rfl))).J (λb l k=>⟨.inl k.2.1,k.2.2.1,λe=>?_⟩);have n:g=b:=BQ e;subst n;rcases m with r|r
  .exact k.2.2.2 r
  exact absurd k.1 ω
 .show World.ownsRow _ (B+1) 102 3 (Y (Hw g 0) (d.b++[ch]).length f) (d.b++[ch]).length (NL (d.b++[ch]))
  rw[o];exact(aj (F:=λb=>b≠B) p (λb k=>by have n:g=b:=BQ k;omega)).keep _ (MU i AL (λ_ _=>AL)) (λb k l=>i.block b l (λe=>k (by cases e;rfl)))
 cases k
 rcases s with k|k
 .exact .inl k
 exact .inr ⟨k.1,by rw[x];exact k.2⟩
theorem DkN.clear{a':Q5}(h:DkN w B d G q a c)(j:Q3 w w1)(m:w1.ownsRow (B+1) 102 3 (Y a' 0 0) 0 [])(i:∀b,(Y a' 0 0).ownBlock=some b->w.heap.size<=b):DkN (w1.setCell (Ki B 16) (Y a' 0 0)) B ⟨d.x,[]⟩ (PO w (w1.setCell (Ki B 16) (Y a' 0 0)) G) q a' 0/\Fr w (w1.setCell (Ki B 16) (Y a' 0 0)) G:=by
 have p:=h.r.lt;have n:=h.I j;have f:=NZ (BC w1 (some B)) 16 (Y a' 0 0);have o:(w1.setCell (Ki B 16) (Y a' 0 0)).heap.size=w1.heap.size:=BI _ _ _;refine⟨⟨n.r.set 16 σ (Y a' 0 0),?_,?_,.inl h.gB,λb k=>.inr ⟨i b k,by rw[o];exact(SU m k).2⟩⟩,(SW j).E (ii (G:=G) f (λg e=>by cases e;exact h.gB)) (λb _ k=>k)⟩
 .show DepF _ (λb=>_/\b≠B/\(Y a' 0 0).ownBlock≠some b) (λW=>d.x.at W q)
  refine(((h.m.J (G:=λb=>b<w.heap.size/\G b/\b≠B) (λb l k=>⟨l,k.1,k.2.1⟩)).I j).V f (λb e k=>k.2.2 (by cases e;rfl))).J (λb l k=>⟨.inl k.2.1,k.2.2,λe=>?_⟩);have:=i b e;have:=k.1;omega
 exact(aj (F:=λb=>b≠B) m (λb k=>by have:=i b k;omega)).keep _ (MU f AL (λ_ _=>AL)) (λb k l=>f.block b l (λe=>k (by cases e;rfl)))
theorem tS{x:Wo}{o:Nat->Nat}{g f:Nat}(h:RY x w q o)(m:∀b,o b≠0->g<=b/\b<f):DepF w (λb=>g<=b/\b<f) (λW=>x.at W q) :=⟨h.at,λw' e i=>(h.only (K:=λk=>k=0) ⟨e.os,e.tape,e.output,e.size,λb j l=>i b (m b l) j⟩ (λ_ k=>k)).at⟩
theorem DkI.step(h:DkI w B d G q a c)(e:Below 0 w w')(f:∀b,G b->b<w.heap.size->w'.heap[b]?=w.heap[b]?):DkI w' B d G q a c:=⟨h.toDkN.step e f,h.cap⟩
theorem DkI.I(h:DkI w B d G q a c)(b:Q3 w w'):DkI w' B d G q a c:=⟨h.toDkN.I b,h.cap⟩
theorem DkI.J(h:DkI w B d G q a c)(e:∀b,b<w.heap.size->G b->H b):DkI w B d H q a c:=⟨h.toDkN.J e,h.cap⟩
end
end
section
open Tryz
open Go.RowKit nw
theorem Fr.vz{w a:Q9}{G:Nat->Prop}(h:Fr w a G)(c:∀b,G b->10<=b)(hv:Vz w):Vz a:=hv.low ⟨h.os,h.tape,h.output,h.size,λb d=>h.block b (AC d hv.sz) (λk=>by have:=c b k;omega)⟩
theorem uV(o:List Ch)(c:Ch):NL (o++[c])=NL o++[Ow c.1,Ow c.2.1,Q1 c.2.2]:=by rw[oU];rfl
theorem Bj:(prog.info? 102).map (λi=>(i.size,i.zero.isSome,(i.zero.getD undef).cells.size,decide (i.bytes<=1000)))=some (3,true,3,true):=h
theorem vP{P:Program}{t:TypeId}{n:Nat}(h:(P.info? t).map (λi=>(i.size,i.zero.isSome,(i.zero.getD undef).cells.size,decide (i.bytes<=1000)))=some (n,true,n,true)):∃i a,P.info? t=some i/\i.zero=some a/\i.size=n/\a.cells.size=n/\i.bytes<=1000:=by
 cases hi:P.info? t with
 | none=>rw[hi]at h;cases h
 | some i =>
  rw[hi]at h;simp only[Option.map_some,EZ,EK,BH]at h;obtain⟨d,b,c,e⟩:=h
  cases hz:i.zero with
  | none=>rw[hz]at b;cases b
  | some a=>rw[hz]at c;exact⟨i,a,z,hz,d,c,e⟩
theorem yL(g:Dk)(B:Nat)(G:Nat->Prop)(q:Wp)(a:Q5)(c:Nat)(k v:Q4)(s:Bool)(w:Q9)(m:DkI w B g G q a c)(hl:g.b.length<=1000)(hG:∀i,G i->10<=i)(hv:Vz w):Calls prog 57 #[Dr B 0,.agg #[Ow k,Ow v,Q1 s]] w λr e=>r=Q2 (Ow (XC g (k,v,s)).2)/\(∃o l n,DkI e B (XC g (k,v,s)).1 (PO w e G) o l n)/\Fr w e G:=by
 obtain⟨V,z3,o,t,p,n,l⟩:=vP Bj;have N:=LE (I o (I t (I p (I n l))));clear o t p n l;have lB:=m.r.lt;have X:=LE (λe k=>qh (g.b.length+1) d e k);go_enter func57,ntmps57;go_upto_region 1 with fail;generalize l:w.alloc _=L;obtain⟨T,bB,b2⟩:=LP l;clear l;have K:Q3 w L.drew:=T.E (((@AB L.heap.size L).drew).J T.size);have n:=m.I K;have o:=(b2.I (@AB L.heap.size L).drew).q;have lz:=K.size;refine WN (10) (S:=λe=>Row e B (nn g q a c)/\Row e w.heap.size [Ow k,Ow v,Q1 s]) κ (⟨n.r,o⟩) (λF=>?_);refine OK 0 (Dr B 0) z F (OK 1 (Dr B 0) z F (ME 2 (Dr B 0) z (b ⟨f,λw t=>by obtain⟨C,E⟩:=t;have l:=C.lt;go_simp⟩) F (ME 3 (Dr B 16) z (b ⟨f,λw t=>by obtain⟨C,E⟩:=t;have l:=C.lt;go_simp⟩) F (ME 4 (Y a g.b.length c) z (b ⟨f,λw t=>by obtain⟨C,E⟩:=t;have cc:=C.y 16;go_simp⟩) F (ME 5 (.agg #[Ow k,Ow v,Q1 s]) z (b ⟨f,λw t=>by obtain⟨C,E⟩:=t;have c0:=E.y 0;have c1:=E.y 1;have c2:=E.y 2;have l:=E.lt;go_simp⟩) F ?_)))))
 simp only[PS];refine OJ 6 z (λS H=>?_);generalize e:L.drew=y at n o K lz⊢;clear e;go_simp;obtain⟨y2,e⟩:=nMz (y.alloc (.cells #[Ow k,Ow v,Q1 s] 102));rw[<-e];have W:=LZ y #[Ow k,Ow v,Q1 s] 102;have O:=LH y (.cells #[Ow k,Ow v,Q1 s] 102);rw[<-e]at W O;clear e;have p:=n.I O;have U:=o.I O;have Q:=K.E (O.J K.size);clear n o;refine H.j _ _ (⟨p.r,U⟩) (λaW=>?_)
 try simp only[PS]
 refine OJ 7 z (λS H=>?_);refine step_append_lies _ z _ _ 49 z (B+1) 102 V z3 3 V.bytes underlying49 N.j.1 N.j.2.1 N.j.2.2.1 z N.j.2.2.2.1 d (Y a g.b.length c) g.b.length (NL g.b) z p.o (Ki y.heap.size 0) 1 1 [Ow k,Ow v,Q1 s] z z (λe n o=>by have:=W.cell e n o;rw[gx];exact this) (by intro n hu;simp at hu;rcases hu with rfl|rfl|rfl<;>rfl) d (by unfold maxLen;omega) (by have:=N.j.2.2.2.2;have:(g.b.length+1)*V.bytes<=1001*1000:=Nat.mul_le_mul d this;omega) (by have:=Q.size;omega) _ z ?_;intro g9 aL u3 aK A h aZ
 have J:∀i,(Y a g.b.length c).ownBlock=some i->i≠B/\i≠w.heap.size:=λi o=>⟨by have:=SU p.o o;omega,by have:=SU m.o o;omega⟩
 refine H.j _ _ (⟨p.r.V A (λe=>(J B e.symm).1 z),U.V A (λe=>(J _ e.symm).2 z)⟩) (λD=>?_)
 try simp only[PS]
 refine OJ 8 z (λS H=>?_);have M:=(p.r.V A (λe=>(J B e.symm).1 z)).lt;go_simp;clear M;refine H.j _ _ D (λ_=>?_)
 try simp only[PS]
 refine ME 9 (Dr B 16) z (b ⟨f,λw t=>by obtain⟨C,E⟩:=t;have l:=C.lt;go_simp⟩) D ?_;simp only[PS];refine QZ (rs:=[10]) κ σ ?_;refine AllReadyT.last z (λS H=>?_);have M:=(p.r.V A (λe=>(J B e.symm).1 z)).y 16;have P:=(p.r.V A (λe=>(J B e.symm).1 z)).A 16;have t:=(p.r.V A (λe=>(J B e.symm).1 z)).lt;go_simp;clear M P t;refine H.j _ _ trivial (λ_=>?_)
 try simp only[PS]
 refine VE κ ?_ _;have x:=p.wait (ch:=(k,v,s)) A (by rw[uV];exact aK) (h.imp_right (λe=>Nat.le_of_eq e.symm));generalize e:u3.setCell _ _=y4 at x⊢;clear e;obtain⟨e,j⟩:=x;replace e:=DkI.mk e p.cap;have R:Fr w y4 G:=(SW Q).E j (λi _ k=>k);have t:=e.J (H:=PO w y4 G) (λi l o=>o.imp_right (λo=>⟨by have:=Q.size;omega,o.2⟩));obtain⟨M,P⟩:=nHz (g.b.length+1);have c16:=t.r.y 16;rw[show((⟨g.x,g.b++[(k,v,s)]⟩:Dk).b.length)=M by rw[P.j];simp]at c16;have l5:=t.r.lt;rw[<-P.j]at X;have hV:=LE (R.vz hG hv);have u:=LE (I t R);clear e j t R p U W A aK h aZ J Q K O T b2 m hv F;go_wp2_with fail;refine(X.j _ hV.j).J ?_;rintro r F ⟨rfl,p⟩;have e:=LE p;clear p c16 l5;have p:(y0p M).size<=9:=UT (by have:=P.j;omega);have J:¬(9223372036854775807<5+(y0p M).size):=d
 have t:(y0p M).size<=9223372036854775802:=d
 have A:¬(9223372036854775802<(y0p M).size):=d
 clear p;go_wp2;go_ret;refine⟨?_,⟨q,Hw g9 0,aL,?_⟩,u.j.2.E (SW e.j) (λi _ o=>o)⟩
 .show Q2 (Ow ((⟨#[119,97,105,116,32]⟩:Q4)++y0p M))=_
  rw[P.j];rfl
 exact(u.j.1.I e.j).J (λi l o=>o.imp_right (λo=>⟨o.1,AC o.2 e.j.size⟩))
end
section
open Tryz
open Go.RowKit nw
variable {us:List Q4}
def UQ(w b:Q9)(B:Nat)(G:Nat->Prop)(r:Ending)(p:Dk×Q4)(d:Bool):Prop:=r=Q2 (.tuple #[Ow (if d=true then p.2 else ⟨#[]⟩),Q1 d])/\(∃q a c,DkI b B p.1 (PO w b G) q a c)/\Fr w b G
theorem au{w f:Q9}{B:Nat}{G:Nat->Prop}{d:Dk}{q:Wp}{a:Q5}{c:Nat}(h:DkI w B d G q a c)(e:Q3 w f)(s:Q4):UQ w f B G (Q2 (.tuple #[Ow ⟨#[]⟩,Q1 false])) (d,s) false:=⟨z,⟨q,a,c,(h.I e).J (λb _ k=>.inl k)⟩,SW e⟩
theorem jn{w f:Q9}{B:Nat}{G:Nat->Prop}{d:Dk}{q:Wp}{a:Q5}{c:Nat}(h:DkI w B d G q a c)(e:Q3 w f)(s:Q4):UQ w f B G (Q2 (.tuple #[Ow s,Q1 true])) (d,s) true:=⟨z,⟨q,a,c,(h.I e).J (λb _ k=>.inl k)⟩,SW e⟩
def RA(n:Nat)(us:List Q4):Bool:=TL us && decide (us.length=n)
theorem wN{d:Dk}(h:RA 2 us=false):XY d us=(d,NT):=by
 unfold RA at h;unfold XY;rw[A (λk=>by rw[k.1,k.2]at h;simp at h)]
theorem Ba{d:Dk}(h:RA 1 us=false):YJ d us=(d,NT):=by
 unfold RA at h;unfold YJ;rw[A (λk=>by rw[k.1,k.2]at h;simp at h)]
theorem nR{d:Dk}(h:RA 1 us=false):YQ d us=(d,NT):=by
 unfold RA at h;unfold YQ;rw[A (λk=>by rw[k.1,k.2]at h;simp at h)]
theorem J5(e:Dk)(B:Nat)(m:Nat->Prop)(q:Wp)(a:Q5)(c:Nat)(G:Q5)(us:List Q4)(wc:Nat)(w:Q9)(n:DkI w B e m q a c)(hl:e.b.length<=1000)(W:∀i,m i->10<=i/\i<w.heap.size)(hv:Vz w)(t:Strs w G us)(H:us.length<=30000)(aJ:∀s∈us,s.size<=30000):Calls prog 30 #[Dr B 0,Y G us.length wc] w λr o=>UQ w o B m r (XY e us) (RA 2 us):=by
 have A:=LE (pD G us wc w t H aJ);have X:=LE (λo k v (p:DkI o B e m q a c) (V:Vz o)=>yL e B m q a c k v false o p hl (λi k=>(W i k).1) V);have lB:=n.r.lt;have O:=LE (λ(k:RA 2 us=false) o (s:Q3 w o)=>show UQ w o B m (Q2 (.tuple #[Ow ⟨#[]⟩,Q1 false])) (XY e us) (RA 2 us) by rw[k,wN k];exact au n s _);have J:Hid (RA 2 us=(TL us && decide (us.length=2))):=LE z;clear t aJ
 cases hok:TL us with
 | false =>
  rw[hok]at A J;have u:=LE (O.j J.j);clear O J X n hv W hok;go_enter func30,ntmps30;go_wp2_with fail;refine A.j.J ?_;rintro r F ⟨vt,rfl,_,s⟩;have g:=LE s;clear s;go_wp2;exact AE (v:=.tuple #[Ow ⟨#[]⟩,Q1 false]) (by simp[results,results30,go_sem]) z (u.j _ g.j)
 | true =>
 by_cases N:us.length=2
 .have HY:Hid (RA 2 us=true):=LE (by rw[J.j,hok,N];rfl)
  have j:Hid (XY e us=XC e ((QQ us).getD 0 empty,(QQ us).getD 1 empty,false)):=LE (by unfold XY;rw[AI ⟨hok,N⟩]);rw[hok]at A;clear O J H;have g:(QQ us).length=2:=by unfold QQ;rw[BP,N]
  obtain⟨K,L,u⟩:∃K L,QQ us=[K,L]:=by
   match QQ us,g with
   | [x,y],_=>exact⟨x,y,z⟩
  rw[N]at A⊢;rw[u]at A j;clear g u hok;go_enter func30,ntmps30;go_wp2_with fail;refine A.j.J ?_;rintro r F ⟨vt,rfl,y,s⟩;replace y:=y σ;obtain⟨g,R,rfl,aN,aO,u⟩:=(MS y).resolve_left (λk=>by have:=k.2;omega);clear y A;go_upto_region 4 with fail;have Q:Q3 w F.drew:=s.E (((@AB F.heap.size F).drew).J s.size);have S:=n.I Q;have l:=hv.I Q;replace u:=u.I (@AB F.heap.size F).drew;clear s;refine AN (S:=λo=>Row o g [Ow K,Ow L]/\B<o.heap.size) κ (⟨u,S.r.lt⟩) (λC=>?_);refine TY 0 (Dr B 0) z C (TY 1 (Y (Hw g 0) 2 R) z C (TK 2 (Dr g 0) z (b ⟨f,λw t=>by obtain⟨M,d⟩:=t;have o:=M.lt;go_simp⟩) C (TK 3 (Ow K) z (b ⟨f,λw t=>by obtain⟨M,d⟩:=t;have c0:=M.y 0;go_simp⟩) C (TY 4 (Y (Hw g 0) 2 R) z C (TK 5 (Dr g 1) z (b ⟨f,λw t=>by obtain⟨M,d⟩:=t;have o:=M.lt;go_simp⟩) C (TK 6 (Ow L) z (b ⟨f,λw t=>by obtain⟨M,d⟩:=t;have c1:=M.y 1;go_simp⟩) C (TY 7 (.agg #[Ow K,Ow L,Q1 false]) z C ?_)))))))
  simp only[PS];refine RD 8 z (λD P=>?_);generalize E:F.drew=y at u Q S l⊢;clear E;refine LM f _ _ γ (X.j y K L S l) ?_;rintro r y1 ⟨rfl,⟨q5,a5,c5,h⟩,T⟩;refine⟨_,z,?_⟩;have u:=VM u (T.block g u.lt (λE=>by have:=(W g E).2;omega)) (AC u.lt T.size);refine P.j _ _ (⟨u,h.r.lt⟩) (λI=>?_)
  try simp only[PS]
  refine RD 9 z (λD P=>?_);go_simp;refine P.j _ _ I (λ_=>?_)
  try simp only[PS]
  refine RD 10 z (λD P=>?_);go_simp;refine P.j _ _ I (λ_=>?_)
  try simp only[PS]
  refine DN ?_;have U:=LE (AG h (AG T Q));clear h T Q u S l n hv C
  try go_wp2
  refine AE (v:=.tuple #[Ow (XC e (K,L,false)).2,Q1 true]) (by simp[results,results30,go_sem]) z ?_;rw[HY.j,j.j];exact⟨z,⟨q5,a5,c5,U.j.1.J (λi o E=>E.imp_right (λE=>⟨AJ U.j.2.2.size E.1,E.2⟩))⟩,(SW U.j.2.2).E U.j.2.1 (λi _ E=>E)⟩
 have u:=LE (O.j (by rw[J.j,hok,AH N];rfl))
 rw[hok]at A;have C:((us.length:Int) == 2)=false:=BL.2 ω;have o:¬((us.length:Int)=2):=ω
 clear O J X n hv W hok N;go_enter func30,ntmps30;go_wp2_with fail;refine A.j.J ?_;rintro r F ⟨vt,rfl,y,s⟩;obtain⟨i,E,rfl⟩:=YC (y σ);have g:=LE s;clear s y;go_wp2;exact AE (v:=.tuple #[Ow ⟨#[]⟩,Q1 false]) (by simp[results,results30,go_sem]) z (u.j _ g.j)
theorem Dx(e:Dk)(B:Nat)(f:Nat->Prop)(q:Wp)(a:Q5)(c:Nat)(E:Q5)(us:List Q4)(wc:Nat)(w:Q9)(h:DkI w B e f q a c)(G:e.b.length<=1000)(A:∀b,f b->10<=b/\b<w.heap.size)(hv:Vz w)(P:Strs w E us)(N:us.length<=30000)(O:∀s∈us,s.size<=30000):Calls prog 31 #[Dr B 0,Y E us.length wc] w λr g=>UQ w g B f r (YJ e us) (RA 1 us):=by
 have m:=LE (pD E us wc w P N O);have y:=LE (λg k v (D:DkI g B e f q a c) (V:Vz g)=>yL e B f q a c k v true g D G (λb k=>(A b k).1) V);have lB:=h.r.lt;have s:=LE (λ(k:RA 1 us=false) g (i:Q3 w g)=>show UQ w g B f (Q2 (.tuple #[Ow ⟨#[]⟩,Q1 false])) (YJ e us) (RA 1 us) by rw[k,Ba k];exact au h i _);have n:Hid (RA 1 us=(TL us && decide (us.length=1))):=LE z;clear P O
 cases hok:TL us with
 | false =>
  rw[hok]at m n;have p:=LE (s.j n.j);clear s n y h hv A hok;go_enter func31,ntmps31;go_wp2_with fail;refine m.j.J ?_;rintro r C ⟨Q,rfl,_,i⟩;have g:=LE i;clear i;go_wp2;exact H (v:=.tuple #[Ow ⟨#[]⟩,Q1 false]) (by simp[results,results31,go_sem]) z (p.j _ g.j)
 | true =>
 by_cases o:us.length=1
 .have R:Hid (RA 1 us=true):=LE (by rw[n.j,hok,o];rfl)
  have L:Hid (YJ e us=XC e ((QQ us).getD 0 empty,empty,true)):=LE (by unfold YJ;rw[AI ⟨hok,o⟩]);rw[hok]at m;clear s n N;have g:(QQ us).length=1:=by unfold QQ;rw[BP,o]
  obtain⟨u,l⟩:∃u,QQ us=[u]:=by
   match QQ us,g with
   | [x],_=>exact⟨x,z⟩
  rw[o]at m⊢;rw[l]at m L;clear g l hok;go_enter func31,ntmps31;go_wp2_with fail;refine m.j.J ?_;rintro r C ⟨Q,rfl,l,i⟩;replace l:=l j;obtain⟨g,W,rfl,aJ,aK,p⟩:=(MS l).resolve_left (λk=>by have:=k.2;omega);clear l m;have l:=i;have F:=h.I l;have M:=hv.I l;clear i;have T:=p.y 0;have X:=p.lt;go_wp2_with fail;refine(y.j C u ⟨#[]⟩ F M).J ?_;rintro r y1 ⟨rfl,⟨d,S,U,J⟩,K⟩;have t:=LE (I J (I K l));clear J K l p F M h hv T X
  try go_wp2
  refine H (v:=.tuple #[Ow (XC e (u,⟨#[]⟩,true)).2,Q1 true]) (by simp[results,results31,go_sem]) z ?_;rw[R.j,L.j];exact⟨z,⟨d,S,U,t.j.1.J (λb l p=>p.imp_right (λp=>⟨AJ t.j.2.2.size p.1,p.2⟩))⟩,(SW t.j.2.2).E t.j.2.1 (λb _ p=>p)⟩
 have p:=LE (s.j (by rw[n.j,hok,AH o];rfl))
 rw[hok]at m;have u:((us.length:Int) == 1)=false:=BL.2 ω;have t:¬((us.length:Int)=1):=ω
 clear s n y h hv A hok o;go_enter func31,ntmps31;go_wp2_with fail;refine m.j.J ?_;rintro r C ⟨Q,rfl,l,i⟩;obtain⟨b,n,rfl⟩:=YC (l j);have g:=LE i;clear i l;go_wp2;exact H (v:=.tuple #[Ow ⟨#[]⟩,Q1 false]) (by simp[results,results31,go_sem]) z (p.j _ g.j)
end
section
open Tryz
open Go.RowKit nw
theorem xP{w:Q9}{B:Nat}{e:TypeId}{a:Q5}{c:Nat}{b:List Int}{n:Nat}(o:b.length=n)(h:w.ownsRow B e 1 (Y a n c) n (b.map (Value.int .i64))):Ints w a b:=by
 subst o;rcases MS h with ⟨_,d⟩|⟨g,f,j,d,k,l⟩
 .exact .inl (AD d)
 cases j
 refine .inr ⟨g,0,z,k,λi m=>?_⟩;rw[BK];exact l.cell i _ (by simp[List.getD,m])
theorem uc(a:List Q4):(QM a).length=a.length:=by unfold QM;rw[BP]
theorem af{x:Wo}(h:MF x=true):x.le 1048576:=(mx h).1.le
theorem At{d:Dk}{B:Nat}{G:Nat->Prop}{q:Wp}{a:Q5}{c:Nat}{w:Q9}(e:Ev)(b:Q5)(g:Nat)(f:Q5)(i:Nat)(h:DkI w B d G q a c)(o:MF d.x=true)(hv:Vz w)(j:Chs w b e.b)(m:Ints w f e.fs)(l:e.le):Calls prog 59 #[MD d.x q,OQ e b g f i] w λr k=>DoK w k r (d.x.doR e):=by
 obtain⟨p,k,n⟩:=hv.np;exact H5 d.x q e b g f i w h.m.q h.cap (af o) j m l p k n hv.et (by have:=hv.sz;omega)
theorem qD{d:Dk}{a:List Q4}(h:NY a=false):bn d a=(d,NT):=by
 unfold bn;rw[A (by rw[h];simp)]
end
section
open Tryz
open Go.RowKit nw
structure CmIn(w:Q9)(B:Nat)(d:Dk)(G:Nat->Prop)(q:Wp)(a:Q5)(c:Nat)(wa:Q5)(us:List Q4):Prop where
 h:DkI w B d G q a c
 ok:d.ok 1000
 g:∀b,G b->10<=b/\b<w.heap.size
 v:Vz w
 s:Strs w wa us
 l:us.length<=30000
 z:∀s∈us,s.size<=30000
section
variable {w w':Q9} {B:Nat} {d:Dk} {G:Nat->Prop} {q:Wp} {a:Q5} {c:Nat} {ops:Array Oper} {rest:List Oper} {o:Oper} {A:Act} {Q:Exit->Act->Q9->Prop} {y:Wo} {q':Wp}
theorem qg(h:DkN w B d G q a c)(x:Operand)(b:o.op=.load 47 x)(e:A.eval x=Dr B 0):(execOp A.eval o).run prog w=.ok (.value (MD d.x q)) w :=SA 47 x b B 0 e (NF d.x q) _ (Row.rangeMid (pre:=[]) (post:=[Y a d.b.length c]) h.r) underlying47 z NH
theorem fx(h:DkN w B d G q a c)(k:wpList prog ops Q rest (A.put o.dst (MD d.x q)) w){x:Operand}(b:o.guard=none:=by rfl)(e:o.op=.load 47 x:=by rfl)(f:A.eval x=Dr B 0:=by rfl):wpList prog ops Q (o::rest) A w:=VD b _ (qg h x e f) k
theorem um(e:DkN w B d G q a c)(k:wpList prog ops Q rest (A.put o.dst undef) (w.setCells B 0 (NF y q'))){x b:Operand}(f:o.guard=none:=by rfl)(g:o.op=.store 47 x b:=by rfl)(i:A.eval x=Dr B 0:=by rfl)(j:A.eval b=MD y q':=by rfl):wpList prog ops Q (o::rest) A w :=BV f 47 x b g B 0 (NF y q').toArray i j (Row.thereMid (pre:=[]) (cs:=NF d.x q) (post:=[Y a d.b.length c]) e.r z) NH h k
theorem vl(v:Ra)(k:wpList prog ops Q rest (A.put o.dst v) w)(b:o.guard=none:=by rfl)(e:(execOp A.eval o).run prog w=.ok (.value v) w:=by go_simp):wpList prog ops Q (o::rest) A w:=VD b v e k
theorem B7{r:Ending}{g e:Q9}(h:DkI w B d G q a c)(f:Q3 w g)(s:DoK g e r y):∃q',r=Q2 (MD y q')/\DkI e B d G q a c/\DkI (e.setCells B 0 (NF y q')) B ⟨y,d.b⟩ (PO w (e.setCells B 0 (NF y q')) G) q' a c/\Fr w (e.setCells B 0 (NF y q')) G/\Q3 g e:=by
 obtain⟨q',o,rfl,t,l,j,p⟩:=s;have i:=f.E (j.J f.size);obtain⟨m,n⟩:=h.world i (tS t (λb k=>⟨AJ f.size (l b k).1,(l b k).2⟩));exact⟨q',z,h.I i,⟨m,p⟩,n,j⟩
theorem tf{f:Q9}(h:DkI w' B d (PO w w' G) q a c)(g:Fr w w' G)(e:Q3 w' f)(s:Q4):UQ w f B G (Q2 (.tuple #[Ow s,Q1 true])) (d,s) true :=⟨z,⟨q,a,c,(h.I e).J (λb l k=>k.imp_right (λk=>⟨k.1,AC k.2 e.size⟩))⟩,g.E (SW e) (λb _ k=>k)⟩
end
theorem E4(d:Dk)(B:Nat)(f:Nat->Prop)(q:Wp)(a:Q5)(c:Nat)(t:Q5)(g:List Q4)(wc:Nat)(w:Q9)(b:CmIn w B d f q a c t g):Calls prog 36 #[Dr B 0,Y t g.length wc] w λr e=>UQ w e B f r (bn d g) (NY g):=by
 have i:=LE (oA t g wc w b.s b.l b.z b.v);have s:=LE b.h;have F:=LE b.v;have E:=LE b.ok.w;have O:=b.l;clear b
 cases hok:NY g with
 | false =>
  rw[hok]at i;have m:=LE (qD (d:=d) hok);clear hok;go_enter func36,ntmps36;go_wp2_with fail;refine i.j.J ?_;rintro r C ⟨L,rfl,_,h⟩;have p:=LE h;clear h;go_wp2;refine H (v:=.tuple #[Ow ⟨#[]⟩,Q1 false]) (by simp[results,results36,go_sem]) z ?_;rw[m.j];exact au s.j p.j _
 | true =>
  rw[hok]at i;have m:Hid (bn d g=(⟨d.x.doR ⟨5,[],0,QM g⟩,d.b⟩,YX)):=LE (by unfold bn;rw[G hok]);have n:=uc g;clear hok;obtain⟨o,e⟩:=u (QM g);rw[<-e]at i m n;clear e;go_enter func36,ntmps36;go_wp2_with fail;refine i.j.J ?_;rintro r C ⟨L,rfl,k,h⟩;replace k:=k j;obtain⟨y,J,e⟩:=YC k;have A:Ints C y o:=xP n (by rw[e]at k;exact k);rw[<-n]at e;subst e;have l:=LE (s.j.I h);have K:=l.j.r.lt
  have v:=LE (At ⟨5,[],0,o⟩ none 0 y J l.j E.j (F.j.I h) (.inl z) A ⟨⟨j,λx p=>by cases p⟩,by simp only;omega⟩)
  have p:=LE h;clear k A i n h;go_upto_region 4 with fail;refine AX ?_;refine vl (Dr B 0) (vl (Dr B 0) (vl (Dr B 0) (vl (Dr B 0) (fx l.j.toDkN ?_))));simp only[PS];go_wp2_with fail;refine v.j.J ?_;intro r M n;obtain⟨x,rfl,h,i,k,N⟩:=B7 s.j p.j n;clear n v
  try simp only[PS]
  refine‹∀(a:Act) (w:Q9),wpList _ _ _ _ a w->_› _ _ ?_
  have A:=h.r.lt;refine vl (Dr B 0) (vl (Dr B 0) (um h.toDkN (y:=d.x.doR ⟨5,[],0,o⟩) (q':=x) ?_));obtain⟨P,v⟩:=u (M.setCells B 0 (NF (d.x.doR ⟨5,[],0,o⟩) x));rw[<-v]at i k⊢;have n:=LE (I i k);clear h i k v l K A
  try go_wp2
  refine H (v:=.tuple #[Ow YX,Q1 true]) (by simp[results,results36,go_sem]) z ?_;rw[m.j];exact tf n.j.1 n.j.2 D _
end
section
open Tryz
open Go.RowKit nw
theorem xI{x:Wo}(h:MF x=true)(b:x.up=true):(0<=x.U/\x.U<=1000000)/\(0<=hv x.S/\hv x.S<=1000000)/\XR x=y0p x.U.toNat++⟨#[32,111,102,32]⟩++y0p (hv x.S).toNat:=by
 have a:QJ x=true:=by unfold MF at h;simp only[BF]at h;exact h.2.2.1
 unfold QJ at a;rw[G b]at a;unfold OW at a;simp only[BF,BH]at a;have c:=a.1.1.1.1.2;have e:=QS a.1.1.1.1.1.1.1.2;refine⟨d,d,?_⟩;unfold XR;rw[G b]
theorem Dq(g:Dk)(B:Nat)(o:Nat->Prop)(q:Wp)(a:Q5)(c:Nat)(S:Q5)(x:List Q4)(wc:Nat)(w:Q9)(j:CmIn w B g o q a c S x):Calls prog 39 #[Dr B 0,Y S x.length wc] w λr s=>UQ w s B o r (YS g x) (decide (x.length=0)):=by
 have F:=LE j.h;have R:=LE j.v;have T:=LE j.ok.w;have G:=j.h.r.lt;clear j
 by_cases I:x.length=0
 .rw[I]
  have L:Hid (YS g x=(g,XR g.x)):=LE (by unfold YS;rw[AI I]);clear I
  cases hup:g.x.up with
  | false =>
   have N:Hid (XR g.x=YX):=LE (by unfold XR;rw[hup];rfl);have e:=F.j.r.y 3;rw[hup]at e;clear hup;go_enter func39,ntmps39;go_wp2;refine H (v:=.tuple #[Ow YX,Q1 true]) (by simp[results,results39,go_sem]) z ?_;rw[L.j,N.j];exact jn F.j D _
  | true =>
   obtain⟨A,u,v⟩:=xI T.j hup;obtain⟨i,t⟩:∃i:Nat,g.x.U=(i:Int):=⟨g.x.U.toNat,d⟩;obtain⟨m,p⟩:∃m:Nat,hv g.x.S=(m:Int):=⟨(hv g.x.S).toNat,d⟩;have N:Hid (XR g.x=y0p i++⟨#[32,111,102,32]⟩++y0p m):=LE (by rw[v,t,p];rfl);rw[t]at A;rw[p]at u;have Q:=LE (λ(n:Nat) (C:n<=1000000000) s k=>qh n C s k);have P:=LE (λs=>it g.x.S s);rw[p]at P;have e:=F.j.r.y 3;rw[hup]at e;have E:(y0p i).size<=9:=UT d;have y:(y0p m).size<=9:=UT d;have zk:¬(9223372036854775807<(y0p i).size+4):=d
   have V:¬(9223372036854775803<(y0p i).size):=d
   have W:¬(9223372036854775807<(y0p i).size+4+(y0p m).size):=d
   have U:Hid (g.x.U=(i:Int)):=LE t;clear hup v p t E y;go_enter func39,ntmps39;go_upto_region 5 with fail;refine AX ?_;refine vl (Dr B 0) (vl (Dr B 0) (vl (Dr B 0) (vl (Dr B 4) (BE z 44 _ z B 4 z (sJ g.x.W g.x.S g.x.L g.x.T g.x.H g.x.F g.x.R g.x.U g.x.O (Y q.s g.x.rs.length q.cs)) _ (Row.rangeMid (pre:=[Z g.x.w,Y q.a g.x.ss.length q.c,Y q.a' g.x.ws.length q.c',Q1 g.x.up]) (cs:=(sJ g.x.W g.x.S g.x.L g.x.T g.x.H g.x.F g.x.R g.x.U g.x.O (Y q.s g.x.rs.length q.cs))) (post:=[Y q.p g.x.P.length q.cp,Y q.t g.x.ts.length q.ct,Y a g.b.length c]) F.j.r) underlying44 z QD ?_))));simp only[PS];refine ko z (Dr w.heap.size 0) (w.alloc (.cells (sK 0 0 0 0 0 0 0 0 0 (Y none 0 0)) 44)) l ?_;simp only[PS]
   generalize t:w.alloc _=O;obtain⟨E,M,p⟩:=LP t;clear t e;refine BV z 44 _ _ z w.heap.size 0 (sK g.x.W g.x.S g.x.L g.x.T g.x.H g.x.F g.x.R g.x.U g.x.O (Y q.s g.x.rs.length q.cs)) z z (p.q.there z) QD κ ?_;simp only[PS];have t:=p.q.sets (sJ g.x.W g.x.S g.x.L g.x.T g.x.H g.x.F g.x.R g.x.U g.x.O (Y q.s g.x.rs.length q.cs)) z;have v:=QF O w.heap.size 0 (sJ g.x.W g.x.S g.x.L g.x.T g.x.H g.x.F g.x.R g.x.U g.x.O (Y q.s g.x.rs.length q.cs));obtain⟨y,J⟩:=nMz (O.setCells w.heap.size 0 (sJ g.x.W g.x.S g.x.L g.x.T g.x.H g.x.F g.x.R g.x.U g.x.O (Y q.s g.x.rs.length q.cs)));rw[<-J]at t v;show wpList _ _ _ _ _ (O.setCells w.heap.size 0 (sJ g.x.W g.x.S g.x.L g.x.T g.x.H g.x.F g.x.R g.x.U g.x.O (Y q.s g.x.rs.length q.cs)));rw[<-J];rw[U.j]at t;have K:=E.E (MU v E.size (λ_ e=>by cases e;exact AA))
   clear J v E M p G;go_upto_region 6 with fail;have e:=(@D y.heap.size y).drew;have v:=t.I e;have p:=K.E (e.J K.size);clear e t K;refine AN (S:=λs=>Row s w.heap.size (sJ g.x.W g.x.S g.x.L g.x.T g.x.H g.x.F g.x.R (i:Int) g.x.O (Y q.s g.x.rs.length q.cs))) κ (v) (λK=>?_);refine TK 0 (Dr w.heap.size 7) z (b ⟨f,λw t=>by have e:=t.lt;go_simp⟩) K (TK 1 (Z (i:Int)) z (b ⟨f,λw t=>by have X:=t.y 7;go_simp⟩) K (TK 4 (Dr w.heap.size 1) z (b ⟨f,λw t=>by have e:=t.lt;go_simp⟩) K (TK 5 (Z g.x.S) z (b ⟨f,λw t=>by have X:=t.y 1;go_simp⟩) K ?_)));simp only[PS];refine RD 2 z (λM s=>?_);generalize J:y.drew=h at v p⊢;clear J;refine LM f _ _ l (Q.j i d h (R.j.I p)) ?_
   rintro r y2 ⟨rfl,E⟩;refine⟨_,z,?_⟩;replace v:=v.I E;replace p:=p.E (E.J p.size);clear E;refine s.j _ _ (v) (λJ=>?_)
   try simp only[PS]
   refine TK 3 (Ow (y0p i++⟨#[32,111,102,32]⟩)) z (b ⟨f,λw t=>l⟩) J ?_;simp only[PS];refine RD 6 z (λM s=>?_);refine LM f _ _ l (P.j y2) ?_;rintro r y3 ⟨rfl,rfl⟩;refine⟨_,z,?_⟩;refine s.j _ _ J (λ_=>?_)
   try simp only[PS]
   refine RD 7 z (λM s=>?_);refine LM f _ _ l (Q.j m d y3 (R.j.I p)) ?_;rintro r y4 ⟨rfl,E⟩;refine⟨_,z,?_⟩;replace v:=v.I E;replace p:=p.E (E.J p.size);clear E;refine s.j _ _ (v) (λE=>?_)
   try simp only[PS]
   refine TK 8 (Ow (y0p i++⟨#[32,111,102,32]⟩++y0p m)) z (b ⟨f,λw t=>l⟩) E ?_;simp only[PS];refine RD 9 z (λM s=>?_);go_simp;refine s.j _ _ E (λ_=>?_)
   try simp only[PS]
   refine RD 10 z (λM s=>?_);go_simp;refine s.j _ _ E (λ_=>?_)
   try simp only[PS]
   refine DN ?_;have t:=LE p;clear p v K zk V W;go_wp2;refine H (v:=.tuple #[Ow (y0p i++⟨#[32,111,102,32]⟩++y0p m),Q1 true]) (by simp[results,results39,go_sem]) z ?_;rw[L.j,N.j];exact jn F.j t.j _
 have e:((x.length:Int) == 0)=false:=BL.2 d
 have i:¬((x.length:Int)=0):=d
 have L:Hid (YS g x=(g,NT)):=LE (by unfold YS;rw[AF I]);rw[AH I];clear I;go_enter func39,ntmps39;go_wp2;refine H (v:=.tuple #[Ow ⟨#[]⟩,Q1 false]) (by simp[results,results39,go_sem]) z ?_;rw[L.j];exact au F.j D _
end
section
open Tryz
open Go.RowKit nw
theorem Gi(g:Dk)(B:Nat)(i:Nat->Prop)(q:Wp)(a:Q5)(c:Nat)(wa:Q5)(t:List Q4)(wc:Nat)(w:Q9)(j:CmIn w B g i q a c wa t):Calls prog 38 #[Dr B 0,Y wa t.length wc] w λr m=>UQ w m B i r (YN g t) (decide (t.length=0)):=by
 have o:=LE j.h;have N:=LE j.v;have h:=LE (af j.ok.w);have lB:=j.h.r.lt;clear j
 by_cases M:t.length=0
 .rw[M]
  have V:Hid (YN g t=(g,XK g.x)):=LE (by unfold YN;rw[AI M]);clear M;have U:=LE (λm (k:DkI m B g i q a c) (v:Vz m)=>show Calls prog 62 #[MD g.x q] m λe E=>oC m E e (ON g.x) by obtain⟨R,Q,J⟩:=v.np;exact rC g.x q m k.m.q o.j.cap h.j R Q J v.et (by have:=v.sz;omega));have A:=LE (λm (k:DkI m B g i q a c) (v:Vz m)=>show Calls prog 64 #[MD g.x q] m λe E=>e=Q2 (Q1 (UO g.x))/\Q3 m E by obtain⟨R,Q,J⟩:=v.np;exact O7 g.x q m k.m.q o.j.cap h.j R Q J v.et (by have:=v.sz;omega));have x:=LE (λm (k:DkI m B g i q a c) (v:Vz m)=>show Calls prog 65 #[MD g.x q] m λe E=>e=Q2 (Ow (XF g.x))/\Q3 m E by obtain⟨R,Q,J⟩:=v.np;exact Kf g.x q m k.m.q o.j.cap h.j R Q J v.et (by have:=v.sz;omega));have W:=LE (λ(n:Nat) (J:n<=1000000000) m k=>qh n J m k)
  have hl:=qm g.x;have P:=nU g.x;obtain⟨C,p⟩:∃C:Nat,(ON g.x).2=(C:Int):=⟨(ON g.x).2.toNat,d⟩;obtain⟨L,s⟩:∃L:Nat,(ON g.x).1.length=L:=⟨_,z⟩;obtain⟨T,S⟩:=nHz (y0p C++⟨#[32,112,97,105,114,115,32]⟩++y0p L);have K:Hid (ae g.x=T++(if UO g.x=true then ⟨#[32,114,105,103,104,116]⟩ else ⟨#[32,119,114,111,110,103]⟩)):=LE (by rw[S.j];unfold ae;rw[p,s];rfl);rw[p]at P;rw[s]at hl;have F:(y0p C).size<=9:=UT d;have O:(y0p L).size<=9:=UT d;have zt:T.size<=30:=by rw[S.j];simp only[AP];show _+7+_<=30;omega
  have u:=LE (AG F O);have y:=LE (AG p s);have aX:=P.2;clear F O p s P;go_enter func38,ntmps38;go_upto_region 3 with fail;refine AX ?_;refine vl (Dr B 0) (vl (Dr B 0) (vl (Dr B 0) (fx o.j.toDkN ?_)));simp only[PS];go_wp2_with fail;refine(U.j w o.j N.j).J ?_;rintro r E ⟨I,H,rfl,-,-,-,p⟩;rw[y.j.1,y.j.2];unfold LX;clear U y;go_upto_region 4 with fail;generalize U:E.alloc _=y;obtain⟨s,P,F⟩:=LP U;have D:=F.q;have O:=p.E (s.J p.size);clear U p F P s;have F:=(@AB y.heap.size y).drew;have s:=D.I F;have p:=O.E (F.J O.size);obtain⟨X,P⟩:=nMz E.heap.size;rw[<-P]at s⊢;clear F D O P;obtain⟨F,O⟩:=u.j;have zk:¬(9223372036854775807<(y0p C).size+7):=d
  have aU:¬(9223372036854775800<(y0p C).size):=d
  have aV:¬(9223372036854775807<(y0p C).size+7+(y0p L).size):=d
  clear F O u;refine AN (S:=λm=>Row m X [Y I L H]) κ (s) (λO=>?_);refine TK 0 (Z (C:Int)) z (b ⟨f,λw F=>l⟩) O (TK 3 (Dr X 0) z (b ⟨f,λw F=>by have m:=F.lt;go_simp⟩) O (TK 4 (Y I L H) z (b ⟨f,λw F=>by have c0:=F.y 0;go_simp⟩) O (TK 5 (Z (L:Int)) z (b ⟨f,λw F=>l⟩) O ?_)));simp only[PS];refine RD 1 z (λD P=>?_);generalize U:y.drew=y1 at s p⊢;clear U;refine LM f _ _ l (W.j C d y1 (N.j.I p)) ?_;rintro r y2 ⟨rfl,U⟩;refine⟨_,z,?_⟩;replace s:=s.I U;replace p:=p.E (U.J p.size);clear U;refine P.j _ _ (s) (λaH=>?_)
  try simp only[PS]
  refine TK 2 (Ow (y0p C++⟨#[32,112,97,105,114,115,32]⟩)) z (b ⟨f,λw F=>l⟩) aH ?_;simp only[PS];refine RD 6 z (λD P=>?_);refine LM f _ _ l (W.j L d y2 (N.j.I p)) ?_;rintro r y3 ⟨rfl,U⟩;refine⟨_,z,?_⟩;replace s:=s.I U;replace p:=p.E (U.J p.size);clear U;refine P.j _ _ (s) (λG=>?_)
  try simp only[PS]
  refine TK 7 (Ow (y0p C++⟨#[32,112,97,105,114,115,32]⟩++y0p L)) z (b ⟨f,λw F=>l⟩) G ?_;simp only[PS];refine RD 8 z (λD P=>?_);go_simp;refine P.j _ _ G (λ_=>?_)
  try simp only[PS]
  refine DN ?_;clear O;have F:=LE p;clear p s zk aU aV;rw[<-S.j];go_upto_region 5 with fail;refine AX ?_;have u:=(o.j.I F.j).r.lt;refine vl (Dr B 0) (vl (Dr B 0) (vl (Dr B 0) (fx (o.j.I F.j).toDkN ?_)));simp only[PS];go_wp2_with fail;refine(A.j _ (o.j.I F.j) (N.j.I F.j)).J ?_;rintro r w5 ⟨rfl,s⟩;have p:=LE (F.j.E (s.J F.j.size));obtain⟨O,U⟩:∃O,UO g.x=O:=⟨_,z⟩;rw[U]at K⊢;clear U A F s u W;have A:¬(9223372036854775807<T.size+6):=d
  have F:¬(9223372036854775801<T.size):=d
  obtain⟨U,W⟩:=nHz (ae g.x);rw[<-W.j]at K;go_upto_if 32 with fail;go_cut [8] from 33 to 36 (λs u=>s=Ow U/\u=w5)
  case first =>
   cases O with
   | true=>go_wp2;go_meet;exact⟨by rw[K.j];rfl,z⟩
   | false=>go_wp2;go_meet;exact⟨by rw[K.j];rfl,z⟩
  case rest =>
   obtain⟨rfl,s⟩:=hcut;rw[s]
   have zu:U.size<=36:=by rw[K.j,AP];cases O<;>(show _+6<=36;omega)
   clear s A F zt K S;go_upto_region 8 with fail;refine AX ?_;have u:=(o.j.I p.j).r.lt;refine vl (Dr B 0) (vl (Dr B 0) (vl (Dr B 0) (fx (o.j.I p.j).toDkN ?_)));simp only[PS];go_wp2_with fail;refine(x.j _ (o.j.I p.j) (N.j.I p.j)).J ?_;rintro r w6 ⟨rfl,A⟩;have S:=LE (p.j.E (A.J p.j.size));obtain⟨F,K⟩:=nMz (XF g.x);have s:Hid (XK g.x=if F.size=0 then U else U++⟨#[32,102,111,114,103,101,100]⟩):=LE (by rw[K,W.j];rfl);rw[<-K];clear K A p x u;have A:¬(9223372036854775807<U.size+7):=d
   have x:¬(9223372036854775800<U.size):=d
   by_cases p:F=⟨([]:List UInt8).toArray⟩
   .have u:=VR (l:=[]) p
    have K:Hid (XK g.x=U):=LE (by rw[s.j,AI (by rw[p];rfl)]);clear p s;go_wp2;refine AE (v:=.tuple #[Ow U,Q1 true]) (by simp[results,results38,go_sem]) z ?_;rw[V.j,K.j];exact jn o.j S.j _
   have u:=VL (l:=[]) p
   have K:Hid (XK g.x=U++⟨#[32,102,111,114,103,101,100]⟩):=LE (by rw[s.j,AF (λe=>p (VT (by rw[show F.data=#[] from EW e])))]);clear p s;go_wp2;refine AE (v:=.tuple #[Ow (U++⟨#[32,102,111,114,103,101,100]⟩),Q1 true]) (by simp[results,results38,go_sem]) z ?_;rw[V.j,K.j];exact jn o.j S.j _
 have e:((t.length:Int) == 0)=false:=BL.2 d
 have k:¬((t.length:Int)=0):=d
 have V:Hid (YN g t=(g,NT)):=LE (by unfold YN;rw[AF M]);rw[AH M];clear M;go_enter func38,ntmps38;go_wp2;refine AE (v:=.tuple #[Ow ⟨#[]⟩,Q1 false]) (by simp[results,results38,go_sem]) z ?_;rw[V.j];exact au o.j AB _
end
section
open Tryz
open Go.RowKit nw
def pV:Wo:={ w:=0,ss:=[],ws:=[],up:=false,W:=0,S:=0,L:=0,T:=0,H:=0,F:=0,R:=0,U:=0,O:=0,rs:=[],P:=[],ts:=[] }
def NU(n a:Int):Wo:=if nwOk n a then US n a else pV
theorem Gg(n a:Int):MF (NU n a)=decide (nwOk n a):=by
 unfold NU
 by_cases h:nwOk n a
 .rw[G h,tr h,AM h]
 rw[A h,AH h];rfl
def mi(w a:Q9)(e:Ending)(y:Wo):Prop:=∃q,e=Q2 (MD y q)/\DepF a (λb=>w.heap.size<=b/\b<a.heap.size) (λW=>y.at W q)/\y.rs.length<=q.cs/\Q3 w a
theorem uu{w k:Q9}{e:Ending}{n l:Int}(h:NwPost w k e (nwW n l) (nwS n l) (nwM n l)):mi w k e (NU n l):=by
 obtain⟨a,c,m,o,p,q,rfl,s,B,D,E,u⟩:=h;unfold NU;unfold nwW nwS nwM at *
 by_cases v:nwOk n l
 .simp only[G v]at *
  have t:∀f:Q9,(∀b,(w.heap.size<=b/\b<k.heap.size)->b<k.heap.size->f.heap[b]?=k.heap[b]?)->k.heap.size<=f.heap.size->(US n l).at f ⟨a,c,m,o,none,0,p,q,none,0⟩:=λf i x=>by
   have F:OwnS f a ((newSS n).map Value.string):=by
    rcases s with s|⟨g,rfl,r⟩
    .exact .inl s
    by_cases b:newSS n=[]
    .exact .inl (by rw[b];rfl)
    have:=(D g (ND g 0 _ (by simpa using b))).1
    exact .inr ⟨g,z,VM r (i g ⟨this,r.lt⟩ r.lt) (AC r.lt x)⟩
   have H:Pst f p [[]]:=by
    obtain⟨g,rfl,r⟩:=B.resolve_left j;have:=E g (ND g 0 1 d);have y:=VM r (i g ⟨this,r.lt⟩ r.lt) (AC r.lt x)
    exact .inr ⟨g,0,z,y.lt,λi b=>match i,b with|0,_=>⟨none,0,y.y 0,.inl z⟩|i+1,b=>absurd b j⟩
   exact⟨F.strs,.inl z,.inl z,H,.inl z⟩
  exact⟨⟨a,c,m,o,none,0,p,q,none,0⟩,z,⟨t k (λ_ _ _=>z) C,λf b g=>t f g b.size⟩,C,u⟩
 simp only[A v]at *
 exact⟨⟨a,c,m,o,none,0,p,q,none,0⟩,z,⟨⟨.inl z,.inl z,.inl z,.inl z,.inl z⟩,λf b g=>⟨.inl z,.inl z,.inl z,.inl z,.inl z⟩⟩,C,u⟩
theorem Qc(n a:Int):(NU n a).le 1048576:=by
 unfold NU
 by_cases h:nwOk n a
 .rw[G h];exact af (tr h)
 rw[A h]
 exact⟨AL,λ_ h=>(by cases h),AL,λ_ h=>(by cases h),AL,λ_ h=>(by cases h),AL,λ_ h=>(by cases h),AL,λ_ h=>(by cases h)⟩
theorem Kr(i:Dk)(B:Nat)(p:Nat->Prop)(q:Wp)(a:Q5)(c:Nat)(wa:Q5)(F:List Q4)(wc:Nat)(w:Q9)(m:CmIn w B i p q a c wa F):Calls prog 29 #[Dr B 0,Y wa F.length wc] w λr P=>UQ w P B p r (UR i F) (NY F && decide (F.length=2)):=by
 have N:=LE (oA wa F wc w m.s m.l m.z m.v);have A:=LE m.h;have lB:=m.h.r.lt;have bH:=m.l;clear m
 by_cases J:NY F=true
 .by_cases T:F.length=2
  .have g:(QM F).length=2:=by rw[uc,T]
   obtain⟨s,t,e⟩:∃s t,QM F=[s,t]:=by
    match QM F,g with
    | [x,y],_=>exact⟨x,y,z⟩
   have R:Hid (UR i F=if nwOk s t then (⟨US s t,i.b⟩,⟨#[111,107]⟩) else (i,⟨#[110,111]⟩)):=LE (by unfold UR;rw[AI ⟨J,T⟩,e];rfl);rw[J,AM T,Bool.and_true];rw[J]at N;rw[T]at N⊢;rw[e]at N;clear g e J T bH;have CN:=LE (λP=>show Calls prog 13 #[Z s,Z t] P λe Q=>mi P Q e (NU s t) from(nw_i s t P).J (λe Q k=>uu k));go_enter func29,ntmps29;go_wp2_with fail;refine N.j.J ?_;rintro r Q ⟨vt,rfl,o,n⟩;obtain⟨g,j,rfl,bR,bT,E⟩:=(MS (o σ)).resolve_left (λk=>by have:=k.2;omega);have aN:=LE n;have aV:=LE E;clear N o n E;go_upto_region 4 with fail;go_cut [8] from 21 to 27 (λC o=>∃X v,C=Dr X 0/\Row o X (NF (NU s t) v)/\DepF o (λn=>w.heap.size<=n/\n<o.heap.size) (λW=>(NU s t).at W v)/\(NU s t).rs.length<=v.cs/\Q3 w o)
   case first =>
    have o:=(@AB Q.heap.size Q).drew;have E:=aV.j.I o;have C:=aN.j.E (o.J aN.j.size);clear o aN aV;refine WN (8) (S:=λP=>Row P g [Z s,Z t]) h (E) (λG=>?_);refine ME 0 (Y (Hw g 0) 2 j) z (b ⟨f,λw K=>γ⟩) G (ME 1 (Dr g 0) z (b ⟨f,λw K=>by have o:=K.lt;go_simp⟩) G (ME 2 (Z s) z (b ⟨f,λw K=>by have c0:=K.y 0;go_simp⟩) G (ME 3 (Y (Hw g 0) 2 j) z (b ⟨f,λw K=>γ⟩) G (ME 4 (Dr g 1) z (b ⟨f,λw K=>by have o:=K.lt;go_simp⟩) G (ME 5 (Z t) z (b ⟨f,λw K=>by have c0:=K.y 1;go_simp⟩) G ?_)))));simp only[PS];refine QZ (rs:=[6,7]) h σ ?_;refine AllReadyT.cons z (λW K=>?_) (AllReadyT.cons z (λW K=>?_) AllReadyT.nil)
    .generalize L:Q.drew=V at E C⊢
     clear L;have bI:=C.size;refine LM f _ _ γ (CN.j V) ?_;rintro r L ⟨v,rfl,U,I,S⟩;refine⟨_,z,?_⟩;have bJ:=S.size;replace E:=E.I S;replace C:=C.E (S.J C.size);refine K.j _ _ (E) (λbB=>?_)
     try simp only[PS]
     refine OJ 7 z (λW K=>?_);go_simp;obtain⟨l,O⟩:=u (L.alloc (.cells #[Z 0,Y none 0 0,Y none 0 0,Q1 false,Z 0,Z 0,Z 0,Z 0,Z 0,Z 0,Z 0,Z 0,Z 0,Y none 0 0,Y none 0 0,Y none 0 0] 47));rw[<-O];obtain⟨d,zA,D⟩:=LP O.symm;have M:=D.q;replace E:=E.I d;replace C:=C.E (d.J C.size);replace U:=U.I d;clear O D;refine K.j _ _ (E) (λbC=>?_)
     try simp only[PS]
     refine QZ (rs:=[8]) h σ ?_;refine AllReadyT.last z (λW K=>?_);refine VC z 47 _ _ z (L.heap.size) 0 (NF (NU s t) v).toArray z z (M.there z) NH h ?_;have D:=QF l (L.heap.size) 0 (NF (NU s t) v);have H:=M.sets (NF (NU s t) v) z;obtain⟨yz,O⟩:=u (l.setCells (L.heap.size) 0 (NF (NU s t) v));rw[<-O]at D H;show W _ (l.setCells (L.heap.size) 0 (NF (NU s t) v));rw[<-O];have bG:=C.size;have aS:=U.V D (λg e k=>by have k1:=k.1;have k2:=k.2;cases e;omega);have aR:=C.E (MU D ω (λ_ e=>by cases e;omega));have zz:yz.heap.size=l.heap.size:=by rw[O];exact UV _ _ _ _
     clear O;refine K.j _ _ trivial (λ_=>?_)
     try simp only[PS]
     refine VE h ?_ _;go_wp2_with fail;go_meet;exact⟨L.heap.size,v,z,H,aS.J (λn o k=>⟨by have k1:=k.1;omega,o⟩),I,aR⟩
    generalize L:Q.drew=V at E C⊢
    clear L;have bI:=C.size;go_simp;obtain⟨l,O⟩:=u (V.alloc (.cells #[Z 0,Y none 0 0,Y none 0 0,Q1 false,Z 0,Z 0,Z 0,Z 0,Z 0,Z 0,Z 0,Z 0,Z 0,Y none 0 0,Y none 0 0,Y none 0 0] 47));rw[<-O];obtain⟨d,zA,D⟩:=LP O.symm;have M:=D.q;replace E:=E.I d;replace C:=C.E (d.J C.size);clear O D;refine K.j _ _ (E) (λbE=>?_)
    try simp only[PS]
    refine OJ 6 z (λW K=>?_);refine LM f _ _ γ (CN.j l) ?_;rintro r L ⟨v,rfl,U,I,S⟩;refine⟨_,z,?_⟩;have bJ:=S.size;replace E:=E.I S;replace C:=C.E (S.J C.size);replace M:=M.I S;refine K.j _ _ (E) (λbF=>?_)
    try simp only[PS]
    refine QZ (rs:=[8]) h σ ?_;refine AllReadyT.last z (λW K=>?_);refine VC z 47 _ _ z (V.heap.size) 0 (NF (NU s t) v).toArray z z (M.there z) NH h ?_;have D:=QF L (V.heap.size) 0 (NF (NU s t) v);have H:=M.sets (NF (NU s t) v) z;obtain⟨yz,O⟩:=u (L.setCells (V.heap.size) 0 (NF (NU s t) v));rw[<-O]at D H;show W _ (L.setCells (V.heap.size) 0 (NF (NU s t) v));rw[<-O];have bG:=C.size;have aS:=U.V D (λg e k=>by have k1:=k.1;have k2:=k.2;cases e;omega);have aR:=C.E (MU D ω (λ_ e=>by cases e;omega));have zz:yz.heap.size=L.heap.size:=by rw[O];exact UV _ _ _ _
    clear O;refine K.j _ _ trivial (λ_=>?_)
    try simp only[PS]
    refine VE h ?_ _;go_wp2_with fail;go_meet;exact⟨V.heap.size,v,z,H,aS.J (λn o k=>⟨by have k1:=k.1;omega,o⟩),I,aR⟩
   case rest =>
    obtain⟨X,v,rfl,M,U,I,o⟩:=hcut;have S:=LE (λP k e=>vo (NU s t) v P k I e);have K:=LE M;have L:=LE U;have e:=LE o;have V:Hid ((NU s t).le 1048576):=LE (Qc s t);have P:=LE I;clear M U o I CN;have U:=(A.j.I e.j).r.lt;go_upto_region 5 with fail;refine AX ?_;refine BE z 47 _ z X 0 z _ _ K.j.range underlying47 z NH ?_;simp only[PS];go_wp2_with fail;refine(S.j _ L.j.q V.j).J ?_;rintro r W ⟨rfl,C⟩;have E:=LE (e.j.E (C.J e.j.size));have M:=LE (K.j.I C);have O:=LE ((L.j.I C).J (G:=λn=>w.heap.size<=n/\n<W.heap.size) (λn o k=>⟨k.1,o⟩));rw[Gg];have I:=AC U C.size;clear S K L e C U V
    by_cases e:nwOk s t
    .rw[AM e]
     rw[AI e]at R;have n:Hid ((NU s t)=US s t):=LE (by unfold NU;rw[AI e]);rw[n.j]at M O P;clear e n;go_upto_region 7 with fail;refine AX ?_;refine vl (Dr B 0) (BE z 47 _ z X 0 z _ _ M.j.range underlying47 z NH ?_);simp only[PS];refine vl (Dr B 0) (vl (Dr B 0) (um (A.j.I E.j).toDkN (y:=US s t) (q':=v) ?_));obtain⟨n,C⟩:=A.j.world E.j O.j;replace n:=DkI.mk n P.j;obtain⟨S,L⟩:=u (W.setCells B 0 (NF (US s t) v));rw[<-L]at n C⊢;have K:=LE (AG n C);clear L n C M O E I
     try go_wp2
     refine AE (v:=.tuple #[Ow ⟨#[111,107]⟩,Q1 true]) (by simp[results,results29,go_sem]) z ?_;rw[R.j];exact tf K.j.1 K.j.2 AB _
    rw[AH e]
    rw[AF e]at R;clear e;go_wp2;refine AE (v:=.tuple #[Ow ⟨#[110,111]⟩,Q1 true]) (by simp[results,results29,go_sem]) z ?_;rw[R.j];exact jn A.j E.j _
  have R:Hid (UR i F=(i,NT)):=LE (by unfold UR;rw[AF (λk=>T k.2)])
  rw[J,AH T,IK];rw[J]at N;have t:((F.length:Int) == 2)=false:=BL.2 ω;have s:¬((F.length:Int)=2):=ω
  clear J T;go_enter func29,ntmps29;go_wp2_with fail;refine N.j.J ?_;rintro r Q ⟨vt,rfl,o,n⟩;obtain⟨g,v,rfl⟩:=YC (o σ);have e:=LE n;clear n o;go_wp2;refine AE (v:=.tuple #[Ow ⟨#[]⟩,Q1 false]) (by simp[results,results29,go_sem]) z ?_;rw[R.j];exact au A.j e.j _
 have R:Hid (UR i F=(i,NT)):=LE (by unfold UR;rw[AF (λk=>J k.1)])
 have J:=GF.2 J;rw[J,Bool.false_and];rw[J]at N;clear J;go_enter func29,ntmps29;go_wp2_with fail;refine N.j.J ?_;rintro r Q ⟨vt,rfl,_,n⟩;have e:=LE n;clear n;go_wp2;refine AE (v:=.tuple #[Ow ⟨#[]⟩,Q1 false]) (by simp[results,results29,go_sem]) z ?_;rw[R.j];exact au A.j e.j _
end
section
open Tryz
open Go.RowKit nw
def gh(K:Int)(b:List Ch)(a:List Int):Ev:=⟨K,b,a.getD 0 (-1),a.drop 1⟩
def VV(K:Int)(b:List Ch)(d:Dk)(a:List Q4):Dk×Q4:=if NY a=true then (⟨d.x.doR (gh K b (QM a)),d.b⟩,cw d.x (gh K b (QM a))) else (d,NT)
theorem vw(K:Int)(m:List Ch)(U:Q5)(X:Nat)(n:Dk)(B:Nat)(s:Nat->Prop)(q:Wp)(a:Q5)(c:Nat)(wa:Q5)(T:List Q4)(wc:Nat)(w:Q9)(o:CmIn w B n s q a c wa T)(hK:1<=K/\K<=4)(hc:Chs w U m)(bH:m.length<=1048576/\∀t∈m,t.1.size<=1048576/\t.2.1.size<=1048576):Calls prog 58 #[Dr B 0,OQ ⟨K,m,0,[]⟩ U X none 0,Y wa T.length wc] w λr J=>UQ w J B s r (VV K m n T) (NY T):=by
 have k:=LE (λJ (g:Q3 w J)=>oA wa T wc J (o.s.I g) o.l o.z (o.v.I g));have HH:=LE o.h;have HV:=LE o.v;have HK:=LE o.ok.w;have HC:=LE hc;have HG:=LE o.g;have L:=o.l;clear o hc;unfold OQ
 cases hok:NY T with
 | false =>
  rw[hok]at k;have V:Hid (VV K m n T=(n,NT)):=LE (by unfold VV;rw[AF (by rw[hok];simp)]);clear hok;go_enter func58,ntmps58;go_wp2_with fail;refine(k.j _ (LH w _)).J ?_;rintro r w1 ⟨vt,rfl,_,g⟩;have e:=LE ((LH w _).E (g.J (LH w _).size));clear g;go_wp2;refine AE (v:=.tuple #[Ow ⟨#[]⟩,Q1 false]) (by simp[results,results58,go_sem]) z ?_;rw[V.j];exact au HH.j e.j _
 | true =>
  rw[hok]at k;have y:=uc T;obtain⟨S,e⟩:=u (QM T);have V:Hid (VV K m n T=(⟨n.x.doR (gh K m S),n.b⟩,cw n.x (gh K m S))):=LE (by rw[e];unfold VV;rw[AI hok]);rw[<-e]at k y;have cN:S.length<=30000:=d
  clear e hok;go_enter func58,ntmps58;go_upto_region 1 with fail;generalize e:w.alloc _=v1;obtain⟨v,M,E⟩:=LP e;have cT:w.heap.size<v1.heap.size:=d
  clear e;go_wp2_with fail;refine(k.j v1 v).J ?_;rintro r w1 ⟨vt,rfl,p,g⟩;replace p:=p j;obtain⟨R,fc,e⟩:=YC p;rw[<-y]at e p;subst e;have i:=(E.I g).q;have F:=v.E (g.J v.size);have c2:=i.y 2;have f2:=i.A 2;have x:=i.lt;clear k y g E L;go_upto_if 21 with fail;have N:=LE (aj (F:=λm=>m≠w.heap.size) p (λm k=>by have:=SU p k;omega));obtain⟨y,P⟩:=u (w1.setCell (Ki w.heap.size 2) (Z (-1)));have E:=NZ (BC w1 (some w.heap.size)) 2 (Z (-1));have L:=i.set 2 j (Z (-1));rw[<-P]at E L⊢;have H:=LE ((N.j.V E (λg e k=>k (by cases e;rfl))).q);have A:=LE (F.E (MU E F.size (λ_ e=>by cases e;exact AA)));have bB:=LE L;clear P E i L c2 f2 x F p N v M;go_cut [] from 22 to 28 (λi=>∃R G,Row i w.heap.size [Z K,Y U m.length X,Z (S.getD 0 (-1)),Y R (S.drop 1).length G]/\Ints i R (S.drop 1)/\Q3 w i)
  case first =>
   cases S with
   | nil =>
    go_wp2_with fail;go_meet;exact⟨none,0,bB.j,.inl z,A.j⟩
   | cons Q N =>
    obtain⟨g,v,cur,i,cP,-,cQ,-⟩:=H.j.2.resolve_left (λk=>by have:=k.2;simp at this)
    obtain rfl:R=Hw g 0:=by cases i;rfl
    obtain rfl:v=fc:=by cases i;rfl
    have I:=UA H.j;clear i;have bZ:g≠w.heap.size:=d
    have lc:((N.length:Int)+1)<=(v:Int):=by have:(Q::N).length=N.length+1:=z;omega
    have cS:(1:Int)<=(N.length:Int)+1:=d
    obtain⟨l,cJ⟩:∃p,(if v=1 then some ((Ki g 0):Addr) else Hw g 1)=p:=⟨_,z⟩;have cE:Hid (N=[]\/l=Hw g 1):=LE (by by_cases cM:v=1;exact .inl (AD d);exact .inr (by rw[<-cJ,AF cM]));have cC:=LE I;have cV:(1:Int)<=(v:Int):=d
    clear I;rw[show decide (0<(Q::N).length)=true from AM j];simp only[BN];go_upto_region 6 with fail;have bG:=(@D y.heap.size y).drew;have I:=cC.j.I bG;have i:=bB.j.I bG;have C:=A.j.E (bG.J A.j.size);refine AN (S:=λJ=>Row J g (Z Q::N.map (Value.int .i64))/\w.heap.size<J.heap.size) h (⟨I,i.lt⟩) (λF=>?_);refine TY 0 (Y (Hw g 0) (N.length+1) v) z F (TK 1 (Dr g 0) z (b ⟨f,λw E=>by obtain⟨L,M⟩:=E;have p:=L.lt;go_simp⟩) F (TK 2 (Z Q) z (b ⟨f,λw E=>by obtain⟨L,M⟩:=E;have c0:=L.y 0;go_simp⟩) F (TY 3 (Y (Hw g 0) (N.length+1) v) z F (TY 4 (Y l N.length (v-1)) z F (TK 5 (Dr w.heap.size 2) z (b ⟨f,λw E=>by obtain⟨L,M⟩:=E;have p:=M;go_simp⟩) F ?_)))))
    simp only[PS];refine RD 6 z (λW O=>?_);generalize P:y.drew=t at I i C⊢;clear P;have c2:=i.y 2;have f2:=i.A 2;have x:=i.lt;go_simp;clear c2 f2 x;obtain⟨x2,aJ⟩:=u (t.setCell (Ki w.heap.size 2) (Z Q));have x:=NZ (BC t (some w.heap.size)) 2 (Z Q);have P:=i.set 2 j (Z Q);rw[<-aJ]at x P⊢;have bT:=I.V x (λe=>bZ (by cases e;rfl));have bF:=C.E (MU x C.size (λ_ e=>by cases e;exact AA));clear aJ x i I C;refine O.j _ _ (⟨bT,P.lt⟩) (λI=>?_)
    try simp only[PS]
    refine TK 7 (Dr w.heap.size 3) z (b ⟨f,λw E=>by obtain⟨L,M⟩:=E;have p:=M;go_simp⟩) I ?_;simp only[PS];refine RD 8 z (λW O=>?_);have i:=P.y 3;have C:=P.A 3;have x:=P.lt;go_simp;clear i C x;obtain⟨x3,aK⟩:=u (x2.setCell (Ki w.heap.size 3) (Y l N.length (v-1)));have i:=NZ (BC x2 (some w.heap.size)) 3 (Y l N.length (v-1));have x:=P.set 3 j (Y l N.length (v-1));rw[<-aK]at i x⊢;have C:=bT.V i (λe=>bZ (by cases e;rfl));have cH:=bF.E (MU i bF.size (λ_ e=>by cases e;exact AA));clear aK i P bT bF;refine O.j _ _ (⟨C,x.lt⟩) (λcI=>?_)
    try simp only[PS]
    refine DN ?_;go_wp2_with fail;go_meet;exact⟨l,v-1,x,cE.j.imp id (λe=>⟨g,1,e,C.lt,λi P=>by rw[Nat.add_comm];exact C.cell (i+1) _ (by simp[List.getD,show i<N.length by simpa using P])⟩),cH⟩
  case rest =>
   obtain⟨R,G,i,P,l⟩:=hcut;obtain⟨Q,L⟩:=u (S.getD 0 (-1));obtain⟨v,p⟩:=u (S.drop 1);have M:v.length<=1048576:=by rw[p,BS];omega
   have N:gh K m S=⟨K,m,Q,v⟩:=by unfold gh;rw[<-L,<-p]
   rw[N]at V;rw[<-L,<-p]at i;rw[<-p]at P;have C:=LE (λJ k1 F k3=>F7 n.x q ⟨K,m,Q,v⟩ U X R G J k1 HH.j.cap (af HK.j) F ⟨bH,M⟩ hK k3);have CD:=LE (λJ (k1:DkI J B n s q a c) F k3 k4=>At ⟨K,m,Q,v⟩ U X R G k1 HK.j F k3 k4 ⟨bH,M⟩);have aX:=LE (oQ n.x ⟨K,m,Q,v⟩);have O:=LE P;have F:=LE l;have W:=LE i;clear L p M N P bB A H cN hK bH i;unfold OQ at C CD;go_upto_region 7 with fail;obtain⟨N,HN⟩:=nHz (qIJ n.x ⟨K,m,Q,v⟩);rw[<-HN.j]at C aX;have I:=F.j.E ((@D wc.heap.size wc).drew.J F.j.size);have x:=HH.j.I I;have i:=W.j.I (@D wc.heap.size wc).drew;have aY:=LE (O.j.I (@D wc.heap.size wc).drew);clear F W O l;refine AN (S:=λJ=>DkI J B n s q a c/\Row J w.heap.size [Z K,Y U m.length X,Z Q,Y R v.length G]) h (⟨x,i⟩) (λF=>?_)
   refine TY 0 (Dr B 0) z F (TK 1 (Dr B 0) z (b ⟨f,λw E=>by obtain⟨L,M⟩:=E;have p:=L.r.lt;go_simp⟩) F (TK 2 (Dr B 0) z (b ⟨f,λw E=>by obtain⟨L,M⟩:=E;have p:=L.r.lt;go_simp⟩) F (TK 3 (MD n.x q) z (b ⟨f,λw E=>by obtain⟨L,M⟩:=E;exact qg L.toDkN _ z z⟩) F (TK 4 (.agg #[Z K,Y U m.length X,Z Q,Y R v.length G]) z (b ⟨f,λw E=>by obtain⟨L,M⟩:=E;exact SA 87 _ z _ 0 z _ _ M.range underlying87 z ZB⟩) F ?_))));simp only[PS];refine RD 5 z (λW O=>?_);generalize P:wc.drew=y7 at x i I aY⊢;clear P;refine LM f _ _ γ (C.j y7 x.m.q (HC.j.I I) (HV.j.I I)) ?_;rintro r l ⟨rfl,A⟩;refine⟨_,z,?_⟩;have H:=x.I A;have P:=i.I A;have aN:=I.E (A.J I.size)
   have bV:=LE (aY.j.I A);clear x i I aY A;refine O.j _ _ (⟨H,P⟩) (λI=>?_)
   try simp only[PS]
   refine RD 6 z (λW O=>?_);go_simp;refine O.j _ _ I (λ_=>?_)
   try simp only[PS]
   refine DN ?_;clear F I C;go_upto_region 8 with fail;refine WN (9) (S:=λJ=>DkI J B n s q a c/\Row J w.heap.size [Z K,Y U m.length X,Z Q,Y R v.length G]) h (⟨H.I (@D l.heap.size l).drew,P.I (@D l.heap.size l).drew⟩) (λF=>?_);refine OK 0 (Dr B 0) z F (OK 1 (Dr B 0) z F (ME 2 (Dr B 0) z (b ⟨f,λw E=>by obtain⟨L,M⟩:=E;have p:=L.r.lt;go_simp⟩) F (ME 3 (Dr B 0) z (b ⟨f,λw E=>by obtain⟨L,M⟩:=E;have p:=L.r.lt;go_simp⟩) F (ME 4 (MD n.x q) z (b ⟨f,λw E=>by obtain⟨L,M⟩:=E;exact qg L.toDkN _ z z⟩) F (ME 5 (.agg #[Z K,Y U m.length X,Z Q,Y R v.length G]) z (b ⟨f,λw E=>by obtain⟨L,M⟩:=E;exact SA 87 _ z _ 0 z _ _ M.range underlying87 z ZB⟩) F ?_)))))
   simp only[PS];refine OJ 6 z (λW O=>?_);have i:=(@D l.heap.size l).drew;have C:=aN.E (i.J aN.size);generalize E:l.drew=y9 at i C⊢;clear E;refine LM f _ _ γ (CD.j y9 (H.I i) (HV.j.I C) (HC.j.I C) (bV.j.I i)) ?_;intro r z2 I;obtain⟨A,bC⟩:=nHz (n.x.doR ⟨K,m,Q,v⟩);rw[<-bC.j]at I;obtain⟨q5,rfl,E,x,F5,cL⟩:=B7 HH.j C I;refine⟨_,z,?_⟩;have cA:=(P.I i).I cL;clear I H P i bV CD;refine O.j _ _ (⟨E,cA⟩) (λI=>?_)
   try simp only[PS]
   refine OJ 7 z (λW O=>?_);have i:=E.r.lt;go_simp;clear i;refine O.j _ _ I (λ_=>?_)
   try simp only[PS]
   refine OJ 8 z (λW O=>?_);have i:=E.r.lt;go_simp;clear i;refine O.j _ _ I (λ_=>?_)
   try simp only[PS]
   refine QZ (rs:=[9]) h j ?_;refine AllReadyT.last z (λW O=>?_);refine VC z 47 _ _ z B 0 (NF A q5).toArray z z (Row.thereMid (pre:=[]) (cs:=NF n.x q) (post:=[Y a n.b.length c]) E.r z) NH h ?_;obtain⟨w5,i⟩:=u (z2.setCells B 0 (NF A q5));rw[<-i]at x F5;show W _ (z2.setCells B 0 (NF A q5));rw[<-i];clear i;refine O.j _ _ trivial (λ_=>?_)
   try simp only[PS]
   refine VE h ?_ _;clear F;have F:=LE (AG x F5);have i:=x.r.y 3;have l5:=x.r.lt;have H:=LE (F5.vz (λm k=>(HG.j m k).1) HV.j);clear x F5 E cA C;have P:=LE (λJ k=>qh N (by have:=aX.j;omega) J k);have k:(y0p N).size<=9:=UT (by have:=aX.j;omega);have zk:¬(9223372036854775807<3+(y0p N).size):=d
   have C:¬(9223372036854775807<5+(y0p N).size):=d
   have cX:¬(9223372036854775804<(y0p N).size):=d
   have cY:¬(9223372036854775802<(y0p N).size):=d
   clear k;have J:Hid (cw n.x ⟨K,m,Q,v⟩=(if A.up=true then ⟨#[117,112,32]⟩ else ⟨#[100,111,119,110,32]⟩)++y0p N):=LE (by rw[HN.j,bC.j];rfl);rw[J.j,<-bC.j]at V;simp only at i
   cases hup:A.up with
   | true =>
    rw[hup]at i V;go_wp2_with fail;refine(P.j _ H.j).J ?_;rintro r x ⟨rfl,k⟩;have E:=LE k;clear k i l5;go_wp2;refine AE (v:=.tuple #[Ow (⟨#[117,112,32]⟩++y0p N),Q1 true]) (by simp[results,results58,go_sem]) z ?_;rw[V.j];exact tf F.j.1 F.j.2 E.j _
   | false =>
    rw[hup]at i V;go_wp2_with fail;refine(P.j _ H.j).J ?_;rintro r x ⟨rfl,k⟩;have E:=LE k;clear k i l5;go_wp2;refine AE (v:=.tuple #[Ow (⟨#[100,111,119,110,32]⟩++y0p N),Q1 true]) (by simp[results,results58,go_sem]) z ?_;rw[V.j];exact tf F.j.1 F.j.2 E.j _
end
section
open Tryz
open Go.RowKit nw
theorem zw{k:Int}(h:k≠2)(d:Dk)(a:List Q4):RH k d a=VV k [] d a:=by
 unfold RH VV jm gh;simp only[A h]
theorem L7(d:Dk)(a:List Q4):RH 2 d a=(if NY a=true then (⟨(VV 2 d.b d a).1.x,[]⟩,(VV 2 d.b d a).2) else (d,NT)):=by
 unfold RH VV jm gh
 split
 .simp
 rfl
theorem J1(d:Dk)(B:Nat)(G:Nat->Prop)(q:Wp)(a:Q5)(c:Nat)(f:Q5)(e:List Q4)(wc:Nat)(w:Q9)(b:CmIn w B d G q a c f e):Calls prog 33 #[Dr B 0,Y f e.length wc] w λr g=>UQ w g B G r (RH 1 d e) (NY e):=by
 rw[zw δ]
 have g:=LE (show Calls prog 58 #[Dr B 0,.agg #[Z 1,Y none 0 0,Z 0,Y none 0 0],Y f e.length wc] w _ from vw 1 [] none 0 d B G q a c f e wc w b δ (.inl z) ⟨j,λx h=>by cases h⟩)
 clear b;obtain⟨k,h⟩:=u (NY e);obtain⟨p,i⟩:=u (VV 1 [] d e);rw[<-h,<-i]at g⊢;clear h i;go_enter func33,ntmps33;go_wp2_with fail;refine g.j.J ?_;rintro r m ⟨rfl,D,F⟩;obtain⟨s,h⟩:=u (if k=true then p.2 else ⟨#[]⟩);have i:=LE (I D F);rw[<-h];have l:=LE h;clear g D F h;go_wp2;refine H (v:=.tuple #[Ow s,Q1 k]) (by simp[results,results33,go_sem]) z ?_;exact⟨by rw[l.j],i.j.1,i.j.2⟩
theorem Ny(d:Dk)(B:Nat)(G:Nat->Prop)(q:Wp)(a:Q5)(c:Nat)(f:Q5)(e:List Q4)(wc:Nat)(w:Q9)(b:CmIn w B d G q a c f e):Calls prog 34 #[Dr B 0,Y f e.length wc] w λr g=>UQ w g B G r (RH 3 d e) (NY e):=by
 rw[zw δ]
 have g:=LE (show Calls prog 58 #[Dr B 0,.agg #[Z 3,Y none 0 0,Z 0,Y none 0 0],Y f e.length wc] w _ from vw 3 [] none 0 d B G q a c f e wc w b δ (.inl z) ⟨j,λx h=>by cases h⟩)
 clear b;obtain⟨k,h⟩:=u (NY e);obtain⟨p,i⟩:=u (VV 3 [] d e);rw[<-h,<-i]at g⊢;clear h i;go_enter func34,ntmps34;go_wp2_with fail;refine g.j.J ?_;rintro r m ⟨rfl,D,F⟩;obtain⟨s,h⟩:=u (if k=true then p.2 else ⟨#[]⟩);have i:=LE (I D F);rw[<-h];have l:=LE h;clear g D F h;go_wp2;refine H (v:=.tuple #[Ow s,Q1 k]) (by simp[results,results34,go_sem]) z ?_;exact⟨by rw[l.j],i.j.1,i.j.2⟩
theorem Ex(d:Dk)(B:Nat)(G:Nat->Prop)(q:Wp)(a:Q5)(c:Nat)(f:Q5)(e:List Q4)(wc:Nat)(w:Q9)(b:CmIn w B d G q a c f e):Calls prog 35 #[Dr B 0,Y f e.length wc] w λr g=>UQ w g B G r (RH 4 d e) (NY e):=by
 rw[zw δ]
 have g:=LE (show Calls prog 58 #[Dr B 0,.agg #[Z 4,Y none 0 0,Z 0,Y none 0 0],Y f e.length wc] w _ from vw 4 [] none 0 d B G q a c f e wc w b δ (.inl z) ⟨j,λx h=>by cases h⟩)
 clear b;obtain⟨k,h⟩:=u (NY e);obtain⟨p,i⟩:=u (VV 4 [] d e);rw[<-h,<-i]at g⊢;clear h i;go_enter func35,ntmps35;go_wp2_with fail;refine g.j.J ?_;rintro r m ⟨rfl,D,F⟩;obtain⟨s,h⟩:=u (if k=true then p.2 else ⟨#[]⟩);have i:=LE (I D F);rw[<-h];have l:=LE h;clear g D F h;go_wp2;refine H (v:=.tuple #[Ow s,Q1 k]) (by simp[results,results35,go_sem]) z ?_;exact⟨by rw[l.j],i.j.1,i.j.2⟩
theorem Dj(f:Dk)(B:Nat)(h:Nat->Prop)(q:Wp)(a:Q5)(c:Nat)(n:Q5)(i:List Q4)(wc:Nat)(w:Q9)(g:CmIn w B f h q a c n i):Calls prog 32 #[Dr B 0,Y n i.length wc] w λr b=>UQ w b B h r (RH 2 f i) (NY i):=by
 rw[L7];have b:=LE (show Calls prog 58 #[Dr B 0,.agg #[Z 2,Y a f.b.length c,Z 0,Y none 0 0],Y n i.length wc] w _ from vw 2 f.b a c f B h q a c n i wc w g δ g.h.chs ⟨by have:=g.ok.l;omega,λx e=>by have:=g.ok.s x e;omega⟩);have c16:=g.h.r.y 16;have l:=g.h.r.lt;clear g;obtain⟨x,k⟩:=u (NY i);have v:Hid (x=false->VV 2 f.b f i=(f,NT)):=LE (λe=>by unfold VV;rw[<-k,e,A j]);obtain⟨p,e⟩:=u (VV 2 f.b f i);rw[<-k,<-e]at b⊢;rw[<-e]at v;clear k e;go_enter func32,ntmps32;go_wp2_with fail;refine b.j.J ?_;rintro r C ⟨rfl,⟨y,J,K,e⟩,F⟩;clear b c16 l
 cases x with
 | true =>
  have M:=e.r.lt;have L:=e.r.y 16;have f16:=e.r.A 16;obtain⟨s,o⟩:=u p.2;have E:=LE o;rw[G z,<-o];obtain⟨l,t⟩:=e.clear (a':=none) (@D C.heap.size C) (BU _ _ _ _) (λb k=>by cases k);replace l:=DkI.mk l e.cap;have m:=LE (I l (I F t));clear e l F t o;go_wp2;refine H (v:=.tuple #[Ow s,Q1 true]) (by simp[results,results32,go_sem]) z ?_;rw[E.j];exact⟨z,⟨y,none,0,m.j.1.J (λb l k=>by rcases k with (k|k)|k;exact .inl k;exact .inr ⟨k.1,AC k.2 m.j.2.2.size⟩;exact .inr ⟨AJ m.j.2.1.size k.1,k.2⟩)⟩,m.j.2.1.E m.j.2.2 (λb l k=>by rcases k with k|k;exact k;exact absurd l d)⟩
 | false =>
  obtain rfl:=v.j z;rw[A j];have m:=LE (I e F);clear e F;go_wp2;refine H (v:=.tuple #[Ow ⟨#[]⟩,Q1 false]) (by simp[results,results32,go_sem]) z ?_;exact⟨z,⟨y,J,K,m.j.1⟩,m.j.2⟩
theorem I5(i:Dk)(B:Nat)(o:Nat->Prop)(q:Wp)(a:Q5)(c:Nat)(f:Q5)(s:List Q4)(wc:Nat)(w:Q9)(n:CmIn w B i o q a c f s):Calls prog 37 #[Dr B 0,Y f s.length wc] w λr I=>UQ w I B o r (YQ i s) (RA 1 s):=by
 have E:=LE (pD f s wc w n.s n.l n.z);have Q:=LE n.h;have HP:=LE (mx n.ok.w).2.2;have X:=LE (af n.ok.w);have bQ:=n.l;clear n
 by_cases y:TL s=true
 .by_cases K:s.length=1
  .have T:(QQ s).length=1:=by unfold QQ;rw[BP,K]
   obtain⟨t,g⟩:∃t,QQ s=[t]:=by
    match QQ s,T with
    | [x],_=>exact⟨x,z⟩
   have M:Hid (YQ i s=(i,YM i.x t)):=LE (by unfold YQ;rw[AI ⟨y,K⟩,g];rfl);have J:Hid (RA 1 s=true):=LE (by unfold RA;rw[y,K];rfl);rw[J.j];rw[y]at E;rw[K]at E⊢;rw[g]at E;obtain⟨m,L⟩:∃m,i.x.P.length=m+1:=⟨i.x.P.length-1,by have:=HP.j;omega⟩;have O:=FU (l:=i.x.P) (n:=m) d;obtain⟨C,R⟩:=nMz (i.x.P.getD m []);have U:C∈i.x.P:=by rw[R,show i.x.P.getD m []=i.x.P[m]' d by simp[List.getD,show m<i.x.P.length by omega]];exact O
   have P:Hid (YM i.x t=if (MJ C t).isSome=true then shO ((MJ C t).getD ⟨#[]⟩) else ⟨#[110,111,110,101]⟩):=LE (by unfold YM;rw[L,R];rfl);have aU:=LE (X.j.s4 C U);have N:Hid (((MJ C t).getD ⟨#[]⟩).size<=30000):=LE (by cases e:MJ C t with|none=>exact AL|some v=>have:=mV e;show v.size<=30000;omega);have u:=LE (λI=>Dh ((MJ C t).getD ⟨#[]⟩) I N.j);obtain⟨V,F⟩:=nMz ((MJ C t).getD ⟨#[]⟩);obtain⟨S,W⟩:=nMz ((MJ C t).isSome);have j:=LE (λp c I k=>nu p C c t I k aU.j.1 aU.j.2);rw[<-F,<-W]at j P;rw[<-F]at u;have bP:(m:Int)<(m:Int)+1:=d
   have bJ:(0:Int)<=(m:Int):=d
   have bV:IntKind.i64.wrap (m:Int)=(m:Int):=PT _ d (by have:=X.j.l4;omega);have aS:=LE L;clear T g y K bQ O U N F W HP X L;go_enter func37,ntmps37;go_wp2_with fail;refine E.j.J ?_;rintro r U ⟨vt,rfl,L,p⟩;obtain⟨g,b,rfl,bT,bU,F⟩:=(MS (L σ)).resolve_left (λk=>by have:=k.2;omega);have k:=Q.j.I p;have N:=k.r.y 14;rw[aS.j]at N;have O:=k.r.lt;have aT:=LE F;have h:=LE p;have aR:=LE k;clear E L F p k;go_upto_region 5 with fail;clear N O;obtain⟨L,O,G,pc,bB,A,aZ,D⟩:=aR.j.m.q.h4.at (k:=m) (by rw[aS.j];omega);rw[bB];have p:=LE aZ;rw[<-R]at p D;have k:=(@AB U.heap.size U).drew;have F:=aT.j.I k;have W:=(k.cell (p:=(Ki L (O+m))) A).E p.j;have T:=AC A k.size;have l:=LE (D.j.I k);have N:=h.j.E (k.J h.j.size);clear k aT aZ A D p R bB aR h
   refine AN (S:=λI=>I.cell? (Ki L (O+m))=some (Y G C.length pc)/\L<I.heap.size/\Row I g [Ow t]) κ (⟨W,T,F⟩) (λp=>?_);refine TY 0 (Y (Hw L O) (m+1) q.cp) z p (TY 1 (Y (Hw L O) (m+1) q.cp) z p (TY 2 (Z ((m:Int)+1)) z p (TY 3 (Z (m:Int)) z p (TY 4 (Dr L (O+m)) z p (TY 5 (.agg #[Y G C.length pc]) z p (TY 6 (Y (Hw g 0) 1 b) z p (TK 7 (Dr g 0) z (AT ⟨ρ,λw I=>by obtain⟨z0,z1,h⟩:=I;have k:=h.lt;go_simp⟩) p (TK 8 (Ow t) z (AT ⟨ρ,λw I=>by obtain⟨z0,z1,h⟩:=I;have c0:=h.y 0;go_simp⟩) p ?_))))))));simp only[PS];refine RD 9 z (λA R=>?_);generalize I:U.drew=y0 at F W T l N⊢;clear I;refine LM ρ _ _ γ (j.j G pc y0 l.j) ?_;rintro r y1 ⟨rfl,I⟩
   refine⟨_,z,?_⟩;have D:=(I.cell (p:=(Ki L (O+m))) T).E W;have bF:=AC T I.size;replace F:=F.I I;replace N:=N.E (I.J N.size);clear I l W T;refine R.j _ _ (⟨D,bF,F⟩) (λI=>?_)
   try simp only[PS]
   refine TY 10 (.tuple #[Ow V,Q1 S]) z I (TY 11 (Ow V) z I (TY 12 (Q1 S) z I ?_));simp only[PS];refine RD 13 z (λA R=>?_);go_simp;refine R.j _ _ I (λ_=>?_)
   try simp only[PS]
   refine RD 14 z (λA R=>?_);go_simp;refine R.j _ _ I (λ_=>?_)
   try simp only[PS]
   refine DN ?_;clear p D bF F;have F:=LE N;clear N bP bJ
   cases S with
   | true =>
    rw[AI z]at P;go_wp2_with fail;refine(u.j _).J ?_;rintro r T ⟨rfl,p⟩;have N:=LE (F.j.E (p.J F.j.size));clear p;go_wp2;refine H (v:=.tuple #[Ow (shO V),Q1 true]) (by simp[results,results37,go_sem]) z ?_;rw[M.j,P.j];exact jn Q.j N.j _
   | false =>
    rw[AF σ]at P;go_wp2;refine H (v:=.tuple #[Ow ⟨#[110,111,110,101]⟩,Q1 true]) (by simp[results,results37,go_sem]) z ?_;rw[M.j,P.j];exact jn Q.j F.j _
  have J:Hid (RA 1 s=false):=LE (by unfold RA;rw[y,AH K];rfl)
  have M:=LE (nR (d:=i) J.j);rw[J.j];rw[y]at E;have k:((s.length:Int) == 1)=false:=BL.2 d;have g:¬((s.length:Int)=1):=d
  clear y K;go_enter func37,ntmps37;go_wp2_with fail;refine E.j.J ?_;rintro r U ⟨vt,rfl,L,p⟩;obtain⟨e,m,rfl⟩:=YC (L σ);have F:=LE p;clear p L;go_wp2;refine H (v:=.tuple #[Ow ⟨#[]⟩,Q1 false]) (by simp[results,results37,go_sem]) z ?_;rw[M.j];exact au Q.j F.j _
 have y:=GF.2 y
 have J:Hid (RA 1 s=false):=LE (by unfold RA;rw[y];rfl);have M:=LE (nR (d:=i) J.j);rw[J.j];rw[y]at E;clear y;go_enter func37,ntmps37;go_wp2_with fail;refine E.j.J ?_;rintro r U ⟨vt,rfl,_,p⟩;have F:=LE p;clear p;go_wp2;refine H (v:=.tuple #[Ow ⟨#[]⟩,Q1 false]) (by simp[results,results37,go_sem]) z ?_;rw[M.j];exact au Q.j F.j _
end
section
open Tryz
open Go.RowKit nw
def nk(B:Nat):Ra->Option (DataW Unit×List MemPlace)
 | .func (.func k) f c=>match f.toList,c.toList with
  | [.pointer (some a)],[]=>if a.block=B/\a.off=0/\a.spot.isNone=true then some (.lit (.int .i64 (k:Int)),[]) else none
  | _,_=>none
 | _=>none
theorem M5(B k:Nat):nk B (.func (.func k) #[Dr B 0] #[])=some (.lit (.int .i64 (k:Int)),[]):=by simp[nk]
theorem Ca{B:Nat}{v:Ra}{y:DataW Unit×List MemPlace}(h:nk B v=some y):∃k:Nat,y.1=.lit (.int .i64 (k:Int))/\v=.func (.func k) #[Dr B 0] #[]:=by
 unfold nk at h
 split at h
 .rename_i k f c
  split at h
  .rename_i a j i
   split at h
   .rename_i g
    cases h
    refine⟨k,z,?_⟩;obtain⟨b,o,l⟩:=a;obtain⟨rfl,rfl,e⟩:=g
    cases l with
    | none=>rw[show f=#[.pointer (some ⟨b,0,none⟩)] from IH j,show c=#[] from IH i]
    | some d=>cases e
   cases h
  cases h
 cases h
def td:List (Q4×Nat)->DataW Unit
 | []=>.map []
 | p::r=>(td r).put (.string p.1.data.toList) (.lit (.int .i64 (p.2:Int)))
theorem tJ:∀l,Maps.IsMap (td l)
 | []=>Maps.isMap_empty
 | p::r=>(tJ r).put _ _
theorem mF(s:Q4)(z:DataW Unit):∀l:List (Q4×Nat),(td l).atKey (.string s.data.toList) z=match l.find? (λp=>decide (p.1=s)) with|some p=>.lit (.int .i64 (p.2:Int))|none=>z
 | []=>rfl
 | p::r=>by
  by_cases h:p.1=s
  .subst h
   rw[List.find?_cons_of_pos σ];exact Maps.atKey_put_same (tJ r) (show WideAt.IsKeyLit (.string p.1.data.toList) from trivial) _ _
  rw[List.find?_cons_of_neg (by simp[h])]
  refine(Maps.atKey_put_other (λe=>h ?_) _ _).E (mF s z r);injection e with e;exact VT e.symm
def UI:List (Q4×Nat):=[(az,39),(ai,38),(YW,37),(ew,36),(fj,35),(gq,34),(fo,33),(em,32),(QPE,31),(zLH,30),(ZS,29)]
def CmM(w:Q9)(B M:Nat)(l:List (Q4×Nat)):Prop:=w.ownsMap prog 9 (nk B) M l.length (td l)
theorem zJ(s:Q4)(a:s.size<=1048576):keyOf prog 9 (Ow s)=some (.string s.data.toList):=by
 rw[keyOf_string underlying9];simp[mapKey,underlying9];unfold maxLen;omega
section
variable {w v:Q9} {B M:Nat} {l:List (Q4×Nat)} {ops:Array Oper} {rest:List Oper} {o1 o2 o3:Oper} {A:Act} {Q:Exit->Act->Q9->Prop}
theorem YZ(s:Q4)(k:Nat)(o:CmM v B M l)(a:Q3 w v)(n:w.heap.size<=M)
  (h:∀u,CmM u B M ((s,k)::l)->Q3 w u->wpList prog ops Q rest (((A.put o1.dst (Dr B 0)).put o2.dst (.func (.func k) #[Dr B 0] #[])).put o3.dst undef) u)
  {m x y:Operand}(E:l.length<100:=by decide)(q:s.size<=1048576:=by decide)(g:o1.guard=none:=by rfl)(i:o2.guard=none:=by rfl)(j:o3.guard=none:=by rfl)
  (d:(execOp A.eval o1).run prog v=.ok (.value (Dr B 0)) v:=by go_simp)(f:(execOp (A.put o1.dst (Dr B 0)).eval o2).run prog v=.ok (.value (.func (.func k) #[Dr B 0] #[])) v:=by go_simp)
  (p:o3.op=.insert 52 m x y:=by rfl)(r:((A.put o1.dst (Dr B 0)).put o2.dst (.func (.func k) #[Dr B 0] #[])).eval m=.map (some M):=by rfl)(t:((A.put o1.dst (Dr B 0)).put o2.dst (.func (.func k) #[Dr B 0] #[])).eval x=Ow s:=by rfl)(k3:((A.put o1.dst (Dr B 0)).put o2.dst (.func (.func k) #[Dr B 0] #[])).eval y=.func (.func k) #[Dr B 0] #[]:=by rfl):wpList prog ops Q (o1::o2::o3::rest) A v:=by
 refine VD g _ d (VD i _ f (IG j λD c=>?_));obtain⟨u,b,z,C⟩:=World.ownsMap.update o (Maps.string_keyed underlying9) underlying52 (by unfold maxLen;omega) (zJ s q) (M5 B k);unfold Oper.wp;simp[execOp,p,r,t,k3,b,Result.andThen];exact c _ _ (h u z (a.E (MU C a.size (λ_ e=>by cases e;exact n))))
theorem Nk(s:Q4)(q:s.size<=1048576)(o:CmM v B M l):(∃k,(s,k)∈l/\(Instr.lookup 52 (.map (some M)) (Ow s) true).run prog v=.ok (.tuple #[.func (.func k) #[Dr B 0] #[],Q1 true]) v)\/((∀p∈l,¬p.1=s)/\(Instr.lookup 52 (.map (some M)) (Ow s) true).run prog v=.ok (.tuple #[.nilFunc,Q1 false]) v):=by
 obtain⟨u,r,n,F,_,g⟩:=o;rcases Maps.fit_look true (Maps.string_keyed underlying9) underlying52 (z:=.nilFunc) z n F (zJ s q) with ⟨b,_,c⟩|⟨t,y,_,_,b,h,c,_⟩
 .refine .inr ⟨λp i e=>?_,b⟩
  have a:=(mF s (.lit (.bool true)) l).symm.E ((BD (λD:DataW Unit=>D.atKey (.string s.data.toList) (.lit (.bool true))) g).E (c (.lit (.bool true))));have f:(l.find? (λp=>decide (p.1=s))).isSome=true:=List.find?_isSome.2 ⟨p,i,by simpa using e⟩
  cases e2:l.find? (λp=>decide (p.1=s)) with
  | none=>rw[e2]at f;cases f
  | some j=>rw[e2]at a;cases a
 refine .inl ?_
 have a:=(mF s (.lit (.bool true)) l).symm.E ((BD (λD:DataW Unit=>D.atKey (.string s.data.toList) (.lit (.bool true))) g).E (c (.lit (.bool true))))
 cases e2:l.find? (λp=>decide (p.1=s)) with
 | none =>
  rw[e2]at a;obtain⟨k,e,-⟩:=Ca h;rw[e]at a
  cases a
 | some p =>
  rw[e2]at a;obtain⟨k,e,i⟩:=Ca h;rw[e]at a;simp only[DataW.lit.injEq,Lit.int.injEq,true_and]at a;have f:p.2=k:=d
  subst f;have j:=List.mem_of_find?_eq_some e2;have m:p.1=s:=by simpa using List.find?_some e2
  exact⟨p.2,by rw[<-m];exact j,by rw[<-i];exact b⟩
end
theorem Gb(B:Nat)(w:Q9):Calls prog 14 #[Dr B 0] w λr a=>r=Q2 (.map (some w.heap.size))/\CmM a B w.heap.size UI/\Q3 w a:=by
 have f:=@run_makeMap prog;go_enter func14,ntmps14;go_upto_region 1 with fail;refine AX ?_;refine ko z (.map (some w.heap.size)) (w.alloc (.map #[] 0)) l ?_;simp only[PS];have a:CmM (w.alloc (.map #[] 0)) B w.heap.size []:=World.ownsMap_made _ _ _ _;have b0:=LH w (.map #[] 0);generalize w.alloc (.map #[] 0)=h at a b0⊢;refine YZ ZS 29 a b0 C ?_;intro i c b;simp only[PS];clear a b0;refine YZ zLH 30 c b C ?_;intro j d a;simp only[PS];clear c b;refine YZ QPE 31 d a C ?_;intro k c b;simp only[PS];clear d a;refine YZ em 32 c b C ?_;intro m d a;simp only[PS];clear c b;refine YZ fo 33 d a C ?_;intro n c b;simp only[PS];clear d a;refine YZ gq 34 c b C ?_;intro o d a;simp only[PS];clear c b;refine YZ fj 35 d a C ?_;intro p c b;simp only[PS]
 clear d a;refine YZ ew 36 c b C ?_;intro q d a;simp only[PS];clear c b;refine YZ YW 37 d a C ?_;intro r e b;simp only[PS];clear d a;refine YZ ai 38 e b C ?_;intro g c a;simp only[PS];clear e b;refine YZ az 39 c a C ?_;intro e d b;simp only[PS];clear c a;have a:=LE (I d b);clear d b
 try go_wp2
 refine H (v:=.map (some w.heap.size)) (by simp[results,results14,go_sem]) z ?_;exact⟨z,a.j.1,a.j.2⟩
end
section
open Tryz
open Go.RowKit nw
theorem CmM.keep{w a:Q9}{B M:Nat}{l:List (Q4×Nat)}(h:CmM w B M l)(e:a.heap[M]?=w.heap[M]?):CmM a B M l:=by
 obtain⟨c,b,d,r⟩:=h;exact⟨c,b,e.E d,r⟩
theorem CmM.lt{w:Q9}{B M:Nat}{l:List (Q4×Nat)}(h:CmM w B M l):M<w.heap.size:=World.ownsMap.lt h
def YK(k:Nat)(f:Q4):Prop:=(∀e v,Sem.run prog (callFunc k e) v=.ok (.enter k e) v)/\∀(d:Dk) (B:Nat) (G:Nat->Prop) (q:Wp) (a:Q5) (c:Nat) (h:Q5) (b:List Q4) (wc:Nat) (w:Q9),CmIn w B d G q a c h b->∃g,(g=false->QO d f b=(d,NT))/\Calls prog k #[Dr B 0,Y h b.length wc] w λr i=>UQ w i B G r (QO d f b) g
theorem Ds:YK 29 ZS:=⟨λ_ _=>z,λd B G q a c f b wc w H=>⟨NY b && decide (b.length=2),λe=>show UR d b=_ from by unfold UR;rw[A (λk=>by rw[k.1,k.2]at e;simp at e)],Kr d B G q a c f b wc w H⟩⟩
theorem Mb:YK 30 zLH:=⟨λ_ _=>z,λd B G q a c f b wc w H=>⟨RA 2 b,λe=>show XY d b=_ from wN e,J5 d B G q a c f b wc w H.h H.ok.l H.g H.v H.s H.l H.z⟩⟩
theorem L1:YK 31 QPE:=⟨λ_ _=>z,λd B G q a c f b wc w H=>⟨RA 1 b,λe=>show YJ d b=_ from Ba e,Dx d B G q a c f b wc w H.h H.ok.l H.g H.v H.s H.l H.z⟩⟩
theorem Qn:YK 32 em:=⟨λ_ _=>z,λd B G q a c f b wc w H=>⟨NY b,λe=>show RH 2 d b=_ from by unfold RH;rw[A (by rw[e];simp)],Dj d B G q a c f b wc w H⟩⟩
theorem Eh:YK 33 fo:=⟨λ_ _=>z,λd B G q a c f b wc w H=>⟨NY b,λe=>show RH 1 d b=_ from by unfold RH;rw[A (by rw[e];simp)],J1 d B G q a c f b wc w H⟩⟩
theorem It:YK 34 gq:=⟨λ_ _=>z,λd B G q a c f b wc w H=>⟨NY b,λe=>show RH 3 d b=_ from by unfold RH;rw[A (by rw[e];simp)],Ny d B G q a c f b wc w H⟩⟩
theorem Oj:YK 35 fj:=⟨λ_ _=>z,λd B G q a c f b wc w H=>⟨NY b,λe=>show RH 4 d b=_ from by unfold RH;rw[A (by rw[e];simp)],Ex d B G q a c f b wc w H⟩⟩
theorem Lj:YK 36 ew:=⟨λ_ _=>z,λd B G q a c f b wc w H=>⟨NY b,λe=>show bn d b=_ from qD e,E4 d B G q a c f b wc w H⟩⟩
theorem Pc:YK 37 YW:=⟨λ_ _=>z,λd B G q a c f b wc w H=>⟨RA 1 b,λe=>show YQ d b=_ from nR e,I5 d B G q a c f b wc w H⟩⟩
theorem Kk:YK 38 ai:=⟨λ_ _=>z,λd B G q a c f b wc w H=>⟨decide (b.length=0),λe=>show YN d b=_ from by unfold YN;rw[A (GV e)],Gi d B G q a c f b wc w H⟩⟩
theorem H4:YK 39 az:=⟨λ_ _=>z,λd B G q a c f b wc w H=>⟨decide (b.length=0),λe=>show YS d b=_ from by unfold YS;rw[A (GV e)],Dq d B G q a c f b wc w H⟩⟩
theorem Gu{f:Q4}{k:Nat}(h:(f,k)∈UI):YK k f:=by
 simp only[UI,DZ,EK,EY,IX]at h;rcases h with ⟨rfl,rfl⟩|⟨rfl,rfl⟩|⟨rfl,rfl⟩|⟨rfl,rfl⟩|⟨rfl,rfl⟩|⟨rfl,rfl⟩|⟨rfl,rfl⟩|⟨rfl,rfl⟩|⟨rfl,rfl⟩|⟨rfl,rfl⟩|⟨rfl,rfl⟩
 .exact H4
 .exact Kk
 .exact Pc
 .exact Lj
 .exact Oj
 .exact It
 .exact Eh
 .exact Qn
 .exact L1
 .exact Mb
 exact Ds
theorem Lu{d:Dk}{f:Q4}{us:List Q4}(h:∀p∈UI,¬p.1=f):QO d f us=(d,NT):=by
 have k:∀t n,(t,n)∈UI->¬f=t:=λt n a e=>h _ a e.symm
 unfold QO;rw[A (k zLH 30 (by simp[UI])),A (k QPE 31 (by simp[UI])),A (k YW 37 (by simp[UI])),A (k ai 38 (by simp[UI])),A (k az 39 (by simp[UI])),A (k ew 36 (by simp[UI])),A (k ZS 29 (by simp[UI])),A (k fo 33 (by simp[UI])),A (k em 32 (by simp[UI])),A (k gq 34 (by simp[UI])),A (k fj 35 (by simp[UI]))]
theorem Eq(a:List Q4):(a.any λt=>decide ((⟨#[]⟩:Q4)=t))=bj a:=by
 unfold bj
 congr 1
 funext t
 by_cases h:t.size=0
 .rw[AM h,AM (VT (by rw[show t.data=#[] from EW h]))]
 rw[AH h,AH (λe=>h (by rw[<-e];rfl))]
theorem Pf(s:Q4)(g:Dk)(B:Nat)(m:Nat->Prop)(l:Wp)(a:Q5)(c M:Nat)(w:Q9)(h:DkI w B g m l a c)(V:g.ok 1000)(T:∀b,m b->10<=b/\b<w.heap.size)(hv:Vz w)(U:CmM w B M UI)(hs:s.size<=20000):Calls prog 16 #[Ow s,.map (some M)] w λr f=>r=Q2 (Ow (OX g s).2)/\(∃l a c,DkI f B (OX g s).1 (PO w f m) l a c)/\Fr w f m:=by
 have o:=LE (xN s 32 w d)
 obtain⟨f,n,i⟩:∃f n,MO 32 s=f::n:=by
  match e:MO 32 s with
  | []=>have:=rn 32 s;rw[e]at this;simp at this
  | f::n=>exact⟨f,n,z⟩
 have R:Hid (∀t∈f::n,t.size<=20000):=LE (λt E=>by have:=qz (b:=32) (s:=s) (t:=t) (by rw[i];exact E);omega);have aP:n.length<=20000:=by have:=nf 32 s;rw[i]at this;simp at this;omega
 have x:Hid (OX g s=if bj (f::n)=true then (g,NT) else QO g f n):=LE (by unfold OX;rw[i];rfl);rw[i]at o;have K:=LE h;have X:=LE V;have P:=LE T;have q:=LE hv;have Q:=LE U;clear i h V T hv U;go_enter func16,ntmps16;go_wp2_with fail;refine o.j.J ?_;rintro r C ⟨rfl,k,y⟩;have W:=k.lt;have c0:=k.y 0;have aN:(0:Int)<(n.length:Int)+1:=d
 have aL:Hid (Strs C (Hw w.heap.size 0) (f::n)):=LE (.inr ⟨w.heap.size,0,z,W,λi p=>by rw[BK];exact k.cell i _ (by rw[FO,AO p];simp[List.getD,AO p])⟩);have v:=LE y;have aK:=LE k;have I:=LE (Q.j.keep (y.block M Q.j.lt));clear o k y;simp only[BN];rcases Nk f (by have:=R.j f j;omega) I.j with ⟨k,hmem,hrun⟩|⟨hno,hrun⟩
 .have D:=LE (Gu hmem)
  have y:=LE (show Calls prog 41 #[Y (Hw w.heap.size 0) (n.length+1) (n.length+1),Ow ⟨#[]⟩] C _ from rQ (Hw w.heap.size 0) (f::n) (n.length+1) ⟨#[]⟩ C aL.j τ);rw[Eq]at y;clear hmem
  cases hn:bj (f::n) with
  | true =>
   rw[hn]at y x;rw[G z]at x;clear hn;go_wp2_with fail;refine y.j.J ?_;rintro r F ⟨rfl,o⟩;rw[o];clear o y F;go_wp2;refine H (v:=Ow NT) (by simp[results,results16,go_sem]) z ?_;rw[x.j];exact⟨z,⟨l,a,c,(K.j.I v.j).J (λb _ k=>.inl k)⟩,SW v.j⟩
  | false =>
   rw[hn]at y x;rw[A j]at x;clear hn
   have S:Hid (∀o,n=[]\/o=1->Strs C (Hw w.heap.size o) n):=LE (λo k=>by
    rcases k with k|rfl
    .exact .inl k
    .exact .inr ⟨w.heap.size,1,z,W,λi p=>by rw[Nat.add_comm];exact aK.j.cell (i+1) _ (by rw[FY,List.getElem?_cons_succ,FO,AO p];simp[List.getD,AO p])⟩)
   have N:=LE (λwa (k:Strs C wa n)=>D.j.2 g B m l a c wa n n.length C ⟨K.j.I v.j,X.j,λb k=>⟨(P.j b k).1,AC (P.j b k).2 v.j.size⟩,q.j.I v.j,k,d,λt E=>by have:=R.j t (DK _ E);omega⟩);have aM:=D.j.1;have aO:(1:Int)<=(n.length:Int)+1:=d
   obtain⟨p,i⟩:=u (QO g f n);rw[<-i]at N x;clear i D;go_wp2_with fail;refine y.j.J ?_;rintro r F ⟨rfl,o⟩;rw[o];clear o y F;go_wp2_with fail
   .subst h
    obtain⟨O,E,D⟩:=N.j (Hw w.heap.size 0) (S.j 0 (.inl z));have h:=True.intro;refine D.J ?_;rintro r w2 ⟨rfl,⟨J,y,F,o⟩,t⟩;have i:=LE (AG o t);have L:=LE E;clear E D o t h
    cases O with
    | true =>
     obtain⟨D,o⟩:=u p.2;have t:=LE o;rw[G z,<-o];clear o;go_wp2;refine H (v:=Ow D) (by simp[results,results16,go_sem]) z ?_;rw[x.j,t.j];exact⟨z,⟨J,y,F,i.j.1.J (λb _ k=>k.imp_right (λk=>⟨AJ v.j.size k.1,k.2⟩))⟩,(SW v.j).E i.j.2 (λb _ k=>k)⟩
    | false =>
     have o:=L.j z;rw[o]at x i;rw[A j];clear o;go_wp2;refine H (v:=Ow NT) (by simp[results,results16,go_sem]) z ?_;rw[x.j];exact⟨z,⟨J,y,F,i.j.1.J (λb _ k=>k.imp_right (λk=>⟨AJ v.j.size k.1,k.2⟩))⟩,(SW v.j).E i.j.2 (λb _ k=>k)⟩
   obtain⟨O,E,D⟩:=N.j (Hw w.heap.size 1) (S.j 1 (.inr z))
   refine D.J ?_;rintro r w2 ⟨rfl,⟨J,y,F,o⟩,t⟩;have i:=LE (AG o t);have L:=LE E;clear E D o t h
   cases O with
   | true =>
    obtain⟨D,o⟩:=u p.2;have t:=LE o;rw[G z,<-o];clear o;go_wp2;refine H (v:=Ow D) (by simp[results,results16,go_sem]) z ?_;rw[x.j,t.j];exact⟨z,⟨J,y,F,i.j.1.J (λb _ k=>k.imp_right (λk=>⟨AJ v.j.size k.1,k.2⟩))⟩,(SW v.j).E i.j.2 (λb _ k=>k)⟩
   | false =>
    have o:=L.j z;rw[o]at x i;rw[A j];clear o;go_wp2;refine H (v:=Ow NT) (by simp[results,results16,go_sem]) z ?_;rw[x.j];exact⟨z,⟨J,y,F,i.j.1.J (λb _ k=>k.imp_right (λk=>⟨AJ v.j.size k.1,k.2⟩))⟩,(SW v.j).E i.j.2 (λb _ k=>k)⟩
 have i:=LE (Lu (d:=g) (us:=n) hno)
 have o:Hid (OX g s=(g,NT)):=LE (by rw[x.j,i.j];split<;>rfl);clear hno x i;go_wp2;refine H (v:=Ow NT) (by simp[results,results16,go_sem]) z ?_;rw[o.j];exact⟨z,⟨l,a,c,(K.j.I v.j).J (λb _ k=>.inl k)⟩,SW v.j⟩
end
section
open Tryz
open Go.RowKit nw
def ie(w b:Q9)(B:Nat)(G:Nat->Prop)(r:Ending)(p:Dk×Q4):Prop:=r=Q2 (Ow p.2)/\(∃q a c,DkN b B p.1 (PO w b G) q a c)/\Fr w b G
theorem cd{w f:Q9}{B:Nat}{G:Nat->Prop}{d:Dk}{q:Wp}{a:Q5}{c:Nat}(h:DkN w B d G q a c)(e:Q3 w f)(s:Q4):ie w f B G (Q2 (Ow s)) (d,s):=⟨z,⟨q,a,c,(h.I e).J (λb _ k=>.inl k)⟩,SW e⟩
theorem oq{w e g:Q9}{B:Nat}{G:Nat->Prop}{d:Dk}{q:Wp}{a:Q5}{c:Nat}(h:DkN e B d (PO w e G) q a c)(i:Fr w e G)(f:Q3 e g)(s:Q4):ie w g B G (Q2 (Ow s)) (d,s) :=⟨z,⟨q,a,c,(h.I f).J (λb l k=>k.imp_right (λk=>⟨k.1,AC k.2 f.size⟩))⟩,i.E (SW f) (λb _ k=>k)⟩
def xc(b:Bool)(a:List Q4):Bool:=(NN (a.getD 1 empty)).isSome && (b || (NN (a.getD 2 empty)).isSome)
def uj(a:Bool)(b:List Q4):Q4:=if a=true then ⟨#[]⟩ else (NN (b.getD 2 empty)).getD empty
def dm(a:Bool)(d:Dk)(b:List Q4):Dk×Q4:=if xc a b=true then XC d ((NN (b.getD 1 empty)).getD empty,uj a b,a) else (d,NT)
theorem Og(t:Bool)(g:Dk)(B:Nat)(p:Nat->Prop)(q:Wp)(a:Q5)(c:Nat)(wa:Q5)(F:List Q4)(wc:Nat)(w:Q9)(n:DkN w B g p q a c)(hl:g.b.length<=1000)(J:Strs w wa F)(C:F.length=if t=true then 2 else 3)(G:F.getD 0 empty=QPE<->t=true)(hz:∀s∈F,s.size<=30000):Calls prog 44 #[Dr B 0,Y wa F.length wc] w λr N=>ie w N B p r (dm t g F):=by
 obtain⟨i3,z3,k,m,l,i,e⟩:=vP Bj;have W:=LE (I k (I m (I l (I i e))));clear k m l i e;have HH:=LE n
 have L:2<=F.length:=by rw[C];cases t<;>decide
 obtain⟨m,o,e,P,l⟩:=J.resolve_left (λk=>by rw[k]at L;simp at L);subst e;obtain⟨u0,Q⟩:=u (F.getD 0 empty);obtain⟨u1,s⟩:=u (F.getD 1 empty);obtain⟨u2,y⟩:=u (F.getD 2 empty)
 have K:=λi=>oI hz i
 have E:=LE (λN=>oS u1 N (by rw[s];exact K 1));have bQ:=LE (λN=>oS u2 N (by rw[y];exact K 2));have c0:w.cell? (Ki m o)=some (Ow u0):=by rw[Q];exact l 0 d
 have j:w.cell? (Ki m (o+1))=some (Ow u1):=by rw[s];exact l 1 d
 obtain⟨S,M⟩:=u ((NN u1).isSome);obtain⟨v,i⟩:=u ((NN u1).getD empty);obtain⟨o1,O⟩:=u ((NN u2).isSome);obtain⟨v0,R⟩:=u ((NN u2).getD empty);have X:Hid (dm t g F=if (S && (t || o1))=true then XC g (v,(if t=true then ⟨#[]⟩ else v0),t) else (g,NT)):=LE (by unfold dm xc uj;rw[<-s,<-y,<-M,<-O,<-i,<-R]);rw[<-M,<-i]at E;rw[<-O,<-R]at bQ;have T:Hid (t=false->w.cell? (Ki m (o+2))=some (Ow u2)):=LE (λe=>by rw[y];exact l 2 (by rw[C,e];decide));have h:(1:Int)<(F.length:Int):=d
 have U:Hid (t=false->(2:Int)<(F.length:Int)):=LE (λe=>by rw[C,e];decide);have D:(0:Int)<(F.length:Int):=d
 rw[<-Q]at G
 have V:(u0.toList == [100,101,108])=t:=by
  cases t with
  | true=>exact VR (G.2 z)
  | false=>exact VL (λk=>by have:=G.1 k;cases this)
 clear Q s y M i O R l J C L G K hz n;go_enter func44,ntmps44;go_upto_region 2 with fail;generalize i:w.alloc _=v1;obtain⟨l,K,y⟩:=LP i;clear i;have O:=(l.cell (p:=(Ki m (o+1))) P).E j;have M:=AC P l.size;go_wp2_with fail;refine(E.j v1).J ?_;rintro r w1 ⟨rfl,s⟩;have L:=l.E (s.J l.size);have i:=(y.I s).q;have x:=i.y 0;have Q:=i.A 0;have R:=i.lt;clear E O c0 j l K y s M;go_upto_region 4 with fail;obtain⟨y,s⟩:=u (w1.setCell (Ki w.heap.size 0) (Ow v));have O:=NZ (BC w1 (some w.heap.size)) 0 (Ow v);have E:=i.set 0 σ (Ow v);rw[<-s]at O E⊢;have l:=LE (L.E (MU O L.size (λ_ e=>by cases e;exact AA)));have M:=LE E;clear s O i E x Q R L V;go_cut [27] from 22 to 27 (λs i=>s=Q1 (!t && S)/\i=y)
 case first =>
  have y2:=M.j.y 2;have s:=M.j.lt
  cases t with
  | true=>go_wp2;go_meet;exact⟨by cases S<;>rfl,z⟩
  | false=>go_wp2;go_meet;exact⟨by cases S<;>rfl,z⟩
 case rest =>
 obtain⟨rfl,s⟩:=hcut;rw[s];clear s;go_upto_if 27 with fail;obtain⟨V,s⟩:=u (S && (t || o1));obtain⟨E,K⟩:=u (if t=true then (⟨#[]⟩:Q4) else v0);rw[<-s,<-K]at X;have H:=LE s;have bR:=LE K;clear s K;go_cut [7] from 28 to 35 (λs i=>s=Q1 V/\(V=true->Row i w.heap.size [Ow v,Ow E,Q1 t])/\Q3 w i)
 case first =>
  cases t with
  | true =>
   have R:E=⟨#[]⟩:=bR.j;have i:V=S:=by rw[H.j];simp
   subst R;subst i;simp only[Bool.not_true,Bool.false_and];go_wp2;go_meet;exact⟨z,λ_=>M.j,l.j⟩
  | false =>
   have R:E=v0:=bR.j;subst R
   cases S with
   | false =>
    have i:V=false:=by rw[H.j];rfl
    subst i;simp only[Bool.not_false,GL];go_wp2;go_meet;exact⟨z,λk=>(by cases k),l.j⟩
   | true =>
    have i:V=o1:=by rw[H.j];simp
    subst i;have d2:=(l.j.cell (p:=(Ki m (o+2))) P).E (T.j z);have l3:=U.j z;have j:=AC P l.j.size;simp only[Bool.not_false,GL];go_wp2_with fail;refine(bQ.j y).J ?_;rintro r w2 ⟨rfl,s⟩;have Q:=M.j.I s;have K:=Q.y 1;have f1:=Q.A 1;have lZ:=Q.lt;have O:=NZ (BC w2 (some w.heap.size)) 1 (Ow E);have A:=LE (Q.set 1 σ (Ow E));have L:=l.j.E (s.J l.j.size);have x:=LE (L.E (MU O L.size (λ_ e=>by cases e;exact AA)));clear d2 l3 j s O Q L;go_wp2;go_meet;exact⟨z,λ_=>A.j,x.j⟩
 case rest =>
 obtain⟨rfl,s,K⟩:=hcut
 cases V with
 | false =>
  rw[AF σ]at X;have L:=LE K;clear s K M l;go_wp2;refine AE (v:=Ow NT) (by simp[results,results44,go_sem]) z ?_;rw[X.j];exact cd HH.j L.j _
 | true =>
  rw[AI z]at X;have s:=s z;clear M l T U h D P;go_upto_region 8 with fail;have T:Q3 w wc.drew:=K.E (((@AB wc.heap.size wc).drew).J K.size);have n:=HH.j;have lB:=n.r.lt;have M:=n.I T;have i:=s.I (@AB wc.heap.size wc).drew;have lz:=T.size;have lw:w.heap.size<wc.heap.size:=s.lt;have U:=K;clear s K;refine WN (10) (S:=λN=>Row N B (nn g q a c)/\Row N w.heap.size [Ow v,Ow E,Q1 t]) κ (⟨M.r,i⟩) (λP=>?_);refine OK 0 (Dr B 0) z P (OK 1 (Dr B 0) z P (ME 2 (Dr B 0) z (b ⟨f,λw J=>by obtain⟨O,K⟩:=J;have l:=O.lt;go_simp⟩) P (ME 3 (Dr B 16) z (b ⟨f,λw J=>by obtain⟨O,K⟩:=J;have l:=O.lt;go_simp⟩) P (ME 4 (Y a g.b.length c) z (b ⟨f,λw J=>by obtain⟨O,K⟩:=J;have cc:=O.y 16;go_simp⟩) P (ME 5 (.agg #[Ow v,Ow E,Q1 t]) z (b ⟨f,λw J=>by obtain⟨O,K⟩:=J;have c0:=K.y 0;have j:=K.y 1;have c2:=K.y 2;have l:=K.lt;go_simp⟩) P ?_)))))
  simp only[PS];refine OJ 6 z (λD Q=>?_);generalize s:wc.drew=y at M i T lz⊢;clear s;go_simp;obtain⟨y2,s⟩:=u (y.alloc (.cells #[Ow v,Ow E,Q1 t] 102));rw[<-s];have rG:=LZ y #[Ow v,Ow E,Q1 t] 102;have U:=LH y (.cells #[Ow v,Ow E,Q1 t] 102);rw[<-s]at rG U;clear s;have L:=M.I U;have h:=i.I U;have A:=T.E (U.J T.size);clear M i;refine Q.j _ _ (⟨L.r,h⟩) (λcI=>?_)
  try simp only[PS]
  refine OJ 7 z (λD Q=>?_);refine step_append_lies _ z _ _ 49 z (B+1) 102 i3 z3 3 i3.bytes underlying49 W.j.1 W.j.2.1 W.j.2.2.1 z W.j.2.2.2.1 d (Y a g.b.length c) g.b.length (NL g.b) z L.o (Ki y.heap.size 0) 1 1 [Ow v,Ow E,Q1 t] z z (λs i M=>by have:=rG.cell s i M;rw[gx];exact this) (by intro i hu;simp at hu;rcases hu with rfl|rfl|rfl<;>rfl) d (by unfold maxLen;omega) (by have:=W.j.2.2.2.2;have:(g.b.length+1)*i3.bytes<=1001*1000:=Nat.mul_le_mul d this;omega) (by have:=A.size;omega) _ z ?_;intro g9 cH u3 aR s aP cQ
  have R:∀m,(Y a g.b.length c).ownBlock=some m->m≠B/\m≠w.heap.size:=λm M=>⟨by have:=SU L.o M;omega,by have:=SU n.o M;omega⟩
  refine Q.j _ _ (⟨L.r.V s (λe=>(R B e.symm).1 z),h.V s (λe=>(R _ e.symm).2 z)⟩) (λaO=>?_)
  try simp only[PS]
  refine OJ 8 z (λD Q=>?_);have x:=(L.r.V s (λe=>(R B e.symm).1 z)).lt;go_simp;clear x;refine Q.j _ _ aO (λ_=>?_)
  try simp only[PS]
  refine ME 9 (Dr B 16) z (b ⟨f,λw J=>by obtain⟨O,K⟩:=J;have l:=O.lt;go_simp⟩) aO ?_;simp only[PS];refine QZ (rs:=[10]) κ σ ?_;refine AllReadyT.last z (λD Q=>?_);have x:=(L.r.V s (λe=>(R B e.symm).1 z)).y 16;have fB:=(L.r.V s (λe=>(R B e.symm).1 z)).A 16;have cN:=(L.r.V s (λe=>(R B e.symm).1 z)).lt;go_simp;clear x fB cN;refine Q.j _ _ trivial (λ_=>?_)
  try simp only[PS]
  refine VE κ ?_ _;have ZZ:=L.wait (ch:=(v,E,t)) s (by rw[uV];exact aR) (aP.imp_right (λe=>Nat.le_of_eq e.symm));generalize x:u3.setCell _ _=u4 at ZZ⊢;clear x;obtain⟨D4,F4⟩:=ZZ
  skip
  have F5:Fr w u4 p:=(SW A).E F4 (λm _ k=>k);have k:=D4.J (H:=PO w u4 p) (λm l M=>M.imp_right (λM=>⟨by have:=A.size;omega,M.2⟩));obtain⟨M,x⟩:=nHz (g.b.length+1);have c16:=k.r.y 16;rw[show((⟨g.x,g.b++[(v,E,t)]⟩:Dk).b.length)=M by rw[x.j];simp]at c16;have l5:=k.r.lt;have CI:=LE (λN=>kg 9 M N (by rw[x.j];omega) δ);have N:=LE (I k F5);clear D4 F4 k F5 L h rG s aR aP cQ R A T U n P;go_wp2_with fail;refine(CI.j u4).J ?_;rintro r P ⟨rfl,k⟩;have L:=LE k;clear k c16 l5;have k:(y0p M).size<=9:=UT (by have:=x.j;omega);have R:¬(9223372036854775807<5+(y0p M).size):=d
  have s:¬(9223372036854775802<(y0p M).size):=d
  clear k;go_wp2;refine AE (v:=Ow ((⟨#[119,97,105,116,32]⟩:Q4)++y0p M)) (by simp[results,results44,go_sem]) z ?_;rw[X.j];have e:XC g (v,E,t)=(⟨g.x,g.b++[(v,E,t)]⟩,(⟨#[119,97,105,116,32]⟩:Q4)++y0p M):=by rw[x.j];rfl
  rw[e];exact oq N.j.1 N.j.2 L.j _
end
section
open Tryz
open Go.RowKit
variable {F:Nat->Prop}{w w':Q9}
theorem OwL.depN{o:Nat->Nat}{k:Nat}{a:Q5}{c:List Ra}(h:OwL w o k a c)(i:k≠0)(hF:∀b,o b≠0->F b):DepF w F (λW=>OwL W o k a c) :=⟨h,λw' d f=>h.imp_right λ⟨g,e,r,n⟩=>⟨g,e,VM r (f g (hF g ω) r.lt) (AC r.lt d.size),n⟩⟩
theorem WoG.woF{x:Wo}{q:Wp}{o:Nat->Nat}(h:RY x w q o)(hF:∀b,o b≠0->F b):WoF x w F q :=⟨(h.h1.depN ω hF).map λ_ k=>k.own.strs,(h.h2.depN ω hF).map λ_ k=>k.own.wrs,(h.h3.depN ω hF).map λ_ k=>k.own.prs,
  by
  rcases h.h4 with c|⟨b,e,f,n,g⟩
  .exact .inl (AD c)
  .refine .inr ⟨b,0,e,f,hF b ω,λi d=>?_⟩
   obtain⟨m,a,j,l⟩:=g i d
   exact⟨m,a,by rw[BK];exact j,(l.depN ω hF).map λ_ k=>k.own.prs⟩,
  (h.h5.depN ω hF).map λ_ k=>k.own.strs⟩
theorem pn{V:Q9}{r:Option Nat}(h:V.grownBy w r)(a:Q3 w w'):V.grownBy w' r :=⟨a.os.E h.os,a.tape.E h.tape,a.output.E h.output,AJ h.size a.size,λi b c=>(a.block i (AC b h.size)).E (h.block i b c)⟩
theorem I8{V:Q9}{r c:Option Nat}(h:V.grownBy w r)(a:w.grownBy w' c)(f:∀g,c=some g->V.heap.size<=g):V.grownBy w' r :=⟨a.os.E h.os,a.tape.E h.tape,a.output.E h.output,AJ h.size a.size,λi b d=>(a.block i (AC b h.size) (λe=>by have:=f i e.symm;omega)).E (h.block i b d)⟩
theorem PcI.V{B g:Nat}{o:Nat->Nat}{v:Ra}{P:List (List Pr)}{j:Nat}{a:List Ra}(h:PcI B w o v P j a)(b:w.grownBy w' (some g))(m:g<B):PcI B w' o v P j a :=⟨h.own.kept b (.inr (λe=>by have:=(h.own.lt g e).1;omega)),h.lab,h.low,λi l=>by obtain⟨p,c,d,f⟩:=h.ech i l;exact⟨p,c,d,f.only (K:=λk=>k=0) (pu b (λx e=>by cases e;exact KL λk=>by have:=h.low g k;omega)) ω⟩⟩
def Fl(w w':Q9)(r:Ending)(x:Wo):Prop:=∃q o,r=Q2 (MD x q)/\RY x w' q o/\(∀b,b<w.heap.size->o b=0)/\Q3 w w'
def Dn(V w:Q9)(B:Nat)(b:Ra->List Ra)(P:List (List Pr))(d:Ra):Prop:=∃(j:Nat) (o:Nat->Nat) (c:Ra) (a:List Ra),j<=P.length/\d=Z (j:Int)/\PcI V.heap.size w o c P j a/\Row w B (b c)/\V.grownBy w (some B)
theorem zZ(a:Wo)(q:Wp)(w:Q9)(n:a.at w q)(l:a.ok):Calls prog 77 #[MD a q] w λr w'=>Fl w w' r a:=by
 obtain⟨cZ,dB⟩:a.ss.length<=200/\a.ws.length<=300:=by
  rcases l.d with n|⟨h1,R⟩
  .obtain⟨⟨_,R,c⟩,_,_⟩:=QH n;exact⟨R,c⟩
  rw[h1,R];simp
 have dU:=l.p.1;have dZ:=l.t.1;have dV:=(XO l.s).1;have cI:Hid (∀m,m<a.P.length->(a.P.getD m []).length<=1048576):=LE (λm hj=>by have:=(XO (l.p.2 (a.P.getD m []) (by simp[List.getD,hj]))).1;omega);have v:DepF w (λc=>c≠w.heap.size+1+1) (λW=>a.at W q):=(yg n (λw' t=>n.I t)).J (λc t _=>d);obtain⟨i0,e,g,i,k⟩:=aq kq;have HI:=LE (I e (I g (I i k)));clear e g i k;obtain⟨i1,e,g,i,k⟩:=aq ub;have HJ:=LE (I e (I g (I i k)));clear e g i k;have o:=LE (λw' L e=>TW q.a a.ss q.c q.a' a.ws q.c' w' L e cZ dB);unfold LR at o;unfold MD;clear n l;go_enter func77,ntmps77;go_upto_region 1 with fail;generalize e:w.alloc _=v1;obtain⟨k,R,b0⟩:=LP e;clear e;generalize e:v1.alloc _=v2;obtain⟨g,N,p⟩:=LP e;clear e;rw[R]at p N;have s:=(b0.I g).q;refine AX ?_;refine BE z 47 _ z w.heap.size 0 z _ _ s.range underlying47 z NH ?_
 simp only[PS];go_upto_region 2 with fail;generalize e:v2.alloc _=v3;obtain⟨i,S,b2⟩:=LP e;clear e;rw[N]at b2 S;have t:=k.E ((g.E (i.J g.size)).J k.size);have e:Sc w v3 (w.heap.size+1+1) (wL a q) _:=⟨⟨t.os,t.tape,t.output,t.size,λc h1 _=>t.block c h1⟩,b2.q,(((v.I k).I g).I i).and ((WG (s.I i) d).and (WG (p.I i).q d))⟩;have l3:w.heap.size+1+1<v3.heap.size:=e.r.lt;clear t k g i b0 p b2 R N S v s;have g:=e.m.q.2.1.y 1;have i:=e.m.q.2.1.y 2;have u:=e.m.q.2.1.lt;go_wp2_with fail;clear g i u;refine(o.j _ e.m.q.1.h1 e.m.q.1.h2).J ?_;rintro r v4 ⟨H,L,K,P,rfl,i,s,v,t⟩
 have uA:=λg k=>YA (g:=g) i.s (λp X=>p (zF X)) k
 have uB:=λg k=>YA (g:=g) i.p (λp X=>p (qI X)) k
 have dF:=i.ne;have l4:=t.size
 have gA:∀g,blk (Hw H 0) a.ss.length=some g->w.heap.size+1+1<g:=λg k=>by have:=s g k;omega
 have gB:∀g,blk (Hw K 0) a.ws.length=some g->w.heap.size+1+1<g:=λg k=>by have:=v g k;omega
 replace e:=(e.I t).add ((XS i.s YP (lo:=w.heap.size+1+1+1) (λg k=>gA g k) (SB:=w.heap.size+1+1) d).and (XS i.p iy (lo:=w.heap.size+1+1+1) (λg k=>gB g k) (SB:=w.heap.size+1+1) d));clear o t i s v;have o:=e.r.y 1;have p:=e.r.y 2;have s:=e.r.A 1;have t:=e.r.A 2;have i:=e.r.lt;go_upto_region 3 with fail;clear o s p t i;replace e:=(e.set 1 j (Y (Hw H 0) a.ss.length L)).set 2 j (Y (Hw K 0) a.ws.length P);have z5:((v4.setCell (Ki (w.heap.size+1+1) 1) (Y (Hw H 0) a.ss.length L)).setCell (Ki (w.heap.size+1+1) 2) (Y (Hw K 0) a.ws.length P)).heap.size=v4.heap.size:=by rw[BI,BI]
 generalize i:World.setCell (World.setCell _ _ _) _ _=v5 at e z5⊢;clear i;have i:=LE (kl q.s a.rs q.cs v5 e.m.q.1.1.h3 d);unfold LX at i;have o:=e.m.q.1.2.1.y 13;have u:=e.m.q.1.2.1.lt;go_wp2_with fail;clear o u;refine i.j.J ?_;rintro r v6 ⟨J,Q,rfl,s,o,p,t⟩;unfold LX;have eE:=t.size
 have gC:∀g,blk J a.rs.length=some g->v4.heap.size<=g:=λg k=>by have:=p g k;omega
 have uC:=λg k=>YA (g:=g) o jg k
 replace e:=(e.I t).add (XS o TS p (SB:=w.heap.size+1+1) d);clear i t o p s;have o:=e.r.y 13;have D:=e.r.y 14;have p:=e.r.A 13;have E:=e.r.A 14;have i:=e.r.lt;go_wp2_with fail;clear o p D E i;have o:=(e.set 13 j (Y J a.rs.length Q)).set 14 j (Y (Hw v6.heap.size 0) 0 0);have z7:((v6.setCell (Ki (w.heap.size+1+1) 13) (Y J a.rs.length Q)).setCell (Ki (w.heap.size+1+1) 14) (Y (Hw v6.heap.size 0) 0 0)).heap.size=v6.heap.size:=by rw[BI,BI]
 generalize i:World.setCell (World.setCell _ _ _) _ _=V at o z7⊢;rw[<-z7]at o⊢;clear i e;have lV:w.heap.size+1+1<V.heap.size:=o.r.lt;have HM:=LE (λW (g:V.grownBy W (some (w.heap.size+1+1)))=>((o.m.J (G:=λc=>c≠w.heap.size+1+1/\c<V.heap.size) (λc t k=>⟨k,t⟩)).step (MU g AL (λ_ _=>AL)) (λc k _=>g.block c k.2 (λe=>k.1 (by injection e)))).q);have C:=o.e;go_loopw [4] (λi wr=>Dn V wr (w.heap.size+1+1) (λx=>[Z a.w,Y (Hw H 0) a.ss.length L,Y (Hw K 0) a.ws.length P,Q1 a.up,Z a.W,Z a.S,Z a.L,Z a.T,Z a.H,Z a.F,Z a.R,Z a.U,Z a.O,Y J a.rs.length Q,x,Y q.t a.ts.length q.ct]) a.P i) (λi _=>a.P.length-(intOf i).toNat)
 case atStart =>
  refine⟨0,λc=>if c=V.heap.size then 5 else 0,_,[],AL,z,⟨DH (w:=V) (e:=42) (size:=1) #[] 0 AA j j,λg e=>by(cases e;simp),λc e=>?_,λi p=>d⟩,o.r.I (LH _ _),World.grownBy_alloc _ _ _⟩
  by_cases t:c=V.heap.size
  .omega
  exact absurd (A t) e
 case round =>
  clear o;obtain⟨m,oj,x,news,hj,rfl,bG,v,y⟩:=hrel;have M:=HM.j wr y;have eF:=y.size;have cH:=M.1.1.2.1.y 14;have u:=M.1.1.2.1.lt
  by_cases bT:m<a.P.length
  .have cX:(m:Int)<(a.P.length:Int):=d
   have dR:(0:Int)<=(m:Int):=d
   have eB:IntKind.i64.wrap ((m:Int)+1)=((m+1:Nat):Int):=by rw[QC _ d d];omega
   obtain⟨c,ob,p,cp,o,cC,B,HS⟩:=M.1.1.1.h4.at bT;obtain⟨b2,_,_,_,X,dP,_,_⟩:=(HM.j V (BC _ _)).1.1.1.h4.at bT;rw[o]at X
   cases X
   have HQ:=LE o;have cA:=cI.j m bT;obtain⟨T,bW⟩:=nHz (a.P.getD m []);rw[<-bW.j]at B HS cA;have bC:Hid (∀W,V.grownBy W (some (w.heap.size+1+1))->Row W w.heap.size (wL a q)):=LE (λW g=>(HM.j W g).1.1.2.1);go_upto_region 8 with fail;clear cH u M o;refine WN (11) (S:=λw'=>Row w' w.heap.size (wL a q)/\Row w' (w.heap.size+1+1) [Z a.w,Y (Hw H 0) a.ss.length L,Y (Hw K 0) a.ws.length P,Q1 a.up,Z a.W,Z a.S,Z a.L,Z a.T,Z a.H,Z a.F,Z a.R,Z a.U,Z a.O,Y J a.rs.length Q,x,Y q.t a.ts.length q.ct]/\w'.cell? (Ki c (ob+m))=some (Y p T.length cp)) κ (⟨bC.j _ (pn y (AB).drew),v.I (AB).drew,OG (@AB wr.heap.size wr).drew B (by show c<_;exact cC)⟩) (λU=>?_);refine ME 0 (Dr (w.heap.size+1+1) 14) z (AT ⟨f,λw O=>by obtain⟨R,N,S⟩:=O;have o:=N.lt;go_simp⟩) U (ME 1 (x) z (AT ⟨f,λw O=>by obtain⟨R,N,S⟩:=O;have D:=N.y 14;go_simp⟩) U (ME 2 (Dr w.heap.size 14) z (AT ⟨f,λw O=>by obtain⟨R,N,S⟩:=O;have o:=R.lt;go_simp⟩) U (ME 3 (Y q.p a.P.length q.cp) z (AT ⟨f,λw O=>by obtain⟨R,N,S⟩:=O;have D:=R.y 14;go_simp⟩) U (OK 4 (Z (m:Int)) z U (ME 5 (Dr c (ob+m)) z (AT ⟨f,λw O=>by obtain⟨R,N,S⟩:=O;have hq:=HQ.j;have o:=DP _ _ S;rw[hq];go_simp⟩) U (OK 6 (.agg #[Y p T.length cp]) z U ?_))))))
   simp only[PS];refine OJ 7 z (λKq W=>?_);have s:Q3 wr wr.drew:=(AB).drew;replace y:=pn y s;replace v:=v.I s;replace B:=OG s B (by show c<_;exact cC);have h:=HS.j.I s;have G:=bG.I s;generalize E:wr.drew=y0 at y v B h G s⊢;clear E;refine LM f _ _ γ (kl p T cp y0 h cA) ?_;rintro r y1 ⟨a6,c6,rfl,dQ,b,g6,t⟩;refine⟨_,z,?_⟩;unfold LX;have l0:=s.size;have l1:=t.size;have E:=t;replace y:=pn y t;replace v:=v.I t;replace B:=OG t B (by show c<_;omega);clear t s h;refine W.j _ _ (⟨bC.j _ y,v,B⟩) (λcS=>?_)
   try simp only[PS]
   refine OJ 8 z (λKq W=>?_);go_simp;obtain⟨y2,h⟩:=nMz (y1.alloc (.cells #[Y a6 T.length c6] 42));have t:=LH y1 (.cells #[Y a6 T.length c6] 42);have rG:=LZ y1 #[Y a6 T.length c6] 42;rw[<-h]at t rG⊢;obtain⟨GB,s⟩:=nMz y1.heap.size;rw[<-s]at rG⊢;have l2:=t.size;replace y:=pn y t;replace v:=v.I t;replace B:=OG t B (by show c<_;omega);have b:=b.I t;replace E:=E.E (t.J l1);clear h s t;refine W.j _ _ (⟨bC.j _ y,v,B⟩) (λcT=>?_)
   try simp only[PS]
   refine OJ 9 z (λKq W=>?_);refine UG _ z _ _ 45 z V.heap.size underlying45 HJ.j z d x m news z (MK G.own E) (Ki GB 0) 1 1 [Y a6 T.length c6] z z (λm s hu=>by rw[gx];exact rG.cell m s hu) (by intro s hu;simp at hu;subst hu;rfl) d y2.heap.size z ?_;intro g9 aL y3 aH h aR cY
   have bF:∀b',x.ownBlock=some b'->V.heap.size<=b':=λb' k=>(G.own.lt b' k).1
   rw[bW.j]at aH b g6;obtain⟨o9,cF⟩:=G.push d E b g6 aH h aR;replace y:=I8 y h bF;replace v:=v.V h (λe=>by have:=bF _ e.symm;omega);replace B:=(DT (a:=(Ki c (ob+m))) (h.block c d (λe=>by have:=bF _ e.symm;omega))).E B;clear aH h aR G E rG b g6 bF;refine W.j _ _ (⟨bC.j _ y,v,B⟩) (λh=>?_)
   try simp only[PS]
   refine ME 10 (Dr (w.heap.size+1+1) 14) z (AT ⟨f,λw O=>by obtain⟨R,N,S⟩:=O;have o:=N.lt;go_simp⟩) h ?_;simp only[PS];refine QZ (rs:=[11]) κ j ?_;refine AllReadyT.last z (λKq W=>?_);have D:=v.y 14;have E:=v.A 14;go_simp;clear D E;refine W.j _ _ trivial (λ_=>?_)
   try simp only[PS]
   refine VE κ ?_ _;have E:=NZ (BC y3 (some (w.heap.size+1+1))) 14 (Y (Hw g9 0) (m+1) aL);have O:=LE (I (cF.V E d) (I (v.set 14 j (Y (Hw g9 0) (m+1) aL)) (OE y E)));generalize World.setCell _ _ _=D at O⊢;clear cF v y B E;go_wp2;exact⟨⟨m+1,o9,_,_,d,ν,O.j.1,O.j.2.1,O.j.2.2⟩,by simp[intOf];omega⟩
  obtain rfl:m=a.P.length:=d
  obtain⟨p,pc,rfl⟩:=YC bG.own;have E:=M.1.1.1.h5;obtain⟨S,O⟩:=nHz (λc=>if V.heap.size<=c then (if c<wr.heap.size then oj c else 4) else if blk (Hw H 0) a.ss.length=some c then 1 else if blk (Hw K 0) a.ws.length=some c then 2 else if blk J a.rs.length=some c then 3 else 0)
  have hF:∀c,c<=w.heap.size+1+1->S c=0:=λc t=>by rw[O.j];simp only[];rw[A d,A (λe=>by have:=gA c e;omega),A (λe=>by have:=gB c e;omega),A (λe=>by have:=gC c e;omega)]
  have s:bk wr S p a.P:=bG.pso (λc h1 R=>by rw[O.j];simp only[];rw[AI h1,AI R]);have o:WoG (a.ss.map Value.string) (MZ a.ws) (LS a.rs) a.P.length (λi=>a.P.getD i []) [] wr ⟨Hw H 0,L,Hw K 0,P,J,Q,p,pc,none,0⟩ S:=⟨VQ M.1.2.1 YP (lo:=0) (λ_ _=>AL) (λg k=>?_),VQ M.1.2.2 iy (lo:=0) (λ_ _=>AL) (λg k=>?_),VQ M.2 TS (lo:=0) (λ_ _=>AL) (λg k=>?_),s,.inl z⟩
  rotate_left
  .rw[O.j];simp only[];rw[A (by have:=uA g k;omega),AI k]
  .rw[O.j];simp only[];rw[A (by have:=uB g k;omega),A (λe=>by rcases dF with n|n|n;rw[n]at e;cases e;rw[n]at k;cases k;exact n (e.E k.symm)),AI k]
  .rw[O.j];simp only[];rw[A (by have:=uC g k;omega),A (λe=>by have:=uA g e;have:=gC g k;omega),A (λe=>by have:=uB g e;have:=gC g k;omega),AI k]
  have B:=M.1.1.2.2;have W:=M.1.1.2.1.y 15;have N:=LE v;have b:=LE E;have h:=LE o;have D:=LE B;have dN:w.heap.size+1+1<wr.heap.size:=v.lt;clear v E o B M s bG;go_upto_region 10 with (at_builtin;refine uF z _ _ 29 z 9 i0 (Ow empty) 1 16 underlying29 HI.j.1 HI.j.2.1 HI.j.2.2.1 HI.j.2.2.2 z wr.heap.size wr.heap.size z (DH _ #[] 0 AA j j) _ z a.ts.length _ (PG (b.j.I (LH _ _)) _ _ underlying29 q.ct) d d j ?_;intro o s G k U v;have E:=(LH wr (.cells #[] 9)).E (v.J j);have B:=(N.j.I E).y 15;have M:=(N.j.I E).A 15;have i:=(N.j.I E).lt;have T:=LE k;clear v k U);clear B M i cH W u;have i:=NZ (BC G (some (w.heap.size+1+1))) 15 (Y (Hw o 0) a.ts.length s)
  have v:=(N.j.I E).set 15 j (Y (Hw o 0) a.ts.length s);have B:=(D.j.I E).V i (λe=>by injection e;omega);have M:=(h.j.I E).V i (hF _ d);have u:wr.heap.size<=o:=pw T.j;have U:=(UA T.j).V i (λe=>by injection e;omega);have k:=(pn y E);replace k:=OE k i;generalize World.setCell _ _ _=W at i v B M U k⊢;clear N D h b T E i y;have N:RY a W ⟨Hw H 0,L,Hw K 0,P,J,Q,p,pc,Hw o 0,s⟩ S:=⟨M.h1,M.h2,M.h3,M.h4,.inr ⟨o,z,U,by rw[O.j];simp only[];rw[AI d,A d]⟩⟩;refine AX ?_;refine BE z 47 _ z (w.heap.size+1+1) 0 z _ _ v.range underlying47 z NH ?_;simp only[PS];refine BV z 47 _ _ z (w.heap.size+1) 0 #[Z a.w,Y (Hw H 0) a.ss.length L,Y (Hw K 0) a.ws.length P,Q1 a.up,Z a.W,Z a.S,Z a.L,Z a.T,Z a.H,Z a.F,Z a.R,Z a.U,Z a.O,Y J a.rs.length Q,Y p a.P.length pc,Y (Hw o 0) a.ts.length s] z z (B.there z) NH κ ?_
  try simp only[PS]
  have i:=QF W (w.heap.size+1) 0 [Z a.w,Y (Hw H 0) a.ss.length L,Y (Hw K 0) a.ws.length P,Q1 a.up,Z a.W,Z a.S,Z a.L,Z a.T,Z a.H,Z a.F,Z a.R,Z a.U,Z a.O,Y J a.rs.length Q,Y p a.P.length pc,Y (Hw o 0) a.ts.length s];have T:=B.sets [Z a.w,Y (Hw H 0) a.ss.length L,Y (Hw K 0) a.ws.length P,Q1 a.up,Z a.W,Z a.S,Z a.L,Z a.T,Z a.H,Z a.F,Z a.R,Z a.U,Z a.O,Y J a.rs.length Q,Y p a.P.length pc,Y (Hw o 0) a.ts.length s] z;have y:=N.V i (hF _ d);have E:Q3 w (W.setCells (w.heap.size+1) 0 [Z a.w,Y (Hw H 0) a.ss.length L,Y (Hw K 0) a.ws.length P,Q1 a.up,Z a.W,Z a.S,Z a.L,Z a.T,Z a.H,Z a.F,Z a.R,Z a.U,Z a.O,Y J a.rs.length Q,Y p a.P.length pc,Y (Hw o 0) a.ts.length s]):=⟨i.os.E (k.os.E C.os),i.tape.E (k.tape.E C.tape),i.output.E (k.output.E C.output),AJ C.size (AJ k.size i.size),λc t=>(i.block c (by have:=k.size;omega) (λe=>by injection e;omega)).E ((k.block c d (λe=>by injection e;omega)).E (C.block c t (λe=>by injection e;omega)))⟩
  generalize World.setCells _ _ _ _=h at T y E⊢;have e:=LE y;clear N M y i v B U k
  try go_wp2
  exact XM 2 47 results77 _ z [Z a.w,Y (Hw H 0) a.ss.length L,Y (Hw K 0) a.ws.length P,Q1 a.up,Z a.W,Z a.S,Z a.L,Z a.T,Z a.H,Z a.F,Z a.R,Z a.U,Z a.O,Y J a.rs.length Q,Y p a.P.length pc,Y (Hw o 0) a.ts.length s] _ T underlying47 z NH z ⟨_,S,z,e.j,λc t=>hF c d,E⟩
section
structure DoS(w v:Q9)(FF:Nat->Prop)(cs ev:List Ra)(x:Wo)(q:Wp)(M:Q9->Prop):Prop where
 e:Q3 w v
 r2:Row v w.heap.size cs
 r3:Row v (w.heap.size+1) ev
 r4:Row v (w.heap.size+1+1) [Z 0,Y none 0 0,Y none 0 0,Q1 false,Z 0,Z 0,Z 0,Z 0,Z 0,Z 0,Z 0,Z 0,Z 0,Y none 0 0,Y none 0 0,Y none 0 0]
 n:¬FF w.heap.size/\¬FF (w.heap.size+1+1)
 f:WoF x v FF q
 m:DepF v FF M
section
variable {w v v':Q9} {FF:Nat->Prop} {cs ev cs':List Ra} {x y:Wo} {q q':Wp} {M N:Q9->Prop}
theorem DoS.I(h:DoS w v FF cs ev x q M)(a:Q3 v v'):DoS w v' FF cs ev x q M:=⟨h.e.E (a.J h.e.size),h.r2.I a,h.r3.I a,h.r4.I a,h.n,h.f.I a,h.m.I a⟩
theorem DoS.put(h:DoS w v FF cs ev x q M)(a:v.grownBy v' (some w.heap.size))(b:Row v' w.heap.size cs'):DoS w v' FF cs' ev x q M :=⟨h.e.E (MU a h.e.size (λx e=>by have e:=BQ e;omega)),b,h.r3.V a (λe=>by injection e with e;omega),h.r4.V a (λe=>by injection e with e;omega),h.n,h.f.V a (λg e=>by cases e;exact h.n.1),h.m.V a (λg e=>by cases e;exact h.n.1)⟩
theorem DoS.set(h:DoS w v FF cs ev x q M)(i:Nat)(a:i<cs.length)(u:Ra):DoS w (v.setCell (Ki w.heap.size i) u) FF (cs.set i u) ev x q M:=h.put (NZ (BC _ _) _ _) (h.r2.set i a u)
theorem DoS.add(h:DoS w v FF cs ev x q M)(k:DepF v FF N):DoS w v FF cs ev x q (λW=>M W/\N W):=⟨h.e,h.r2,h.r3,h.r4,h.n,h.f,h.m.and k⟩
theorem DoS.fin(h:DoS w v FF cs ev x q M)(f:WoF y v FF q')(hF:∀b,FF b->F b\/w.heap.size<=b)(a:List Ra)(d:a.length=16)(c:Q9)(e:c=v.setCells (w.heap.size+1+1) 0 a):Row c (w.heap.size+1+1) a/\Q3 w c/\WoF y c (λb=>F b\/w.heap.size<=b) q':=by
 subst e;have G:=QF v (w.heap.size+1+1) 0 a;exact⟨h.r4.sets a d,h.e.E (MU G h.e.size (λx e=>by have e:=BQ e;omega)),(f.V G (λg e=>by cases e;exact h.n.2)).J (λb _ k=>hF b k)⟩
end
theorem Px{x:Wo}{e:Ev}{D:Dd}(c:¬e.K=5)(f:x.call e=(D,true))(b:D.C=0)(h:¬(2000<(SC x e D).length\/200<(PQ x e D).length))(d:TC e D=false):x.doE e={ (x.ran e D).upS D with P:=if e.K=2 then PQ x e D else [D.rs] }:=by
 by_cases a:e.K=2
 .rw[Av c f b h d a,G a];rfl
 rw[zD c f b h d a,A a]
end
def qB(W:Q9)(a:Nat)(b:List Ra)(D:Dd)(c d:Q5):Prop:=Row W a b/\OwnDn W D.rs D.ops c d
def Cd(v w:Q9)(c:List Q4)(a:List OpT)(N:Nat)(e d:Ra):Prop:=∃(j g b:Nat),j<=N/\d=Z (j:Int)/\e=Y (Hw g 0) (c++OH (a.take j)).length b/\w.ownsRow v.heap.size 9 1 (Y (Hw g 0) (c++OH (a.take j)).length b) (c++OH (a.take j)).length ((c++OH (a.take j)).map Value.string)/\Q3 v w
def Ce(v w:Q9)(c:Nat->Prop)(a:List (List Pr))(d:Ra):Prop:=∃(b:Q5) (pc:Nat),d=Y b a.length pc/\PstF w c b a/\Q3 v w
theorem Qq(m:Wo)(q:Wp)(e:Ev)(a:Q5)(c:Nat)(f:Q5)(s:Nat)(F:Nat->Prop)(w:Q9)(n:WoF m w F q)(ho:m.ok)(h2:Chs w a e.b)(h3:Ints w f e.fs)(he:e.le):Calls prog 78 #[MD m q,OQ e a c f s] w λr w'=>sI w w' F r (m.doE e):=by
 have g:=ho.le
 obtain⟨M,i,aW,R,S,cM⟩:∃M:Nat->Prop,Hid (∀b,b<w.heap.size->F b->M b)/\Hid (∀b,w.heap.size+1+1+1<=b->M b)/\Hid (¬M w.heap.size)/\Hid (¬M (w.heap.size+1+1))/\Hid (∀b,M b->F b\/w.heap.size<=b) :=⟨λb=>(F b/\b<w.heap.size)\/w.heap.size+1+1+1<=b,λb k h2=>.inl ⟨h2,k⟩,λb n=>.inr n,λn=>by rcases n with n|n;exact absurd n.2 d;omega,λn=>by rcases n with n|n;exact absurd n.2 d;omega,λb n=>by rcases n with n|n;exact .inl n.1;exact .inr d⟩
 have B:=LE (n.J i);clear n i;have CP:=LE (λy G w' (H:WoF y w' M G) (hy:y.le 1048576) L=>Lv y G f e.fs s M w' H hy L he.f);have i:=LE (λw' H L=>sF m q e a c f s w' H g L he);have Q:=LE h2;have eY:=LE h3;clear h2 h3;obtain⟨⟨l,p⟩,t⟩:∃y,m.call e=y:=⟨_,z⟩;obtain⟨O,aP⟩:=nHz (m.doE e);rw[<-aP.j];have k:=ho.call e;rw[t]at i k;simp only at i k;have iH:l.ops.length<=1000:=k.2.1;have CF:=LE (λob oe (r:Int) w' H L k3=>Iv q.a m.ss q.c q.a' m.ws q.c' ob l.ops oe r w' H L k3 d (λo ho=>by have:=k.2.2 o ho;omega) g.l1 g.l2 g.s1 g.s2);have HD:=LE k;have cZ:=LE t;have iE:=g.l5;have iI:=ho.p.1;have iJ:=ho.t.1;have HM:=LE g;have HO:=LE ho;clear k t g ho;obtain⟨i0,g,k,o,t⟩:=aq kq;have HI:=LE (AG g (AG k (AG o t)));clear g k o t;obtain⟨i1,g,k,o,t⟩:=aq ub;have U:=LE (AG g (AG k (AG o t)))
 clear g k o t;unfold LR at CF;unfold MD OQ at i⊢;go_enter func78,ntmps78;go_upto_region 1 with fail;generalize g:w.alloc _=v1;obtain⟨h,K,J⟩:=LP g;clear g;generalize g:v1.alloc _=v2;obtain⟨D,v,o⟩:=LP g;clear g;generalize g:v2.alloc _=v3;obtain⟨k,N,t⟩:=LP g;clear g;rw[K]at o v;rw[v]at t N;have E:=h.E ((D.E (k.J D.size)).J h.size);have g:DoS w v3 M (wL m q) [Z e.K,Y a e.b.length c,Z e.cut,Y f e.fs.length s] m q (λ_=>True):=⟨E,((J.I D).I k).q,(o.I k).q,t.q,⟨R,S⟩,B.j.I E,XP (λ_=>trivial)⟩;have l3:w.heap.size+1+1+1<=v3.heap.size:=d
 clear E h D k J o t K v N B R S
 by_cases o:e.K=5
 .have S:O=m.pow e.fs:=by rw[aP.j];unfold Wo.doE;rw[AI o]
  obtain⟨y,v⟩:=nHz (m.pow e.fs);have C:=LE (CP.j m q v3 g.f HM.j (eY.j.I g.e));rw[<-v.j]at C S;subst S;unfold MD at C;clear CP i CF HI U HD;have t:(e.K == 5)=true:=by simp[o]
  have k:=g.r3.y 0;have A:=g.r3.y 3;have E:=g.r3.lt;go_upto_region 2 with fail;refine AX ?_;refine BE z 47 _ z w.heap.size 0 z _ _ g.r2.range underlying47 z NH ?_;simp only[PS];go_wp2_with fail;clear k A E;refine C.j.J ?_;rintro e v4 ⟨G,rfl,D,E⟩;replace D:=D.J (G:=M) (λb _ k=>k.elim id (λk=>aW.j b d));replace g:=g.I E;clear E C;unfold MD
  try simp only[PS]
  refine‹∀(a:Act) (w:Q9),wpList _ _ _ _ a w->_› _ _ ?_
  refine BV z 47 _ _ z (w.heap.size+1+1) 0 (wA O G) z z (g.r4.there z) NH κ ?_
  try simp only[PS]
  obtain⟨h,E⟩:=u (v4.setCells (w.heap.size+1+1) 0 (wL O G));obtain⟨x,I,C⟩:=g.fin (D) cM.j (wL O G) z h E;rw[<-E];clear E g
  try go_wp2
  exact XM 4 47 results78 _ z (wL O G) _ x underlying47 z NH z ⟨G,z,C,I⟩
 have t:(e.K == 5)=false:=by simp[o]
 have dB:=LE o;clear o;obtain⟨k,D,I,A⟩:=g.r3.k4;have E:=g.r3.lt;go_upto_region 3 with fail;refine AX ?_;refine BE z 47 _ z w.heap.size 0 z _ _ g.r2.range underlying47 z NH ?_;simp only[PS];go_wp2_with fail;clear k D I A E t;refine(i.j _ g.f.at (Q.j.I g.e)).J ?_;rintro r4 v4 ⟨v,B,ob,oe,rfl,k,own,t,C,E⟩;have o:DepF v4 M (λW=>OwnDn W l.rs l.ops v ob):=gd (vj own t C) (λb H _=>aW.j b d);have l4:=E.size;replace g:=g.I E;clear own t C E i k Q;unfold MT;go_upto_region 4 with fail;generalize k:v4.alloc _=v5;obtain⟨E,J,i⟩:=LP k;clear k;obtain⟨XB,k⟩:=u v4.heap.size;rw[<-k]at i⊢;have gN:w.heap.size+1+1+1<=XB:=d
 have t:DoS w v5 M (wL m q) [Z e.K,Y a e.b.length c,Z e.cut,Y f e.fs.length s] m q (λW=>True/\qB W XB (dJ l.C l.W l.S l.L l.T l.H l.F l.R l.U l.O (Y v l.rs.length B) (Y ob l.ops.length oe)) l v ob):=(g.I E).add ((WG i.q (aW.j _ gN)).and (o.I E));have l5:XB<v5.heap.size:=t.m.q.2.1.lt;clear g o E i J k;generalize Value.tuple _=T0;generalize Value.agg _=A0;generalize Value.agg _=A1;generalize Value.agg _=A2;go_cut [31] from 25 to 30 (λbv wx=>bv=Q1 (decide (p=false\/l.C≠0))/\wx=v5)
 case first =>
  have k:=t.m.q.2.1.y 0;have E:=t.m.q.2.1.lt
  cases p with
  | false =>
   go_wp2_with fail;go_meet;exact⟨σ,z⟩
  | true =>
   by_cases g:l.C=0
   .have i:(l.C == 0)=true:=by simp[g]
    go_wp2_with fail;go_meet;exact⟨by simp[g],z⟩
   have i:(l.C == 0)=false:=by simp[g]
   go_wp2_with fail;go_meet;exact⟨by simp[g],z⟩
 case rest =>
 obtain⟨rfl,i⟩:=hcut;rw[i];clear i
 by_cases i:p=false\/l.C≠0
 .have S:O=m:=by rw[aP.j];exact fh dB.j cZ.j i
  subst S;rw[AM i];go_upto_region 5 with fail;refine AX ?_;refine BE z 47 _ z w.heap.size 0 z _ _ t.r2.range underlying47 z NH ?_;simp only[PS];refine BV z 47 _ _ z (w.heap.size+1+1) 0 (wA O q) z z (t.r4.there z) NH κ ?_
  try simp only[PS]
  obtain⟨h,E⟩:=u (v5.setCells (w.heap.size+1+1) 0 (wL O q));obtain⟨x,I,C⟩:=t.fin (t.f) cM.j (wL O q) z h E;rw[<-E];clear E t
  try go_wp2
  exact XM 4 47 results78 _ z (wL O q) _ x underlying47 z NH z ⟨q,z,C,I⟩
 rw[AH i]
 obtain⟨rfl,g⟩:p=true/\l.C=0:=by cases p<;>simp_all
 have HC:=LE g;clear i g;obtain⟨N,HN⟩:=nHz (YR e l);obtain⟨CB,bJ⟩:=nHz (TC e l);have iB:N<=l.ops.length:=by rw[HN.j];exact sY e l
 have g:Hid (CB=true->e.cut=(N:Int)):=LE (λk=>by rw[bJ.j]at k;have k:=AW (by unfold TC at k;exact k);rw[HN.j];unfold YR;rw[AI k];omega);have o:Hid (CB=false->N=l.ops.length):=LE (λk=>by rw[bJ.j]at k;have k:=GV (by unfold TC at k;exact k);rw[HN.j];unfold YR;rw[AF k]);have K:=t.m.q.2.1.y 11;have E:=t.m.q.2.1.lt;have J:=t.r3.y 2;have el:=t.r3.lt;go_upto_region 7 with fail;go_cut [8] from 36 to 44 (λi wx=>i=Q1 CB/\wx=v5)
 case first =>
  by_cases H:0<=e.cut
  .by_cases L:e.cut<=(l.ops.length:Int)
   .have i:CB=true:=by rw[bJ.j];unfold TC;exact AM ⟨H,L⟩
    clear g o;go_wp2;go_meet;exact⟨by rw[i],z⟩
   have i:CB=false:=by rw[bJ.j];unfold TC;exact AH (λn=>L n.2)
   clear g o;go_wp2;go_meet;exact⟨by rw[i],z⟩
  have i:CB=false:=by rw[bJ.j];unfold TC;exact AH (λn=>H n.1)
  clear g o;go_wp2;go_meet;exact⟨by rw[i],z⟩
 case rest =>
 obtain⟨rfl,i⟩:=hcut;rw[i];clear i;go_upto_if 45 with fail;go_cut [7] from 46 to 47 (λi wx=>i=Z (N:Int)/\wx=v5)
 case first =>
  cases CB with
  | true =>
   have i:=LE (g.j z);clear g o;go_wp2;go_meet;exact⟨by rw[i.j],z⟩
  | false =>
   have i:=LE (o.j z);clear g o;go_wp2;go_meet;exact⟨by rw[i.j],z⟩
 case rest =>
 obtain⟨rfl,i⟩:=hcut;rw[i];clear i g o K E J el;have iA:(N:Int)<=1000:=d
 have E:=t.r2.y 15;have j:=t.r2.lt;go_wp2_with (at_builtin;refine uF z _ _ 29 z 9 i0 (Ow empty) 1 16 underlying29 HI.j.1 HI.j.2.1 HI.j.2.2.1 HI.j.2.2.2 z v5.heap.size v5.heap.size z (DH _ #[] 0 AA σ σ) _ z m.ts.length _ (PG (t.f.h5.q.I (YU _ _)) _ _ underlying29 q.ct) d d σ ?_;intro g0 dZ ws i J g);have o:Q3 v5 ws:=(YU _ _).E (g.J σ);clear g J E j;go_loopw [9,10] (λE g wr=>Cd v5 wr m.ts l.ops N E g) (λ_ g _=>N-(intOf g).toNat)
 case atStart=>exact⟨0,g0,dZ,AL,z,by simp[OH],by simpa[OH] using i,o⟩
 case round =>
  clear i o;obtain⟨o,g,K,hj,rfl,rfl,i,R⟩:=hrel;have J:=pA (l.ops.take o);rw[AZ]at J;have gR:(m.ts++OH (l.ops.take o)).length<=4000:=by rw[AK];omega
  obtain⟨Q,E⟩:=nHz (m.ts++OH (l.ops.take o));rw[<-E.j]at i gR⊢;clear J;replace t:=t.I R
  by_cases iF:o<N
  .have gS:(o:Int)<(N:Int):=d
   have iC:(0:Int)<=(o:Int):=d
   have iD:(o:Int)<(l.ops.length:Int):=d
   have iO:=t.m.q.2.1.y 11;have iP:=t.m.q.2.1.lt;obtain⟨b1,o1,s0,n1,S,rfl,x,C,A,fW⟩:=t.m.q.2.2.p.ops.at (k:=o) d;have J:=wU l.ops o d;rw[<-fW.j]at J;have X:=LE J;clear J t;have V:=LE i;have J:=LE R;have iM:=uX x;clear i R;have iK:IntKind.i64.wrap ((o:Int)+1)=((o+1:Nat):Int):=by rw[QC _ d d];omega
   cases s0 with
   | true =>
    go_wp2;exact⟨⟨o+1,g,K,d,ν,by rw[X.j];simp[E.j],by rw[X.j];simpa[E.j] using V.j,J.j⟩,by simp[intOf];omega⟩
   | false =>
    go_wp2_with (at_builtin;refine SX _ z _ _ 29 z v5.heap.size underlying29 HI.j z d _ Q.length _ z (V.j.alloc _) (Ki wr.heap.size 0) 1 1 [Ow S] z z (World.news_of_block (AV wr _)) (by intro p T;simp at T;subst T;rfl) (by have:=J.j.size;simp;omega) (wr.heap.size+1) σ ?_;intro g9 aI w9 I D bG bU;have j:=LE I;have h:=LE D;clear I D bG);have D:m.ts++OH (l.ops.take (o+1))=Q++[S]:=by rw[X.j,E.j];simp
    have I:Q3 v5 w9:=UJ ((J.j).alloc J.j.size _) (V.j.alloc _) h.j (by have:=J.j.size;simp;omega);exact⟨⟨o+1,g9,aI,d,ν,by rw[D];simp,by rw[D];simpa using j.j,I⟩,by simp[intOf];omega⟩
  have J:o=N:=d
  have dU:Hid (Q=SC m e l):=LE (by rw[E.j,J,HN.j];rfl);have iG:¬(o:Int)<(N:Int):=d
  clear J;have gT:=pw i;have iL:XB<wr.heap.size:=t.m.q.2.1.lt;have gV:w.heap.size+1+1+1<=g:=d
  replace t:=t.add (WG (UA i) (aW.j _ gV));clear R i E;obtain⟨R,bR⟩:=nHz (PQ m e l);have gU:R.length<=201:=by rw[bR.j];unfold PQ;split<;>(try simp)<;>omega
  have cA:=t.r2.y 14;have j:=t.r2.lt;have e0:=t.r3.y 0;have el:=t.r3.lt;go_upto_if 77 with fail;go_cut [11] from 75 to 85 (λi wx=>Ce wr wx M R i)
  case first =>
   clear cA j
   by_cases L:e.K=2
   .have ep:R=m.P++[l.rs]:=by rw[bR.j];unfold PQ;rw[AI L]
    have eR:(e.K == 2)=true:=by simp[L]
    clear L;obtain⟨news,bW,bV,eO⟩:=Pg (P:=prog) t.f.h4 45 42 underlying45 q.cp;go_upto_region 18 with fail;clear e0 el
    have X:Hid (∀W,Q3 wr W->W.cell? (Ki XB 10)=some (Y v l.rs.length B)):=λW E=>(t.I E).m.q.1.2.1.y 10
    refine AN (S:=λw'=>w'.cell? (Ki XB 10)=some (Y v l.rs.length B)) κ (X.j _ (AB).drew) (λdF=>?_);refine TY 1 (Y q.p m.P.length q.cp) z dF (TY 3 (Dr XB 1) z dF (TY 4 (Dr XB 10) z dF (TY 5 (.agg #[Y v l.rs.length B]) z dF ?_)));simp only[PS];refine EU (rs:=[0,6]) κ σ ?_;refine DA z (λI J=>?_) (DA z (λI J=>?_) EQ)
    .obtain⟨y0,S⟩:=u wr.drew
     rw[<-S];have bT:Q3 wr y0:=by rw[S];exact(AB).drew
     clear S;go_simp;have cO:=YU y0 (.cells #[] 42);have bB:=LZ y0 #[] 42
     have aE:=DH (w:=y0) (e:=42) (size:=1) (base:=wr.heap.size) #[] 0 bT.size (by first|simp|decide|omega) (by first|simp|decide|(unfold maxLen;omega)|omega)
     obtain⟨y1,C⟩:=u (y0.alloc (.cells #[] 42));obtain⟨b0,T⟩:=u y0.heap.size;rw[<-C]at cO bB aE⊢;rw[<-T]at bB aE⊢;have x:=bT.E (cO.J bT.size);clear C;clear T;refine J.j _ _ (X.j _ x) (λgI=>?_)
     try simp only[PS]
     refine EU (rs:=[2,6]) κ σ ?_;refine DA z (λI J=>?_) (DA z (λI J=>?_) EQ)
     .refine pN z _ _ 45 z 42 i1 (.agg #[Y none 0 0]) 1 24 underlying45 U.j.1 U.j.2.1 U.j.2.2.1 U.j.2.2.2 z b0 wr.heap.size z aE _ z m.P.length news (bW _ x) d d x.size ?_
      intro g3 cE y2 bC fS h;have V:=x.E (h.J x.size);refine J.j _ _ (X.j _ V) (λgJ=>?_)
      try simp only[PS]
      refine RD 6 z (λI J=>?_);go_simp;have D:=YU y2 (.cells #[Y v l.rs.length B] 42);have S:=LZ y2 #[Y v l.rs.length B] 42
      have aG:=DH (w:=y2) (e:=42) (size:=1) (base:=wr.heap.size) #[Y v l.rs.length B] 1 V.size (by first|simp|decide|omega) (by first|simp|decide|(unfold maxLen;omega)|omega)
      obtain⟨y3,C⟩:=u (y2.alloc (.cells #[Y v l.rs.length B] 42));obtain⟨b6,T⟩:=u y2.heap.size;rw[<-C]at D S aG⊢;rw[<-T]at S aG⊢;have A:=V.E (D.J V.size);clear C;clear T;have bC:=MK bC D;refine J.j _ _ (X.j _ A) (λgK=>?_)
      try simp only[PS]
      refine RD 7 z (λI J=>?_);refine UG _ z _ _ 45 z wr.heap.size underlying45 U.j z d _ m.P.length _ z bC (Ki b6 0) 1 1 [Y v l.rs.length B] z z (λo p T=>by rw[gx];exact S.cell o p T) (by intro p T;simp at T;subst T;rfl) A.size _ z ?_;intro g9 aI y4 o9 aY bG bU;have C:Q3 wr y4:=UJ A bC aY A.size;refine J.j _ _ (X.j _ C) (λeJ=>?_)
      try simp only[PS]
      refine RD 8 z (λI J=>?_);go_simp;refine J.j _ _ eJ (λ_=>?_)
      try simp only[PS]
      refine DN ?_;clear X;go_wp2_with fail;go_meet;have r9:=UA o9;have fA:=pw o9;refine⟨Hw g9 0,aI,by rw[ep];simp,?_,C⟩;rw[ep];have s9:=C;exact se (G:=M) bV (λi hi=>by obtain⟨p',c',H,L⟩:=eO i hi;exact⟨p',c',H,L.I s9⟩) r9 (aW.j _ d) ((t.m.I s9).map λW k=>k.1.2.2.s.prs)
     go_simp
     have h:=YU y1 (.cells #[Y v l.rs.length B] 42);have S:=LZ y1 #[Y v l.rs.length B] 42
     have aG:=DH (w:=y1) (e:=42) (size:=1) (base:=wr.heap.size) #[Y v l.rs.length B] 1 x.size (by first|simp|decide|omega) (by first|simp|decide|(unfold maxLen;omega)|omega)
     obtain⟨y2,C⟩:=u (y1.alloc (.cells #[Y v l.rs.length B] 42));obtain⟨b6,T⟩:=u y1.heap.size;rw[<-C]at h S aG⊢;rw[<-T]at S aG⊢;have V:=x.E (h.J x.size);clear C;clear T;have aE:=MK aE h;refine J.j _ _ (X.j _ V) (λgL=>?_)
     try simp only[PS]
     refine RD 2 z (λI J=>?_);refine pN z _ _ 45 z 42 i1 (.agg #[Y none 0 0]) 1 24 underlying45 U.j.1 U.j.2.1 U.j.2.2.1 U.j.2.2.2 z b0 wr.heap.size z aE _ z m.P.length news (bW _ V) d d V.size ?_;intro g3 cE y3 bC fS D;have A:=V.E (D.J V.size);have S:=S.I D;refine J.j _ _ (X.j _ A) (λgM=>?_)
     try simp only[PS]
     refine RD 7 z (λI J=>?_);refine UG _ z _ _ 45 z wr.heap.size underlying45 U.j z d _ m.P.length _ z bC (Ki b6 0) 1 1 [Y v l.rs.length B] z z (λo p T=>by rw[gx];exact S.cell o p T) (by intro p T;simp at T;subst T;rfl) A.size _ z ?_;intro g9 aI y4 o9 aY bG bU;have C:Q3 wr y4:=UJ A bC aY A.size;refine J.j _ _ (X.j _ C) (λeK=>?_)
     try simp only[PS]
     refine RD 8 z (λI J=>?_);go_simp;refine J.j _ _ eK (λ_=>?_)
     try simp only[PS]
     refine DN ?_;clear X;go_wp2_with fail;go_meet;have r9:=UA o9;have fA:=pw o9;refine⟨Hw g9 0,aI,by rw[ep];simp,?_,C⟩;rw[ep];have s9:=C;exact se (G:=M) bV (λi hi=>by obtain⟨p',c',H,L⟩:=eO i hi;exact⟨p',c',H,L.I s9⟩) r9 (aW.j _ d) ((t.m.I s9).map λW k=>k.1.2.2.s.prs)
    obtain⟨y0,S⟩:=u wr.drew
    rw[<-S];have bT:Q3 wr y0:=by rw[S];exact(AB).drew
    clear S;go_simp;have cO:=YU y0 (.cells #[Y v l.rs.length B] 42);have S:=LZ y0 #[Y v l.rs.length B] 42
    have aG:=DH (w:=y0) (e:=42) (size:=1) (base:=wr.heap.size) #[Y v l.rs.length B] 1 bT.size (by first|simp|decide|omega) (by first|simp|decide|(unfold maxLen;omega)|omega)
    obtain⟨y1,C⟩:=u (y0.alloc (.cells #[Y v l.rs.length B] 42));obtain⟨b6,T⟩:=u y0.heap.size;rw[<-C]at cO S aG⊢;rw[<-T]at S aG⊢;have x:=bT.E (cO.J bT.size);clear C;clear T;refine J.j _ _ (X.j _ x) (λfH=>?_)
    try simp only[PS]
    refine RD 0 z (λI J=>?_);go_simp;have h:=YU y1 (.cells #[] 42);have bB:=LZ y1 #[] 42
    have aE:=DH (w:=y1) (e:=42) (size:=1) (base:=wr.heap.size) #[] 0 x.size (by first|simp|decide|omega) (by first|simp|decide|(unfold maxLen;omega)|omega)
    obtain⟨y2,C⟩:=u (y1.alloc (.cells #[] 42));obtain⟨b0,T⟩:=u y1.heap.size;rw[<-C]at h bB aE⊢;rw[<-T]at bB aE⊢;have V:=x.E (h.J x.size);clear C;clear T;have S:=S.I h;refine J.j _ _ (X.j _ V) (λfI=>?_)
    try simp only[PS]
    refine RD 2 z (λI J=>?_);refine pN z _ _ 45 z 42 i1 (.agg #[Y none 0 0]) 1 24 underlying45 U.j.1 U.j.2.1 U.j.2.2.1 U.j.2.2.2 z b0 wr.heap.size z aE _ z m.P.length news (bW _ V) d d V.size ?_;intro g3 cE y3 bC fS D;have A:=V.E (D.J V.size);have S:=S.I D;refine J.j _ _ (X.j _ A) (λfJ=>?_)
    try simp only[PS]
    refine RD 7 z (λI J=>?_);refine UG _ z _ _ 45 z wr.heap.size underlying45 U.j z d _ m.P.length _ z bC (Ki b6 0) 1 1 [Y v l.rs.length B] z z (λo p T=>by rw[gx];exact S.cell o p T) (by intro p T;simp at T;subst T;rfl) A.size _ z ?_;intro g9 aI y4 o9 aY bG bU;have C:Q3 wr y4:=UJ A bC aY A.size;refine J.j _ _ (X.j _ C) (λcN=>?_)
    try simp only[PS]
    refine RD 8 z (λI J=>?_);go_simp;refine J.j _ _ cN (λ_=>?_)
    try simp only[PS]
    refine DN ?_;clear X;go_wp2_with fail;go_meet;have r9:=UA o9;have fA:=pw o9;refine⟨Hw g9 0,aI,by rw[ep];simp,?_,C⟩;rw[ep];have s9:=C;exact se (G:=M) bV (λi hi=>by obtain⟨p',c',H,L⟩:=eO i hi;exact⟨p',c',H,L.I s9⟩) r9 (aW.j _ d) ((t.m.I s9).map λW k=>k.1.2.2.s.prs)
   have ep:R=m.P:=by rw[bR.j];unfold PQ;rw[AF L]
   have eR:(e.K == 2)=false:=by simp[L]
   go_wp2_with fail;go_meet;rw[ep];exact⟨q.p,q.cp,z,t.f.h4,AB⟩
  case rest =>
  clear cA j e0 el;obtain⟨pa,pc,rfl,T,E⟩:=hcut
  rename World=>vp
  replace t:=t.I E;clear E;go_upto_region 19 with fail;go_cut [93] from 86 to 92 (λbv wx=>bv=Q1 (decide (2000<Q.length\/200<R.length))/\wx=vp)
  case first =>
   by_cases J:2000<Q.length
   .have i:(2000:Int)<(Q.length:Int):=d
    go_wp2_with fail;go_meet;exact⟨by rw[AM (.inl J)],z⟩
   have i:¬((2000:Int)<(Q.length:Int)):=d
   by_cases S:200<R.length
   .have E:(200:Int)<(R.length:Int):=d
    go_wp2_with fail;go_meet;exact⟨by rw[AM (.inr S)],z⟩
   have E:¬((200:Int)<(R.length:Int)):=d
   go_wp2_with fail;go_meet;exact⟨by rw[AH d],z⟩
  case rest =>
  obtain⟨rfl,i⟩:=hcut;rw[i];clear i
  by_cases i:2000<Q.length\/200<R.length
  .have S:O=m:=by rw[aP.j];exact nI dB.j cZ.j HC.j (by rw[<-dU.j,<-bR.j];exact i)
   subst S;rw[AM i];go_upto_region 20 with fail;refine AX ?_;refine BE z 47 _ z w.heap.size 0 z _ _ t.r2.range underlying47 z NH ?_;simp only[PS];refine BV z 47 _ _ z (w.heap.size+1+1) 0 (wA O q) z z (t.r4.there z) NH κ ?_
   try simp only[PS]
   obtain⟨h,E⟩:=u (vp.setCells (w.heap.size+1+1) 0 (wL O q));obtain⟨x,I,C⟩:=t.fin (t.f) cM.j (wL O q) z h E;rw[<-E];clear E t
   try go_wp2
   exact XM 4 47 results78 _ z (wL O q) _ x underlying47 z NH z ⟨q,z,C,I⟩
  rw[AH i];have dM:Hid (¬(2000<(SC m e l).length\/200<(PQ m e l).length)):=LE (by rw[<-dU.j,<-bR.j];exact i);have fX:=LE (HO.j.ran e (d:=l) HD.j (by have:=dM.j;omega));clear i;obtain⟨i,J⟩:=nHz (OS m.ss m.ws l.ops (N:Int));have eZ:Hid (m.ran e l={ m with ss:=i.1,ws:=i.2,P:=R,ts:=Q }):=LE (by rw[J.j,bR.j,dU.j,HN.j];rfl);have E:=CF.j ob oe (N:Int);rw[<-J.j]at E;have h:=LE E;clear E CF J;have C:=t.r2.y 1;have A:=t.r2.y 2;have cA:=t.r2.y 14;have E:=t.r2.y 15;have I:=t.r2.A 1;have x:=t.r2.A 2;have D:=t.r2.A 14;have J:=t.r2.A 15;have j:=t.r2.lt;have S:=t.m.q.1.2.1.y 11;have xl:=t.m.q.1.2.1.lt;have iN:XB≠w.heap.size:=d
  go_wp2_with fail;clear C I A x cA D E J j;clear S xl;have S:=(t.set 15 σ (Y (Hw g 0) Q.length K)).set 14 σ (Y pa R.length pc);have J:=(T.V (NZ (BC vp (some w.heap.size)) 15 (Y (Hw g 0) Q.length K)) (λg e=>by cases e;exact t.n.1)).V (NZ (BC _ (some w.heap.size)) 14 (Y pa R.length pc)) (λg e=>by cases e;exact t.n.1);generalize E:World.setCell (World.setCell _ _ _) _ _=v6 at S J⊢;clear E t T;refine(h.j _ S.f.h1.q S.f.h2.q S.m.q.1.2.2.p.ops).J ?_;rintro r7 v7 ⟨T,H,V,X,rfl,A,t,C,E⟩;have x:=S.r4.lt
  have D:DepF v7 M (λW=>Strs W T i.1):=(gd (RX (lo:=v6.heap.size) A.s YP t) (λb k _=>aW.j b d)).map λW k=>k.strs
  have I:DepF v7 M (λW=>Wrs W V i.2):=(gd (RX (lo:=v6.heap.size) A.p iy C) (λb k _=>aW.j b d)).map λW k=>k.wrs
  replace S:=(S.I E).add (D.and I);replace J:=J.I E;clear A t C E D I h x;have C:=S.r2.y 1;have A:=S.r2.y 2;have I:=S.r2.A 1;have x:=S.r2.A 2;have j:=S.r2.lt;go_upto_region 24 with fail;clear C I A x j;have t:=(S.set 1 σ (Y T i.1.length H)).set 2 σ (Y V i.2.length X);replace J:=(J.V (NZ (BC v7 (some w.heap.size)) 1 (Y T i.1.length H)) (λg e=>by cases e;exact S.n.1)).V (NZ (BC _ (some w.heap.size)) 2 (Y V i.2.length X)) (λg e=>by cases e;exact S.n.1);generalize E:World.setCell (World.setCell _ _ _) _ _=v8 at t J⊢;clear E S;have j:=t.m
  cases CB with
  | true =>
   have S:O=(m.ran e l).pow e.fs:=by rw[aP.j];exact oV dB.j cZ.j HC.j dM.j bJ.j.symm
   have E:=fX.j.le;rw[eZ.j]at S E;have C:=LE (CP.j { m with ss:=i.1,ws:=i.2,P:=R,ts:=Q } ⟨T,H,V,X,q.s,q.cs,pa,pc,Hw g 0,K⟩ v8 ⟨j.map λW k=>k.2.1,j.map λW k=>k.2.2,t.f.h3,J,j.map λW k=>k.1.2.strs⟩ E (eY.j.I t.e));rw[<-S]at C;unfold MD at C;clear S E j J;have A:=t.r3.y 3;have E:=t.r3.lt;go_upto_region 25 with fail;refine AX ?_;refine BE z 47 _ z w.heap.size 0 z _ _ t.r2.range underlying47 z NH ?_;simp only[PS];go_wp2_with fail;clear A E;refine C.j.J ?_;rintro r9 v9 ⟨G,rfl,D,E⟩;have S:=t.r4.lt;replace D:=D.J (G:=M) (λb _ k=>k.elim id (λk=>aW.j b d));replace t:=t.I E;clear E C;unfold MD
   try simp only[PS]
   refine‹∀(a:Act) (w:Q9),wpList _ _ _ _ a w->_› _ _ ?_
   refine BV z 47 _ _ z (w.heap.size+1+1) 0 (wA O G) z z (t.r4.there z) NH κ ?_
   try simp only[PS]
   obtain⟨h,E⟩:=u (v9.setCells (w.heap.size+1+1) 0 (wL O G));obtain⟨x,I,C⟩:=t.fin (D) cM.j (wL O G) z h E;rw[<-E];clear E t
   try go_wp2
   exact XM 4 47 results78 _ z (wL O G) _ x underlying47 z NH z ⟨G,z,C,I⟩
  | false =>
   obtain⟨A,dP⟩:∃y:List (List Pr),Hid (y=if e.K=2 then R else [l.rs]):=⟨_,LE z⟩;have S:O={ (m.ran e l).upS l with P:=A }:=by rw[aP.j,dP.j,bR.j];exact Px dB.j cZ.j HC.j dM.j bJ.j.symm
   rw[eZ.j]at S;have ER:=LE S;clear S j;go_upto_region 26 with fail;refine AX ?_;refine tj z _ _ _ z (Dr XB 1) (by have xl:=t.m.q.1.1.2.1.lt;go_simp) ?_;simp only[PS];refine BE z 44 _ z XB 1 z (sJ l.W l.S l.L l.T l.H l.F l.R l.U l.O (Y v l.rs.length B)) _ (Row.rangeMid (pre:=[Z l.C]) (cs:=(sJ l.W l.S l.L l.T l.H l.F l.R l.U l.O (Y v l.rs.length B))) (post:=[Y ob l.ops.length oe]) t.m.q.1.1.2.1) underlying44 z lj ?_;simp only[PS];refine tj z _ _ _ z (Dr w.heap.size 4) (by have j:=t.r2.lt;go_simp) ?_;simp only[PS];refine BV z 44 _ _ z w.heap.size 4 (sK l.W l.S l.L l.T l.H l.F l.R l.U l.O (Y v l.rs.length B)) z z (Row.thereMid (pre:=[Z m.w,Y T i.1.length H,Y V i.2.length X,Q1 m.up]) (cs:=(sJ m.W m.S m.L m.T m.H m.F m.R m.U m.O (Y q.s m.rs.length q.cs))) (post:=[Y pa R.length pc,Y (Hw g 0) Q.length K]) t.r2 z) lj κ ?_
   try simp only[PS]
   have b:=t.put (QF v8 w.heap.size 4 (sJ l.W l.S l.L l.T l.H l.F l.R l.U l.O (Y v l.rs.length B))) (Row.setsMid (pre:=[Z m.w,Y T i.1.length H,Y V i.2.length X,Q1 m.up]) (cs:=(sJ m.W m.S m.L m.T m.H m.F m.R m.U m.O (Y q.s m.rs.length q.cs))) (post:=[Y pa R.length pc,Y (Hw g 0) Q.length K]) t.r2 (sJ l.W l.S l.L l.T l.H l.F l.R l.U l.O (Y v l.rs.length B)) z);replace J:=J.V (QF v8 w.heap.size 4 (sJ l.W l.S l.L l.T l.H l.F l.R l.U l.O (Y v l.rs.length B))) (λg e=>by cases e;exact t.n.1);generalize E:v8.setCells _ _ _=v9 at b J⊢;clear E t;have t:=b.r2.y 3;have E:=b.r2.A 3;have j:=b.r2.lt;have e0:=b.r3.y 0;have el:=b.r3.lt;go_upto_if 117 with fail;clear t E j;have t:=b.set 3 σ (Q1 true);replace J:=J.V (NZ (BC v9 (some w.heap.size)) 3 (Q1 true)) (λg e=>by cases e;exact b.n.1)
   generalize E:World.setCell _ _ _=va at t J⊢;clear E b;go_cut [] from 115 to 122 (λwx=>∃(S:Q5) (pd:Nat),DoS w wx M [Z m.w,Y T i.1.length H,Y V i.2.length X,Q1 true,Z l.W,Z l.S,Z l.L,Z l.T,Z l.H,Z l.F,Z l.R,Z l.U,Z l.O,Y v l.rs.length B,Y S A.length pd,Y (Hw g 0) Q.length K] [Z e.K,Y a e.b.length c,Z e.cut,Y f e.fs.length s] m q (λW=>(((True/\qB W XB (dJ l.C l.W l.S l.L l.T l.H l.F l.R l.U l.O (Y v l.rs.length B) (Y ob l.ops.length oe)) l v ob)/\Row W g (Q.map Value.string))/\(Strs W T i.1/\Wrs W V i.2)))/\PstF wx M S A)
   case first =>
    by_cases L:e.K=2
    .have ep:A=R:=by rw[dP.j,AI L]
     have eR:(e.K == 2)=true:=by simp[L]
     clear L;go_wp2_with fail;go_meet;rw[ep];exact⟨pa,pc,t,J⟩
    have ep:A=[l.rs]:=by rw[dP.j,AF L]
    have eR:(e.K == 2)=false:=by simp[L]
    clear L;have cA:=t.r2.y 14;have D:=t.r2.A 14;have j:=t.r2.lt;have b:=t.m.q.1.1.2.1.y 10;have xl:=t.m.q.1.1.2.1.lt;go_wp2_with fail;clear cA D j;clear b xl;go_meet;rw[ep];have x:w.heap.size+1+1+1<=va.heap.size:=by have:=t.r4.lt;omega
    have b:=(t.set 14 σ (Y (Hw va.heap.size 0) 1 1));have I:(va.setCell (Ki w.heap.size 14) (Y (Hw va.heap.size 0) 1 1)).heap.size=va.heap.size:=BI _ _ _;generalize E:va.setCell _ _=D at b I⊢;clear E;have E:=YU D (.cells #[Y v l.rs.length B] 42);have C:=LZ D #[Y v l.rs.length B] 42;rw[I]at C;exact⟨Hw va.heap.size 0,1,b.I E,Jw C (aW.j _ x) ((b.m.I E).map λW k=>k.1.1.2.2.s.prs)⟩
   case rest =>
   clear t J e0 el;obtain⟨S,pd,b,J⟩:=hcut
   rename World=>t
   have D:WoF O t M ⟨T,H,V,X,v,B,S,pd,Hw g 0,K⟩:=by rw[ER.j];exact⟨b.m.map λW k=>k.2.1,b.m.map λW k=>k.2.2,b.m.map λW k=>k.1.1.2.2.s.prs,J,b.m.map λW k=>k.1.2.strs⟩
   go_upto_region 30 with fail;refine AX ?_;refine BE z 47 _ z w.heap.size 0 z _ _ b.r2.range underlying47 z NH ?_;simp only[PS];refine BV z 47 _ _ z (w.heap.size+1+1) 0 #[Z m.w,Y T i.1.length H,Y V i.2.length X,Q1 true,Z l.W,Z l.S,Z l.L,Z l.T,Z l.H,Z l.F,Z l.R,Z l.U,Z l.O,Y v l.rs.length B,Y S A.length pd,Y (Hw g 0) Q.length K] z z (b.r4.there z) NH κ ?_
   try simp only[PS]
   obtain⟨h,E⟩:=u (t.setCells (w.heap.size+1+1) 0 [Z m.w,Y T i.1.length H,Y V i.2.length X,Q1 true,Z l.W,Z l.S,Z l.L,Z l.T,Z l.H,Z l.F,Z l.R,Z l.U,Z l.O,Y v l.rs.length B,Y S A.length pd,Y (Hw g 0) Q.length K]);obtain⟨x,I,C⟩:=b.fin (D) cM.j [Z m.w,Y T i.1.length H,Y V i.2.length X,Q1 true,Z l.W,Z l.S,Z l.L,Z l.T,Z l.H,Z l.F,Z l.R,Z l.U,Z l.O,Y v l.rs.length B,Y S A.length pd,Y (Hw g 0) Q.length K] z h E;rw[<-E];clear E b
   try go_wp2
   refine XM 4 47 results78 _ z [Z m.w,Y T i.1.length H,Y V i.2.length X,Q1 true,Z l.W,Z l.S,Z l.L,Z l.T,Z l.H,Z l.F,Z l.R,Z l.U,Z l.O,Y v l.rs.length B,Y S A.length pd,Y (Hw g 0) Q.length K] _ x underlying47 z NH z ⟨⟨T,H,V,X,v,B,S,pd,Hw g 0,K⟩,?_,C,I⟩;rw[ER.j];rfl
