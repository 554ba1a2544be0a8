import Derived.Test.YtkdedmclofhndaaGreatDoorPrAm
import Derived.Shelf.Strings.Builder1
import Derived.Test.YtkdedmclofhndaaGreatDoorProg
import Derived.Deep.RegionHeld
import Derived.WalkKit
import Derived.Conc.MuLone
import Derived.KernelRfl
import Derived.Lib.SplitLaws
import Derived.Below
set_option maxHeartbeats 16000000
set_option maxRecDepth 8000
set_option linter.all false
namespace Go.Proofs.YtkdedmclofhndaaGreatDoor
section
open Tryz
open Go.Shelf
def kw:Go.Shelf.Ren:=⟨fun|166=>14|240=>49|276=>79|169=>17|n=>n,fun|0=>0|3=>3|4=>4|5=>5|9=>9|20=>20|37=>24|70=>53|72=>55|75=>57|80=>62|164=>116|127=>87|n=>n,fun|n=>n⟩
theorem uS:Go.Proofs.Lays.n240 prog kw:={
 mixed:=κ
 f240:=func49.E (BC some κ)
 f276:=func79.E (BC some κ)
 t0:=underlying0
 a0:=isAgg0
 z0:=sizeOf0
 v0:=zeroValue0
 t4:=underlying4
 a4:=isAgg4
 z4:=sizeOf4
 v4:=zeroValue4
 t9:=underlying9
 a9:=isAgg9
 z9:=sizeOf9
 v9:=zeroValue9
 t20:=underlying20
 a20:=isAgg20
 z20:=sizeOf20
 v20:=zeroValue20
 t70:=underlying53
 a70:=isAgg53
 z70:=sizeOf53
 v70:=zeroValue53
 t72:=underlying55
 a72:=isAgg55
 z72:=sizeOf55
 v72:=zeroValue55
 t164:=underlying116
 a164:=isAgg116
 z164:=sizeOf116
 v164:=zeroValue116 }
theorem tT:Go.Proofs.Lays.n166 prog kw:={
 mixed:=κ
 f166:=func14.E (BC some κ)
 f240:=func49.E (BC some κ)
 f276:=func79.E (BC some κ)
 t0:=underlying0
 a0:=isAgg0
 z0:=sizeOf0
 v0:=zeroValue0
 t3:=underlying3
 a3:=isAgg3
 z3:=sizeOf3
 v3:=zeroValue3
 t4:=underlying4
 a4:=isAgg4
 z4:=sizeOf4
 v4:=zeroValue4
 t9:=underlying9
 a9:=isAgg9
 z9:=sizeOf9
 v9:=zeroValue9
 t20:=underlying20
 a20:=isAgg20
 z20:=sizeOf20
 v20:=zeroValue20
 t37:=underlying24
 a37:=isAgg24
 z37:=sizeOf24
 v37:=zeroValue24
 t70:=underlying53
 a70:=isAgg53
 z70:=sizeOf53
 v70:=zeroValue53
 t72:=underlying55
 a72:=isAgg55
 z72:=sizeOf55
 v72:=zeroValue55
 t75:=underlying57
 a75:=isAgg57
 z75:=sizeOf57
 v75:=zeroValue57
 t164:=underlying116
 a164:=isAgg116
 z164:=sizeOf116
 v164:=zeroValue116 }
theorem xB:Go.Proofs.Lays.n169 prog kw:={
 mixed:=κ
 f169:=func17.E (BC some κ)
 t0:=underlying0
 a0:=isAgg0
 z0:=sizeOf0
 v0:=zeroValue0
 t3:=underlying3
 a3:=isAgg3
 z3:=sizeOf3
 v3:=zeroValue3
 t9:=underlying9
 a9:=isAgg9
 z9:=sizeOf9
 v9:=zeroValue9
 t37:=underlying24
 a37:=isAgg24
 z37:=sizeOf24
 v37:=zeroValue24
 t70:=underlying53
 a70:=isAgg53
 z70:=sizeOf53
 v70:=zeroValue53
 t72:=underlying55
 a72:=isAgg55
 z72:=sizeOf55
 v72:=zeroValue55
 t127:=underlying87
 a127:=isAgg87
 z127:=sizeOf87
 v127:=zeroValue87 }
theorem dr:Builder.Extra prog kw:={
 sizeBuilder:=κ
 liesBuilder:=κ
 t5:=underlying5
 a5:=isAgg5
 z5:=sizeOf5
 v5:=zeroValue5
 infoByte:=κ
 cellsByte:=κ
 sizeByte:=κ
 neB5:=by decide }
open Go.RowKit in
theorem nP(B b:Nat)(bs:List qD)(s:yZ)(w:xV)(h:Lib.IsBuilder 55 5 B b bs w)(c:bs.length+s.size<=140737488355328)(d:B<=w.heap.size):Calls prog 14 #[zW b 0,yQ s] w λe a=>e=yT (.tuple #[Z s.size,.nilIface])/\(Lib.BuilderAt 55 5 B b (zW b 0) (bs++Lib.strCells s) a/\Below B w a):=Any.Builder_WriteString tT dr B b bs s w h c d
open Go.RowKit in
theorem E5(B b:Nat)(l:List UInt8)(w:xV)(h:Lib.IsBuilder 55 5 B b (Lib.byteCells l) w)(a:B<=w.heap.size):Calls prog 17 #[zW b 0] w λe c=>e=yT (yQ ⟨l.toArray⟩)/\Below B w c:=Any.Builder_String_any xB dr B b l w h a
end
section
open Tryz
open Go
variable {a:Act}{aA:Array Bool}{aB i:Nat}{w:xV}
section
variable {P:Program} {ops:Array Oper} {Q:Exit->Act->xV->Prop} {md:Region.Mode} {S:xV->Prop} {z:Nat}
def RV(P:Program)(md:Region.Mode)(ops:Array Oper)(Q:Exit->Act->xV->Prop)(S:xV->Prop)(z:Nat):Nat->Array Bool->Act->xV->Prop
 | 0,listed,a,w=>Region.ready md ops listed=[]/\Q .normal a w
 | fuel+1,listed,a,w =>
  (Region.ready md ops listed=[]->Q .normal a w) /\
  ∀i∈Region.ready md ops listed,wpOp P ops Q i (λa' w'=>(i≠z->S w')/\RV P md ops Q S z fuel (listed.setIfInBounds i true) a' w') a w
theorem xY:∀(aB:Nat) (aA:Array Bool) (a:Act) (w:xV),RV P md ops Q S z aB aA a w->wpAny P md ops Q aB aA a w
 | 0,_,_,_,h=>h
 | aB+1,_,_,_,h=>⟨h.1,λi hi=>wpOp_mono (λa' w' h'=>xY aB _ a' w' h'.2) (h.2 i hi)⟩
theorem Ll{l:Oper}{v:qD}(r:ops[i]?=some l)(B:∀(j:Nat) (o:Oper) k b,ops[j]?=some o->o.op≠.select k b)
  (J:∀c a w,Q (.panic c) (a.put l.dst v) w->Q (.panic c) a w)(N:i≠z)(L:∀d,ops[z]?=some d->∃e∈d.after,Region.binds md e=true/\e.on=i):∀(aB:Nat) (aA:Array Bool) (a:Act) (w:xV),
   (∀j d,ops[j]?=some d->j≠i->aA.getD j true=false->(∀e∈d.after,Region.binds md e=true->e.on≠i)->l.apart ops d=true) ->
   i∈Region.ready md ops aA->YieldsIf P ops S l v a->S w ->
   RV P md ops Q S z aB (aA.setIfInBounds i true) (a.put l.dst v) w->RV P md ops Q S z (aB+1) aA a w:=by
 intro aB
 induction aB with
 | zero =>
  intro aA a w _ g q m H;refine⟨λh=>(by rw[h]at g;cases g),λj p=>?_⟩
  by_cases c:j=i
  ·subst c;exact q.wpOp r m ⟨λ_=>m,H⟩
  have:=ready_mono p c
  rw[H.1]at this
  cases this
 | succ aB M =>
  intro aA a w u g q m H;refine⟨λh=>(by rw[h]at g;cases g),λj p=>?_⟩
  by_cases c:j=i
  ·subst c;exact q.wpOp r m ⟨λ_=>m,H⟩
  have f:=H.2 j (ready_mono p c)
  obtain⟨y,d,n,D⟩:=mem_ready.1 p
  have A:∀e∈d.after,Region.binds md e=true->e.on≠i:=λe s p h=>by
   have f:=D e s p;have s:=(mem_ready.1 g).1;rw[h]at f;rcases FX i aA.size with h|h
   ·simp[h]at s f;rw[s]at f;cases f
   simp[EG h]at f
  have E:j≠z:=λe=>by
   subst e;obtain⟨x,s,p,h⟩:=L d n;exact A x s p h
  have I:=wpOp_putIf n (u j d n c y A) (λk b=>B i l k b r) (λk b=>B j d k b n) J q (wpOp_mono (λt s h=>(⟨h.1 E,h.2⟩:S s/\_)) f)
  have C:∀k b,ops[k]?=some b->k≠i->(aA.setIfInBounds j true).getD k true=false ->
    (∀e∈b.after,Region.binds md e=true->e.on≠i)->l.apart ops b=true:=λk b K F x G=>by
   refine u k b K F ?_ G
   by_cases b:j=k
   ·subst b;exact y
   rw[getD_set_ne true b]at x;exact x
  refine wpOp_mono (λt s b=>⟨λ_=>b.2.1,M (aA.setIfInBounds j true) t s C (ready_mono g (JC c)) b.1 b.2.1 ?_⟩) I;rw[Array.setIfInBounds_comm _ _ c];exact b.2.2
def ke(md:Region.Mode)(ops:Array Oper)(z i:Nat):Bool:=i != z && (match ops[z]? with|some o=>o.after.any λe=>Region.binds md e && e.on == i|none=>true)
theorem oY{d:Oper}{v:qD}(g:ops[i]?=some d)
  (o:Region.noSelect ops=true)(m:Region.free md ops aA i=true)(n:(Region.ready md ops aA).contains i=true)(b:ke md ops z i=true)
  (j:∀c a w,Q (.panic c) (a.put d.dst v) w->Q (.panic c) a w)(p:YieldsIf P ops S d v a)(k:S w)
  (h:RV P md ops Q S z aB (aA.setIfInBounds i true) (a.put d.dst v) w):RV P md ops Q S z (aB+1) aA a w:=by
 unfold ke at b;rw[BD]at b;refine Ll g (Region.noSelect_spec o) j (by simpa using b.1) (λe c=>?_) aB aA a w (Region.free_spec g m) (by simpa using n) p k h;have f:=b.2;rw[c]at f;obtain⟨e,l,c⟩:=Array.any_eq_true'.1 f;rw[BD]at c;exact⟨e,l,c.1,by simpa using c.2⟩
def AllReadyT(P:Program)(md:Region.Mode)(ops:Array Oper)(Q:Exit->Act->xV->Prop)(S:xV->Prop)(z:Nat)(aB:Nat)(aA:Array Bool)(a:Act)(w:xV)(d:List Nat):Prop :=∀i∈d,wpOp P ops Q i (λc b=>(i≠z->S b)/\RV P md ops Q S z aB (aA.setIfInBounds i true) c b) a w
theorem AllReadyT.nil:AllReadyT P md ops Q S z aB aA a w []:=λ_ h=>by cases h
theorem AllReadyT.cons{o:Oper}{e:List Nat}(k:ops[i]?=some o)
  (h:∀b:Act->xV->Prop,Shut (∀a w,S w->(S w->RV P md ops Q S z aB (aA.setIfInBounds i true) a w)->b a w)->if Region.wanted o (yielded ops a.tmps)=true then Oper.wp P o a w b Q else b (a.put o.dst undef) w)
  (l:AllReadyT P md ops Q S z aB aA a w e):AllReadyT P md ops Q S z aB aA a w (i::e):=λj c=>by
 rcases DX.1 c with rfl|c
 ·exact wpOp_step k (λb f=>h b (λa w d g=>f a w ⟨λ_=>d,g d⟩))
 exact l j c
theorem AllReadyT.last{o:Oper}(e:ops[z]?=some o)
  (h:∀b:Act->xV->Prop,Shut (∀a w,True->(True->RV P md ops Q S z aB (aA.setIfInBounds z true) a w)->b a w)->if Region.wanted o (yielded ops a.tmps)=true then Oper.wp P o a w b Q else b (a.put o.dst undef) w):AllReadyT P md ops Q S z aB aA a w [z]:=λj c=>by
 rw[DK]at c;subst c;exact wpOp_step e (λb c=>h b (λa w _ d=>c a w ⟨λk=>absurd rfl k,d trivial⟩))
theorem PM{rs:List Nat}(b:Region.ready md ops aA=rs)(c:rs≠[])
  (h:AllReadyT P md ops Q S z aB aA a w rs):RV P md ops Q S z (aB+1) aA a w:=⟨λd=>absurd (b ▸ d) c,b ▸ h⟩
theorem SP(hr:Region.ready md ops aA=[])(h:Q .normal a w):∀aB,RV P md ops Q S z aB aA a w
 | 0=>⟨hr,h⟩
 | _+1=>⟨λ_=>h,by rw[hr];simp⟩
theorem TU{d:Nat}(z:Nat)(c:P.follows .mixedOrders=true)(b:S w.drew)
  (h:S w.drew->RV P .any ops Q S z ops.size (Array.replicate ops.size false) a w.drew):(Code.region d ops true).wp P Q a w :=wp_region_any c (xY _ _ _ _ (h b))
end
end
section
open Tryz
open Go Go.RowKit
variable {a:Act}{aA:Array Bool}{ops:Array Oper}{Q:Exit->Act->xV->Prop}{aB:Nat}{P:Program}{md:Region.Mode}{w:xV}{S:xV->Prop}
theorem LU{z:Nat}(i:Nat){b:Oper}(v:qD)(g:ops[i]?=some b)(l:YieldsIf P ops S b v a)(e:S w)
  (h:RV P md ops Q S z aB (aA.setIfInBounds i true) (a.put b.dst v) w)(k:Region.noSelect ops=true:=by kernel_rfl)(f:Region.free md ops aA i=true:=by kernel_rfl)(j:(Region.ready md ops aA).contains i=true:=by kernel_rfl)(m:ke md ops z i=true:=by kernel_rfl)
  (d:∀c a w,Q (.panic c) (a.put b.dst v) w->Q (.panic c) a w:=by exactλ_ _ _ h=>h):RV P md ops Q S z (aB+1) aA a w:=oY g k f j m d l e h
theorem NL{z:Nat}(i:Nat){b:Oper}(v:qD)(g:ops[i]?=some b)(e:S w)
  (h:RV P md ops Q S z aB (aA.setIfInBounds i true) (a.put b.dst v) w)(l:YieldsIf P ops S b v a:=by exact AS ⟨ρ,λw hw=>by(repeat (obtain⟨_,hw⟩:=hw));go_simp⟩)(k:Region.noSelect ops=true:=by kernel_rfl)(f:Region.free md ops aA i=true:=by kernel_rfl)(j:(Region.ready md ops aA).contains i=true:=by kernel_rfl)(m:ke md ops z i=true:=by kernel_rfl)
  (d:∀c a w,Q (.panic c) (a.put b.dst v) w->Q (.panic c) a w:=by exactλ_ _ _ h=>h):RV P md ops Q S z (aB+1) aA a w:=oY g k f j m d l e h
theorem NK{z:Nat}(i:Nat){o:Oper}(c:ops[i]?=some o)
  (h:∀b:Act->xV->Prop,Shut (∀a w,S w->(S w->RV P md ops Q S z aB (aA.setIfInBounds i true) a w)->b a w)->if Region.wanted o (yielded ops a.tmps)=true then Oper.wp P o a w b Q else b (a.put o.dst undef) w)
  (b:Region.ready md ops aA=[i]:=by kernel_rfl):RV P md ops Q S z (aB+1) aA a w:=PM b σ (AllReadyT.cons c h AllReadyT.nil)
end
section
open Tryz
abbrev Ok:Go.Conc.Locks.MuLink:={ lock:=158,unlock:=159,ilock:=214,iunlock:=215,lockSlow:=263,unlockSlow:=266,disable:=259,enable:=261,acquire:=262,relMerge:=264,cas32:=260,add32:=265,tMutex:=159,tIMutex:=157,tPMutex:=239,tPIMutex:=294,tPI32:=296,tUP:=116,tNoCopy:=154,tU32:=155 }
theorem vX:Go.Conc.Locks.MuLib prog Ok :=⟨func158,func159,func214,func215,func259,func261,func262,func264,func260,func265,underlying157,runUnderlying157,sizeOf157,isAgg157,zeroValue157,underlying159,runUnderlying159,sizeOf159,isAgg159,zeroValue159,underlying239,runUnderlying239,sizeOf239,isAgg239,zeroValue239,underlying294,runUnderlying294,sizeOf294,isAgg294,zeroValue294,underlying296,runUnderlying296,sizeOf296,isAgg296,zeroValue296,underlying116,runUnderlying116,sizeOf116,isAgg116,zeroValue116,underlying154,runUnderlying154,sizeOf154,isAgg154,zeroValue154,underlying21,runUnderlying21,sizeOf21,isAgg21,zeroValue21,κ⟩
end
section
open Tryz
open Go.RowKit
variable {s:yZ}{Q:List yZ}{f i:Nat}
def QU(b:UInt8):List UInt8->List (List UInt8)
 | []=>[[]]
 | x::l=>if x=b then []::QU b l else (x::(QU b l).headD [])::(QU b l).tail
theorem my(b:UInt8)(l:List UInt8):QU b l≠[]:=by
 cases l with
 | nil=>simp[QU]
 | cons x l=>unfold QU;split<;>simp
theorem nu{b:UInt8}:∀ {p:List UInt8},b ∉ p->QU b p=[p]
 | [],_=>rfl
 | x::l,h=>by
  rw[DX,not_or]at h;unfold QU;rw[AF (λe=>h.1 e.symm),nu h.2];rfl
theorem nf{b:UInt8}:∀ {p:List UInt8} (q:List UInt8),b ∉ p->QU b (p++b::q)=p::QU b q
 | [],q,_=>by simp[QU]
 | x::l,q,h=>by
  rw[DX,not_or]at h;rw[EV,QU,AF (λe=>h.1 e.symm),nf q h.2];rfl
theorem Mh(b:UInt8)(l:List UInt8):(QU b l).length<=l.length+1:=by
 induction l with
 | nil=>simp[QU]
 | cons x l a =>
  unfold QU;have:=my b l
  split
  ·simp;omega
  simp only[BJ,List.length_tail];omega
theorem Cu{b:UInt8}{l p:List UInt8}(h:p∈QU b l):p.length<=l.length:=by
 induction l generalizing p with
 | nil=>simp[QU]at h;subst h;simp
 | cons x l c =>
  unfold QU at h
  split at h
  ·rcases DX.1 h with rfl|h
   ·simp
   have:=c h;simp;omega
  obtain⟨a,t,e⟩:=List.exists_cons_of_ne_nil (my b l)
  rw[e]at h;rcases DX.1 h with rfl|h
  ·have:=c (p:=a) (by rw[e];simp);simpa using this
  have:=c (p:=p) (by rw[e];exact DJ _ h);simp;omega
def MB(b:UInt8)(s:yZ):List yZ:=(QU b s.data.toList).map λl=>⟨l.toArray⟩
theorem TE{t:yZ}(h:s.data.toList=t.data.toList):s=t:=by
 cases s;cases t;congr;exact Array.toList_inj.1 h
def YE(s:yZ)(b:UInt8)(i f:Nat)(Q:List yZ):Prop:=f<=i/\i<=s.size/\MB b s=Q++(QU b (s.data.toList.drop f)).map (λl=>(⟨l.toArray⟩:yZ))/\b ∉ (s.data.toList.drop f).take (i-f)
theorem As(s:yZ)(b:UInt8):YE s b 0 0 []:=⟨AA _,AL _,by simp[MB],σ⟩
theorem Ds{b:UInt8}(h:YE s b i f Q)(d:i<s.size)(j:s[i]≠b):YE s b (i+1) f Q:=by
 obtain⟨k,l,a,c⟩:=h;refine⟨ω,ω,a,?_⟩;have e:i<s.data.toList.length:=d;rw[show i+1-f=(i-f)+1 by omega,List.take_add_one,BZ,not_or];refine⟨c,?_⟩;rw[FC,show f+(i-f)=i by omega,AO e];intro g;exact j (DK.1 g).symm
theorem Gs{l:List UInt8}(b:f<=i)(a:i<l.length):l.drop f=(l.drop f).take (i-f)++l[i]::l.drop (i+1):=by
 conv=>lhs;rw[<-FJ (i-f) (l.drop f)]
 rw[GN,show f+(i-f)=i by omega,FR a]
theorem oI(s:yZ)(f i:Nat)(h:i<=s.size):s.extract f i=⟨((s.data.toList.drop f).take (i-f)).toArray⟩:=by
 apply TE
 rw[Lib.extract_data]
theorem I2{b:UInt8}(h:YE s b i f Q)(g:i<s.size)(a:s[i]=b):YE s b (i+1) (i+1) (Q++[s.extract f i]):=by
 obtain⟨c,k,d,e⟩:=h;have j:i<s.data.toList.length:=g;have a:s.data.toList[i]=b:=a;refine⟨AA _,ω,?_,σ⟩;rw[d,Gs c j,a,nf _ e,oI s f i ω,FU,BV];rfl
theorem Fg{b:UInt8}(h:YE s b s.size f Q):MB b s=Q++[s.extract f s.size]:=by
 obtain⟨d,e,c,a⟩:=h;have g:s.data.toList.length=s.size:=rfl;rw[AR (by rw[BQ];omega)]at a;rw[c,nu a,oI s f s.size (AA _),AR (by rw[BQ];omega)];rfl
theorem ib(b:UInt8)(s:yZ):(MB b s).length<=s.size+1:=by
 unfold MB;rw[BO];exact Mh b s.data.toList
theorem Dw{b:UInt8}(h:YE s b i f Q):Q.length<=s.size+1:=by
 have:=ib b s;rw[h.2.2.1,AK]at this;omega
theorem kg(b:UInt8)(s:yZ):0<(MB b s).length:=by
 unfold MB;rw[BO];exact List.length_pos_iff.2 (my _ _)
theorem jv{b:UInt8}{t:yZ}(h:t∈MB b s):t.size<=s.size:=by
 obtain⟨l,a,rfl⟩:=DT.1 h;exact Cu a
def QK(c:UInt8):Bool:=decide (33<=c.toNat/\c.toNat<=126/\c.toNat≠37)
def MO(c:UInt8):Int:=if 48<=c.toNat/\c.toNat<=57 then (c.toNat:Int)-48 else if 97<=c.toNat/\c.toNat<=102 then (c.toNat:Int)-87 else -1
def gi(a b:UInt8):Option UInt8:=if 0<=MO a/\0<=MO b then some (UInt8.ofNat (16*(MO a).toNat+(MO b).toNat)) else none
def TH:Nat->List UInt8->Option (List UInt8)
 | _,[]=>some []
 | 0,_=>none
 | k+1,c::r =>
  if QK c=true then (TH k r).map (c::·)
  else if c.toNat=37/\2<=r.length then (gi (r.getD 0 0) (r.getD 1 0)).bind λx=>(TH k (r.drop 2)).map (x::·)
  else none
theorem ye:∀(k j:Nat) (l:List UInt8),l.length<=k->l.length<=j->TH k l=TH j l
 | k,j,[],_,_=>by cases k<;>cases j<;>rfl
 | 0,_,_::_,h,_=>by simp at h
 | _+1,0,_::_,_,h=>by simp at h
 | k+1,j+1,c::r,h1,h2=>by
  simp only[BJ]at h1 h2;rw[TH,TH,ye k j r ω ω,ye k j (r.drop 2) (by rw[BQ];omega) (by rw[BQ];omega)]
def PU(l:List UInt8):Option (List UInt8):=TH l.length l
theorem Gg{c:UInt8}{r:List UInt8}(h:QK c=true):PU (c::r)=(PU r).map (c::·):=by rw[PU,BJ,TH,AI h];rfl
theorem Jh{c:UInt8}{r:List UInt8}(h:QK c=false)(a:c.toNat≠37):PU (c::r)=none:=by rw[PU,BJ,TH,AF (by simp[h]),AF (λe=>a e.1)]
theorem wE{c:UInt8}(h:c.toNat=37):QK c=false:=by simp[QK,h]
theorem xS{c a b:UInt8}{q:List UInt8}(h:c.toNat=37):PU (c::a::b::q)=(gi a b).bind λx=>(PU q).map (x::·):=by
 rw[PU,BJ,TH,AF (by simp[wE h]),AI ⟨h,σ⟩];show((gi a b).bind λx=>(TH (a::b::q).length q).map (x::·))=_;rw[ye (a::b::q).length q.length q τ (AA _)];rfl
theorem In{c:UInt8}{r:List UInt8}(h:c.toNat=37)(a:r.length<2):PU (c::r)=none:=by
 rw[PU,BJ,TH,AF (by simp[wE h]),AF (λe=>ω)]
def MU(s:yZ):Option yZ:=if s.data.toList=[45] then some ByteArray.empty else (PU s.data.toList).map λl=>⟨l.toArray⟩
def US(s:yZ)(i:Nat)(D:List UInt8):Prop:=i<=s.size/\D.length<=i/\PU s.data.toList=(PU (s.data.toList.drop i)).map (D++·)
theorem wR(s:yZ):US s 0 []:=⟨AL _,AA _,by cases h:PU s.data.toList<;>simp[h]⟩
theorem uQ{o:Option (List UInt8)}{D:List UInt8}{x:UInt8}:(o.map (x::·)).map (D++·)=o.map ((D++[x])++·):=by cases o<;>simp
theorem XQ(a:i<s.size):s.data.toList.drop i=s[i]::s.data.toList.drop (i+1):=FR (show i<s.data.toList.length from a)
theorem wX{D:List UInt8}(h:US s i D)(b:i<s.size)(c:QK s[i]=true):US s (i+1) (D++[s[i]]):=by
 obtain⟨d,e,a⟩:=h;exact⟨ω,τ,by rw[a,XQ b,Gg c,uQ]⟩
theorem uy{D:List UInt8}(h:US s i D)(b:i<s.size)(c:QK s[i]=false)(a:s[i].toNat≠37):PU s.data.toList=none:=by
 rw[h.2.2,XQ b,Jh c a];rfl
theorem qC{D:List UInt8}(h:US s i D)(b:i<s.size)(a:s[i].toNat=37)(c:s.size<=i+2):PU s.data.toList=none:=by
 rw[h.2.2,XQ b,In a (by rw[BQ];have:s.data.toList.length=s.size:=rfl;omega)];rfl
theorem sW{D:List UInt8}(h:US s i D)(e:i+2<s.size)(a:s[i].toNat=37)(c:0<=MO s[i+1])(d:0<=MO s[i+2]):US s (i+3) (D++[UInt8.ofNat (16*(MO s[i+1]).toNat+(MO s[i+2]).toNat)]):=by
 obtain⟨g,j,b⟩:=h;refine⟨ω,τ,?_⟩;rw[b,XQ (show i<s.size by omega),XQ (show i+1<s.size by omega),XQ e,xS a,gi,AI ⟨c,d⟩];exact uQ
theorem uc{D:List UInt8}(h:US s i D)(b:i+2<s.size)(a:s[i].toNat=37)(c:¬(0<=MO s[i+1]/\0<=MO s[i+2])):PU s.data.toList=none:=by
 rw[h.2.2,XQ (show i<s.size by omega),XQ (show i+1<s.size by omega),XQ b,xS a,gi,AF c];rfl
theorem wO{D:List UInt8}(h:US s s.size D):PU s.data.toList=some D:=by
 rw[h.2.2,DY (show s.data.toList.length<=s.size from AA _)];simp[PU,TH]
theorem mp(c:UInt8):-1<=MO c/\MO c<=15:=by
 unfold MO
 split
 ·omega
 split<;>omega
def TQ(n:Nat):UInt8:=if n<10 then UInt8.ofNat (48+n) else UInt8.ofNat (87+n)
def SA(l:List UInt8):List UInt8:=l.flatMap λc=>if QK c=true then [c] else [37,TQ (c.toNat / 16),TQ (c.toNat % 16)]
theorem qN(l:List UInt8)(c:UInt8):SA (l++[c])=SA l++(if QK c=true then [c] else [37,TQ (c.toNat / 16),TQ (c.toNat % 16)]):=by simp[SA]
theorem lU(l:List UInt8):(SA l).length<=3*l.length:=by
 induction l with
 | nil=>simp[SA]
 | cons c l a =>
  unfold SA at a⊢;rw[GZ,AK];have:(if QK c=true then [c] else [37,TQ (c.toNat / 16),TQ (c.toNat % 16)]).length<=3:=by split<;>simp
  simp only[BJ];omega
def SR(s:yZ):yZ:=if s.size=0 then ⟨#[45]⟩ else if s.data.toList=[45] then ⟨#[37,50,100]⟩ else ⟨(SA s.data.toList).toArray⟩
