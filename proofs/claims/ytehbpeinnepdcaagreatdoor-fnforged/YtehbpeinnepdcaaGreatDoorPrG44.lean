import Derived.Test.YtehbpeinnepdcaaGreatDoorPrG40
import Derived.Deep.Onto
import Derived.Test.YtehbpeinnepdcaaGreatDoorPrG39
import Derived.Deep.AppendSrc
import Derived.Laws.IdiomCopy
set_option maxHeartbeats 16000000
set_option maxRecDepth 8000
set_option linter.unusedVariables false
set_option linter.unusedSimpArgs false
namespace Go.Proofs.YtehbpeinnepdcaaGreatDoor
open Go.RowKit
theorem made_one (z:Value) (hz:z.cells=#[z]) (n:Nat):(madeCells z.cells (n*1)).toList=List.replicate n z:=by
 unfold madeCells;rw [Nat.mul_one,Array.toList_map,Array.toList_range,List.eq_replicate_iff];refine ⟨by simp,fun b hb=>?_⟩;obtain ⟨i,_,rfl⟩:=List.mem_map.1 hb;rw [hz];have:i % (#[z]:Array Value).size=0:=by simp [Nat.mod_one]
 rw [this];rfl
theorem Dsk.start (w:World) (t1 t2 e e':TypeId):Dsk w ((w.alloc (.cells #[.slice none 0 0,.slice none 0 0] t1)).alloc (.cells #[.slice none 0 0,.slice none 0 0] t2)) w.heap.size (w.heap.size+1) (w.heap.size+1+1) e e' (.slice none 0 0) (.slice none 0 0) [] []:=by
 have hb:Below w.heap.size w ((w.alloc (.cells #[.slice none 0 0,.slice none 0 0] t1)).alloc (.cells #[.slice none 0 0,.slice none 0 0] t2)):=((Below.refl _ _).alloc (Nat.le_refl _) _).alloc (by simp) _;have r1:=(xER w #[.slice none 0 0,.slice none 0 0] t1).alloc (.cells #[.slice none 0 0,.slice none 0 0] t2);have r2:=xER (w.alloc (.cells #[.slice none 0 0,.slice none 0 0] t1)) #[.slice none 0 0,.slice none 0 0] t2;simp only [World.size_alloc] at r2;exact ⟨Nat.le_refl _,by omega,by omega,by omega,by omega,by simp,hb,r1.cell 0 _ rfl,r1.cell 1 _ rfl,r1.froz 0 (by simp),r1.froz 1 (by simp),r2.cell 0 _ rfl,r2.cell 1 _ rfl,r2.froz 0 (by simp),r2.froz 1 (by simp),World.ownsRow_nil _ _ _ _,World.ownsRow_nil _ _ _ _,.inl rfl⟩
theorem info_parts' {P:Program} {e:TypeId} {z:Value} {size aA:Nat} (h:(P.info? e).map (fun i=>(i.zero,i.size,i.bytes))=some (some z,size,aA)):∃ i,P.info? e=some i/\i.zero=some z/\i.size=size/\i.bytes=aA:=by
 obtain ⟨i,hi,hh⟩:=Option.map_eq_some_iff.1 h;simp only [Prod.mk.injEq] at hh;exact ⟨i,hi,hh⟩
theorem Row.text {P:Program} {w:World} {g:Nat} {cs:List Value} (h:Row w g cs) (xs:List Int) (o n cap:Nat) (hx:xs.length=n) (hc:∀ i,i<n->cs[o+i]?=some (.int .u8 (xs.getD i 0))) (aB e aA:TypeId) (hs:P.underlying aB=some (.slice e)) (he:P.underlying e=some (.int .u8)) (hd:P.underlying aA=some .string) :
  (convert aB aA (.slice (some ⟨g,o,none⟩) n cap)).run P w=.ok (.string (strOfNums xs)) w :=
 run_convert_bytes_arg (P:=P) w aB e hs he g o n cap xs hx (fun i hi=>h.cell _ _ (hc i hi)) aA hd
theorem Dsk.far {W w w1:World} {R D base:Nat} {e e':TypeId} {v v':Value} {ss:List ByteArray} {ws:List (Int×ByteArray)} (h:Dsk W w R D base e e' v v' ss ws) (hg:w.grownBy w1 v.ownBlock) (b i j:Nat) (hb:b<base) (hn:b≠D) (u:Value):(w1.setCell ⟨D,j,none⟩ u).cell? ⟨b,i,none⟩=w.cell? ⟨b,i,none⟩:=by
 have lb:b<w.heap.size:=Nat.lt_of_lt_of_le hb h.sz
 have nb:some b≠v.ownBlock:=fun he=>by have:=(h.own.lt b he.symm).1;omega
 rw [World.cell?_setCell_other (w:=w1) (h:=show (⟨D,j,none⟩:Addr)≠⟨b,i,none⟩ from fun he=>hn (by injection he with h1;exact h1.symm))];exact hg.cell_far ⟨b,i,none⟩ lb nb
def secs (ps:List (List Int)):List ByteArray:=ps.map strOfNums
def held (hs:List (Int×List Int)):List (Int×ByteArray):=hs.map fun x=>(x.1,strOfNums x.2)
theorem nsc (n:Nat) (h:0<n):Builtin.nextslicecap n 0=n:=by
 unfold Builtin.nextslicecap;simp;omega
theorem step_append_copy {P:Program} {aH:Array Oper} {o:Oper} {a:Act} {w:World} {K:Act->World->Prop} {Q:Exit->Act->World->Prop} {E:Prop}
  (aK:o.guard=none) (s x:Operand) (t:TypeId) (aG:o.op=.call { callee:=.builtin .append,args:=#[s,x],argTypes:=#[t,t] })
  (e:TypeId) (i:TypeInfo) (z:Value) (size aA:Nat) (ht:P.underlying t=some (.slice e)) (hi:P.info? e=some i) (hz:i.zero=some z) (aC:i.size=size) (aJ:i.bytes=aA)
  (b:Nat) (hs:a.eval s=.slice (some ⟨b,0,none⟩) 0 0) (v:Value) (hx:a.eval x=v) (n:Nat) (news:List Value) (aD:Src P size t v n news w) (hl:news.length=n*size) (hn:n<=1048576) (aI:n*aA<=281474976710656)
  (h:∀ g cap wx,(n=0\/(g=w.heap.size/\Row wx g news))->Below w.heap.size w wx->K (a.put o.dst (.slice (some ⟨g,0,none⟩) n cap)) wx) :
  if Region.wanted o (yielded aH a.tmps)=true then Oper.wp P o a w K Q else E:=by
 have hw:Region.wanted o (yielded aH a.tmps)=true:=by simp [Region.wanted,aK]
 rw [if_pos hw];subst aC aJ
 by_cases h0:n=0
 ·subst h0
  have aE:news=[]:=List.eq_nil_of_length_eq_zero (by omega);subst aE;have aB:=run_append_room_src (P:=P) w t t o.type e i ht hi b 0 0 0 v 0 [] aD (by omega) (by simp) (by simp);unfold Oper.wp;simp [execOp,aG,resolve,invoke,builtin,hs,hx,aB,Result.andThen];exact h b 0 _ (.inl rfl) (Below.refl _ _)
 ·have aF:(Builtin.firstCells i.size 0 (.slice (some ⟨b,0,none⟩) 0 0)).run P w.drew=.ok ([]:List Value).toArray w.drew:=run_firstCells_some w.drew i.size 0 _ 0 0 [] (by simp) (by simp)
  have aB:=run_append_grow_src (P:=P) w t t o.type e i z ht hi hz (some ⟨b,0,none⟩) 0 0 [] aF v n news aD (by omega) (by omega) (by rw [Nat.zero_add,nsc n (by omega)];exact aI);unfold Oper.wp;simp [execOp,aG,resolve,invoke,builtin,hs,hx,aB,Result.andThen];refine h w.heap.size _ _ (.inr ⟨rfl,?_⟩) ((Below.refl _ _).drew.alloc (Nat.le_refl _) _);have hr:=xER w.drew ((([]:List Value)++news).toArray++Builtin.zeroCells z.cells (grownCap w (0+n) 0 e-(0+n))) e;refine ⟨by simp,fun j u hu=>?_,fun j hj=>?_⟩
  ·have:=hr.cell j u (by
    obtain ⟨hj,_⟩:=List.getElem?_eq_some_iff.1 hu
    simp [List.getElem?_append_left hj,hu])
   simpa using this
  ·have:=hr.froz j (by simp;omega)
   simpa using this
theorem src_strs {P:Program} {w:World} {a:Option Addr} {ss:List ByteArray} (h:Strs w a ss) (t e:TypeId) (ht:P.underlying t=some (.slice e)) (c:Nat):Src P 1 t (.slice a ss.length c) ss.length (ss.map Value.string) w:=by
 rcases h with h | ⟨b,o,rfl,hb,hc⟩
 ·subst h
  cases a with
  | none=>exact Src.ofNil w ht c
  | some x=>exact Src.ofSlice w ht x 0 c [] (by simp) (by simp) (by simp)
 ·refine Src.ofSlice w ht ⟨b,o,none⟩ ss.length c _ (by simp) (fun j u hu=>?_) (fun u hu=>by obtain ⟨s,_,rfl⟩:=List.mem_map.1 hu;rfl)
  obtain ⟨hj,e⟩:=List.getElem?_eq_some_iff.1 hu;simp only [List.length_map] at hj;have ha:(⟨b,o,none⟩:Addr).add j=⟨b,o+j,none⟩:=by unfold Addr.add;split<;>simp_all
  rw [ha,hc j hj,<-e];simp [List.getD,hj]
theorem src_wrs {P:Program} {w:World} {a:Option Addr} {ws:List (Int×ByteArray)} (h:Wrs w a ws) (t e:TypeId) (ht:P.underlying t=some (.slice e)) (c:Nat):Src P 2 t (.slice a ws.length c) ws.length (yaV ws) w:=by
 rcases h with h | ⟨b,o,rfl,hb,hc⟩
 ·subst h
  cases a with
  | none=>exact Src.ofNil w ht c
  | some x=>exact Src.ofSlice w ht x 0 c [] (by simp) (by simp) (by simp)
 ·refine Src.ofSlice w ht ⟨b,o,none⟩ ws.length c _ (zPu ws) (fun j u hu=>?_) (fun u hu=>?_)
  ·obtain ⟨hj,e⟩:=List.getElem?_eq_some_iff.1 hu
   rw [zPu] at hj;have ha:(⟨b,o,none⟩:Addr).add j=⟨b,o+j,none⟩:=by unfold Addr.add;split<;>simp_all
   obtain ⟨q,hq⟩:∃ q,j=q*2\/j=q*2+1:=⟨j / 2,by omega⟩;have aA:q<ws.length:=by omega
   have hw:=Qwf ws q aA;rcases hq with rfl | rfl
   ·rw [ha,(hc q aA).1,<-hu,hw.1]
   ·rw [ha,<-Nat.add_assoc,(hc q aA).2,<-hu,hw.2]
  ·unfold yaV at hu
   obtain ⟨x,_,hx⟩:=List.mem_flatMap.1 hu;simp at hx;rcases hx with rfl | rfl<;>rfl
def cval (w:World) (p:Addr):Value:=(w.cell? p).getD (.int .i64 0)
theorem cval_some {w:World} {p:Addr} (h:(w.cell? p).isSome=true):w.cell? p=some (cval w p):=by
 unfold cval
 cases e:w.cell? p with
 | none=>rw [e] at h;exact absurd h (by simp)
 | some v=>rfl
theorem cval_is {w:World} {p:Addr} {v:Value} (h:w.cell? p=some v):(w.cell? p).isSome=true:=by rw [h];rfl
def KeepC (wy:World) (X:Nat) (v0 v1:Value) (w:World):Prop :=
 w.cell? ⟨X,0,none⟩=some v0/\w.cell? ⟨X,1,none⟩=some v1/\w.cell? ⟨X+1,0,none⟩=some (cval w ⟨X+1,0,none⟩)/\w.cell? ⟨X+1,1,none⟩=some (cval w ⟨X+1,1,none⟩)/\w.frozen? ⟨X+1,0,none⟩=false/\w.frozen? ⟨X+1,1,none⟩=false/\wy.grownBy w (some (X+1))/\X+1<w.heap.size
theorem KeepC.below {wy w w':World} {X:Nat} {v0 v1:Value} (h:KeepC wy X v0 v1 w) (hb:Below w.heap.size w w'):KeepC wy X v0 v1 w':=by
 obtain ⟨h1,h2,h3,h4,h5,h6,h7,h8⟩:=h;refine ⟨(hb.cell (p:=⟨X,0,none⟩) (by show X<_;omega)).trans h1,(hb.cell (p:=⟨X,1,none⟩) (by show X<_;omega)).trans h2,?_,?_,?_,?_,⟨hb.os.trans h7.os,hb.tape.trans h7.tape,hb.output.trans h7.output,Nat.le_trans h7.size hb.size,fun i hi aA=>(hb.block i (Nat.lt_of_lt_of_le hi h7.size)).trans (h7.block i hi aA)⟩,Nat.lt_of_lt_of_le h8 hb.size⟩
 ·exact cval_some (by rw [hb.cell (p:=⟨X+1,0,none⟩) h8];exact cval_is h3)
 ·exact cval_some (by rw [hb.cell (p:=⟨X+1,1,none⟩) h8];exact cval_is h4)
 ·rw [hb.frozen (p:=⟨X+1,0,none⟩) h8];exact h5
 ·rw [hb.frozen (p:=⟨X+1,1,none⟩) h8];exact h6
theorem KeepC.set {wy w:World} {X:Nat} {v0 v1:Value} (h:KeepC wy X v0 v1 w) (j:Nat) (v:Value):KeepC wy X v0 v1 (w.setCell ⟨X+1,j,none⟩ v):=by
 obtain ⟨h1,h2,h3,h4,h5,h6,h7,h8⟩:=h
 have hs:∀ p,(w.cell? p).isSome=true->((w.setCell ⟨X+1,j,none⟩ v).cell? p).isSome=true:=fun p hp=>by
  by_cases e:(⟨X+1,j,none⟩:Addr)=p
  ·subst e
   obtain ⟨u,hu⟩:=Option.isSome_iff_exists.1 hp;rw [World.cell?_setCell_same (w:=w) (h:=hu)];rfl
  ·rw [World.cell?_setCell_other (w:=w) (h:=e)];exact hp
 refine ⟨(World.cell?_setCell_far _ _ _ _ (by show X+1≠X;omega)).trans h1,(World.cell?_setCell_far _ _ _ _ (by show X+1≠X;omega)).trans h2,cval_some (hs _ (cval_is h3)),cval_some (hs _ (cval_is h4)),by rw [World.frozen?_setCell];exact h5,by rw [World.frozen?_setCell];exact h6,⟨(zyN (X+1) [v] j w).1.trans h7.os,(zyN (X+1) [v] j w).2.1.trans h7.tape,(zyN (X+1) [v] j w).2.2.trans h7.output,by simpa using h7.size,fun i hi aA=>?_⟩,by simpa using h8⟩;rw [<-h7.block i hi aA];exact zWW (X+1) [v] j w i (fun e=>aA (by rw [e]))
theorem cp_end (B R:Nat) (aA aB:World) (ss:List ByteArray) (ws:List (Int×ByteArray)) (g1 g2 n1 n2:Nat) (v0 v1:Value) (aH:B<=n1) (hR:R<n1) (aC:ss.length=0\/g1=n1/\Row aA g1 (ss.map Value.string)) (aG:Below aA.heap.size aA aB) (aJ:n1<=aA.heap.size) (aI:aA.heap.size<=n2) (aD:ws.length=0\/g2=n2/\Row aB g2 (yaV ws)) :
  OwnD ((aB.setCell ⟨R,0,none⟩ v0).setCell ⟨R,1,none⟩ v1) (some ⟨g1,0,none⟩) ss (some ⟨g2,0,none⟩) ws/\(∀ k,blk (some ⟨g1,0,none⟩) ss.length=some k->B<=k)/\(∀ k,blk (some ⟨g2,0,none⟩) ws.length=some k->B<=k):=by
 have aE:∀ k,blk (some ⟨g1,0,none⟩) ss.length=some k->k=n1/\k<aA.heap.size:=fun k hk=>by
  unfold blk at hk
  split at hk
  ·exact absurd hk (by simp)
  ·rename_i h0
   rcases aC with e | ⟨rfl,hr⟩
   ·exact absurd e h0
   ·simp at hk
    exact ⟨hk.symm,by rw [<-hk];exact hr.lt⟩
 have aF:∀ k,blk (some ⟨g2,0,none⟩) ws.length=some k->k=n2:=fun k hk=>by
  unfold blk at hk
  split at hk
  ·exact absurd hk (by simp)
  ·rename_i h0
   rcases aD with e | ⟨rfl,hr⟩
   ·exact absurd e h0
   ·simp at hk
    exact hk.symm
 refine ⟨⟨?_,?_,?_⟩,fun k hk=>by have:=aE k hk;omega,fun k hk=>by have:=aF k hk;omega⟩
 ·rcases aC with e | ⟨rfl,hr⟩
  ·exact .inl (by rw [List.eq_nil_of_length_eq_zero e];rfl)
  ·exact .inr ⟨g1,rfl,((hr.below aG).other ⟨R,0,none⟩ (by show R≠_;omega) _).other ⟨R,1,none⟩ (by show R≠_;omega) _⟩
 ·rcases aD with e | ⟨rfl,hr⟩
  ·exact .inl (by rw [List.eq_nil_of_length_eq_zero e];rfl)
  ·exact .inr ⟨g2,rfl,(hr.other ⟨R,0,none⟩ (by show R≠_;omega) _).other ⟨R,1,none⟩ (by show R≠_;omega) _⟩
 ·cases e1:blk (some ⟨g1,0,none⟩) ss.length with
  | none=>exact .inl rfl
  | some k1 =>
   cases e2:blk (some ⟨g2,0,none⟩) ws.length with
   | none=>exact .inr (.inl rfl)
   | some k2 =>
    have h1:=aE k1 e1;have h2:=aF k2 e2;exact .inr (.inr (fun e=>by injection e with e;omega))
set_option maxRecDepth 4000 in
theorem copy_s (a:Option Addr) (ss:List ByteArray) (c:Nat) (a':Option Addr) (ws:List (Int×ByteArray)) (c':Nat) (w:World) (h:Strs w a ss) (h':Wrs w a' ws) (hl:ss.length<=200) (bC:ws.length<=300) :
  Calls Tryz.prog 68 #[Zoj a ss.length c a' ws.length c'] w fun e w'=>∃ g c1 g' aW,e=.returned (Zoj (some ⟨g,0,none⟩) ss.length c1 (some ⟨g',0,none⟩) ws.length aW)/\OwnD w' (some ⟨g,0,none⟩) ss (some ⟨g',0,none⟩) ws/\(∀ k,blk (some ⟨g,0,none⟩) ss.length=some k->w.heap.size<=k)/\(∀ k,blk (some ⟨g',0,none⟩) ws.length=some k->w.heap.size<=k)/\Below w.heap.size w w':=by
 obtain ⟨i0,aB,aE,aF,aG⟩:=info_parts' kDp;have HI:=hid (And.intro aB (And.intro aE (And.intro aF aG)));clear aB aE aF aG;obtain ⟨i1,aB,aE,aF,aG⟩:=info_parts' yGS;have aH:=hid (And.intro aB (And.intro aE (And.intro aF aG)));clear aB aE aF aG
 have aX:∀ o1 o2,Below w.heap.size w ((w.alloc o1).alloc o2):=fun o1 o2=>((Below.refl _ _).alloc (Nat.le_refl _) _).alloc (by simp) _
 go_enter Tryz.func68,Tryz.ntmps68;go_wp2_with fail;have aP:=(Cx.new w (.slice a ss.length c) (.slice a' ws.length c') 26).below (zE5 _ (.cells #[.slice none 0 0,.slice none 0 0] 26));have rR:=kR4 (w.alloc (.cells #[.slice a ss.length c,.slice a' ws.length c'] 26)) #[.slice none 0 0,.slice none 0 0] 26 (w.heap.size+1) (by simp);have hB:=aX (.cells #[.slice a ss.length c,.slice a' ws.length c'] 26) (.cells #[.slice none 0 0,.slice none 0 0] 26);have aO:((w.alloc (.cells #[.slice a ss.length c,.slice a' ws.length c'] 26)).alloc (.cells #[.slice none 0 0,.slice none 0 0] 26)).heap.size=w.heap.size+1+1:=by simp
 obtain ⟨wy,aS⟩:∃ wy,wy=(w.alloc (.cells #[.slice a ss.length c,.slice a' ws.length c'] 26)).alloc (.cells #[.slice none 0 0,.slice none 0 0] 26):=⟨_,rfl⟩;rw [<-aS] at aP rR hB aO ⊢;clear aS;have HX:=hid aP;have HR:=hid rR;have HB:=hid hB;have aC:=hid aO;clear aP rR hB aO;have aU:KeepC wy w.heap.size (.slice a ss.length c) (.slice a' ws.length c') wy:=⟨HX.out.c0,HX.out.c1,cval_some (cval_is (HR.out.cell 0 _ rfl)),cval_some (cval_is (HR.out.cell 1 _ rfl)),HR.out.froz 0 (by simp),HR.out.froz 1 (by simp),⟨rfl,rfl,rfl,Nat.le_refl _,fun _ _ _=>rfl⟩,by rw [aC.out];omega⟩;have HK:=hid aU;clear aU
 have aT:∀ wz,KeepC wy w.heap.size (.slice a ss.length c) (.slice a' ws.length c') wz->Below w.heap.size w wz:=fun wz hz=>HB.out.trans (jJX hz.2.2.2.2.2.2.1 (by rw [aC.out];omega) (fun g hg=>by injection hg with hg;omega))
 have aJ:=hid aT;clear aT
 go_region_held3 (fun w'=>w'.cell? ⟨w.heap.size,0,none⟩=some (.slice a ss.length c)/\w'.cell? ⟨w.heap.size,1,none⟩=some (.slice a' ws.length c')/\w'.cell? ⟨w.heap.size+1,0,none⟩=some (cval w' ⟨w.heap.size+1,0,none⟩)/\w'.cell? ⟨w.heap.size+1,1,none⟩=some (cval w' ⟨w.heap.size+1,1,none⟩)/\w'.frozen? ⟨w.heap.size+1,0,none⟩=false/\w'.frozen? ⟨w.heap.size+1,1,none⟩=false/\wy.grownBy w' (some (w.heap.size+1))/\w.heap.size+1<w'.heap.size)
  (first | assumption | exact HK.out.below ((Below.refl _ _).drew) | exact KeepC.below (by assumption) (by assumption) | exact KeepC.below (by assumption) (zE5 _ _) | exact KeepC.set (KeepC.set (by assumption) 0 _) 1 _)
  (first | (refine step_append_copy (by rfl) _ _ 23 (by rfl) 9 _ _ 1 16 Tryz.underlying23 HI.out.1 HI.out.2.1 HI.out.2.2.1 HI.out.2.2.2 _ (by rfl) _ (by rfl) ss.length _ (by exact src_strs (h.below (aJ.out _ (by assumption))) _ _ (by rfl) _) (by simp) (by omega) (by omega) ?_;intro g1 c1 aQ aL aK) | (refine step_append_copy (by rfl) _ _ 24 (by rfl) 74 _ _ 2 24 Tryz.underlying24 aH.out.1 aH.out.2.1 aH.out.2.2.1 aH.out.2.2.2 _ (by rfl) _ (by rfl) ws.length _ (by exact src_wrs (h'.below (aJ.out _ (by assumption))) _ _ (by rfl) _) (by exact zPu ws) (by omega) (by omega) ?_;intro g2 c2 aR aM aI;have aN:KeepC wy w.heap.size (.slice a ss.length c) (.slice a' ws.length c') aR:=KeepC.below (by assumption) aI))
 all_goals
  rename_i hHe;have aV:=hHe;clear hHe;have aY:=aJ.out _ aV
  have aD:=by
   first
   | exact cp_end w.heap.size (w.heap.size+1) aQ aR ss ws g1 g2 _ _ (Value.slice (some ⟨g1,0,none⟩) ss.length c1) (Value.slice (some ⟨g2,0,none⟩) ws.length c2) (by simp [aC.out]<;>omega) (by simp [aC.out]<;>omega) aL aI aK.size (Nat.le_refl _) aM
   | exact cp_end w.heap.size (w.heap.size+1) aQ aR ss ws g1 g2 _ _ (Value.slice (some ⟨g1,0,none⟩) ss.length c1) (Value.slice (some ⟨g2,0,none⟩) ws.length c2) (by simp [aC.out]<;>omega) (by simp [aC.out]<;>omega) aL (Go.Proofs.YtehbpeinnepdcaaGreatDoor.Below.then (zE5 aQ _) (Nat.le_refl _) aI) aK.size (by simp) aM
  have aA:=hid aD;have aB:=cval_is aN.2.2.1;have aZ:=cval_is aN.2.2.2.1;clear aD aL aK aM aI aN aV;go_wp2;exact bodyPost_ret (v:=Zoj (some ⟨g1,0,none⟩) ss.length c1 (some ⟨g2,0,none⟩) ws.length c2) (by simp [results,Tryz.results68,go_sem,aB,aZ]) rfl ⟨g1,c1,g2,⟨c2,rfl⟩,aA.out.1,aA.out.2.1,aA.out.2.2,aY⟩
section
def syncs:List (Int×ByteArray)->List ByteArray->List ByteArray
 | [],ss=>ss
 | x::r,ss=>syncs r (ss.set x.1.toNat x.2)
theorem syncs_length:∀ (ws:List (Int×ByteArray)) (ss:List ByteArray),(syncs ws ss).length=ss.length
 | [],_=>rfl
 | x::r,ss=>by rw [syncs,syncs_length r];simp
structure SYs (W w:World) (R X g g' n n' c1 c1':Nat) (ws:List (Int×ByteArray)) (ts:List ByteArray):Prop where
 gr:W.grownBy w (some g)
 rr:Row w R [.slice none 0 0,.slice none 0 0]
 rx:Row w X [.slice (some ⟨g,0,none⟩) n c1,.slice (some ⟨g',0,none⟩) n' c1']
 rs:Row w g (ts.map Value.string)
 own:OwnS w (some ⟨g',0,none⟩) (yaV ws)
section
variable {W w w':World} {R X g g' n n' c1 c1':Nat} {ws:List (Int×ByteArray)} {ts:List ByteArray}
theorem SYs.below (h:SYs W w R X g g' n n' c1 c1' ws ts) (hb:Below w.heap.size w w'):SYs W w' R X g g' n n' c1 c1' ws ts :=
 ⟨ZpU h.gr (Qbp _ hb),h.rr.below hb,h.rx.below hb,h.rs.below hb,h.own.below hb⟩
theorem SYs.drew (h:SYs W w R X g g' n n' c1 c1' ws ts):SYs W w.drew R X g g' n n' c1 c1' ws ts:=h.below ((Below.refl _ _).drew)
theorem SYs.set (h:SYs W w R X g g' n n' c1 c1' ws ts) (m:Nat) (hm:m<ts.length) (s:ByteArray) (h2:R≠g) (h3:X≠g) (h4:yaV ws≠[]->g'≠g):SYs W (w.setCell ⟨g,m,none⟩ (.string s)) R X g g' n n' c1 c1' ws (ts.set m s):=by
 refine ⟨y09 h.gr _ _,h.rr.other _ (fun e=>h2 e.symm) _,h.rx.other _ (fun e=>h3 e.symm) _,?_,?_⟩
 ·rw [List.map_set];exact h.rs.set m (by simpa using hm) _
 ·rcases h.own with ho | ⟨b,e,hr⟩
  ·exact .inl ho
  ·injection e with e;injection e with e
   by_cases hc:yaV ws=[]
   ·exact .inl hc
   ·exact .inr ⟨g',rfl,(e ▸ hr).other _ (fun e2=>h4 hc e2.symm) _⟩
end
theorem grown_setnew {a b:World} {r:Option Nat} (h:a.grownBy b r) (p:Addr) (hp:a.heap.size<=p.block) (v:Value):a.grownBy (b.setCell p v) r :=
 ⟨h.os,h.tape,h.output,by rw [World.size_setCell];exact h.size,fun i hi hr=>(Below.heap_setCell _ _ _ _ (fun e=>by omega)).trans (h.block i hi hr)⟩
set_option maxRecDepth 100000 in
theorem sync_s (g g':Nat) (ss:List ByteArray) (c:Nat) (ws:List (Int×ByteArray)) (c':Nat) (w:World) (aM:Row w g (ss.map Value.string)) (hp:OwnS w (some ⟨g',0,none⟩) (yaV ws)) (aS:yaV ws≠[]->g'≠g) (hl:ss.length<=200) (bQ:ws.length<=300) (aT:∀ x∈ws,0<=x.1/\x.1<(ss.length:Int)) :
  Calls Tryz.prog 101 #[Zoj (some ⟨g,0,none⟩) ss.length c (some ⟨g',0,none⟩) ws.length c'] w fun e w'=>∃ x,e=.returned (Zoj (some ⟨g,0,none⟩) ss.length c (some ⟨x,0,none⟩) 0 0)/\w.heap.size<=x/\x<w'.heap.size/\Row w' g ((syncs ws ss).map Value.string)/\w.grownBy w' (some g):=by
 obtain ⟨aD,aC⟩:∃ aD,Hid (aD=syncs ws ss):=⟨_,hid rfl⟩;rw [<-aC.out];have bH:=aM.lt;go_enter Tryz.func101,Tryz.ntmps101;go_wp2
 have aA:SYs w ((w.alloc (.cells #[.slice (some ⟨g,0,none⟩) ss.length c,.slice (some ⟨g',0,none⟩) ws.length c'] 26)).alloc (.cells #[.slice none 0 0,.slice none 0 0] 26)) (w.heap.size+1) w.heap.size g g' ss.length ws.length c c' ws ss :=
  ⟨Qbp _ (((Below.refl _ _).alloc (Nat.le_refl _) _).alloc (by simp) _),kR4 _ _ _ _ (by simp),(xER _ _ _).alloc _,(aM.alloc _).alloc _,(hp.below (zE5 _ _)).below (zE5 _ _)⟩
 have aP:=hid aA;have aV:=hid aT;have aO:=hid aS;clear aA aM hp aT aS;go_loopw [3] (fun i wr=>∃ (k:Nat) (ts:List ByteArray),k<=ws.length/\i=.int .i64 k/\ts.length=ss.length/\Hid (syncs (ws.drop k) ts=aD)/\SYs w wr (w.heap.size+1) w.heap.size g g' ss.length ws.length c c' ws ts) (fun i _=>ws.length-(intOf i).toNat)
 case atStart=>exact ⟨0,ss,Nat.zero_le _,rfl,rfl,by show _=_;rw [List.drop_zero,aC.out],aP.out⟩
 case round =>
  clear aP;obtain ⟨k,ts,hk,rfl,aN,HK,aA⟩:=hrel
  by_cases aK:k<ws.length
  ·obtain ⟨b,o,m0,d,he,aI,aJ,HX⟩:=aA.own.wrs.at aK
   obtain ⟨rfl,rfl⟩:g'=b/\o=0:=by cases he;exact ⟨rfl,rfl⟩
   rw [Nat.zero_add] at aI aJ;clear he;have aG:=aV.out (m0,d) (by rw [HX.out];simp [List.getD,aK]);obtain ⟨m,rfl,hm⟩:∃ m:Nat,m0=(m:Int)/\m<ss.length:=⟨m0.toNat,by have:=aG.1;simp at *;omega,by have:=aG.1;have:=aG.2;simp at *;omega⟩
   have aE:yaV ws≠[]:=fun e=>by have:=congrArg List.length e;rw [zPu,List.length_nil] at this;omega
   have bG:=aO.out aE;have aQ:=cval_some (cval_is (aA.rs.cell m (.string (ts.getD m ByteArray.empty)) (by simp [List.getD,aN,hm])));have aR:=aA.rs.froz m (by simp [aN,hm]);have aX:=aA.rx.lt;have x0:=aA.rx.cell 0 _ rfl;have x1:=aA.rx.cell 1 _ rfl;have aB:=hid (And.intro x0 (And.intro x1 (And.intro aI (And.intro aJ (And.intro aQ aR)))));have aF:=hid aA;have bI:(0:Int)<=(k:Int):=by omega
   have bJ:(k:Int)<(ws.length:Int):=by omega
   have bU:(0:Int)<=(m:Int):=by omega
   have bV:(m:Int)<(ss.length:Int):=by omega
   clear aA aG aQ aR aI aJ aE;go_wp2_with fail;clear x0 x1
   go_region_held3 (fun w'=>w'.cell? ⟨w.heap.size,0,none⟩=some (.slice (some ⟨g,0,none⟩) ss.length c)/\w'.cell? ⟨w.heap.size,1,none⟩=some (.slice (some ⟨g',0,none⟩) ws.length c')/\w'.cell? ⟨g',k*2,none⟩=some (.int .i64 (m:Int))/\w'.cell? ⟨g',k*2+1,none⟩=some (.string d)/\w'.cell? ⟨g,m,none⟩=some (cval w' ⟨g,m,none⟩)/\w'.frozen? ⟨g,m,none⟩=false)
    (first | assumption | exact aB.out | exact ⟨(World.cell?_setCell_far _ _ _ _ (by show g≠w.heap.size;omega)).trans aB.out.1,(World.cell?_setCell_far _ _ _ _ (by show g≠w.heap.size;omega)).trans aB.out.2.1,(World.cell?_setCell_far _ _ _ _ (by show g≠g';omega)).trans aB.out.2.2.1,(World.cell?_setCell_far _ _ _ _ (by show g≠g';omega)).trans aB.out.2.2.2.1,cval_some (cval_is (World.cell?_setCell_same' wr _ (.string d) (cval_is aB.out.2.2.2.2.1))),(World.frozen?_setCell wr _ _ _).trans aB.out.2.2.2.2.2⟩)
    (fail)
   have aH:=hid (aF.out.drew.set m (by omega) d (by omega) (by omega) aO.out)
   have aU:Hid (syncs (ws.drop (k+1)) (ts.set m d)=aD):=by
    show _=_;rw [<-HK.out,JGy ws k (0,ByteArray.empty) aK,<-HX.out,syncs,Int.toNat_natCast]
   rename_i hHe;clear hHe aB;go_wp2;go_roundw
   case rel=>exact ⟨k+1,_,by omega,by go_num,by simp [aN],aU,aH.out⟩
   case measure=>simp [intOf];omega
  ·have aL:Hid (ts=aD):=by
    have:=HK.out;rw [List.drop_of_length_le (by omega)] at this;exact this
   rw [aL.out] at aA;have aF:=hid aA;have q0:=aA.rx.cell 0 _ rfl;have q1:=aA.rx.cell 1 _ rfl;have f1:=aA.rx.froz 1 (by simp);have r0:=aA.rr.cell 0 _ rfl;have r1:=aA.rr.cell 1 _ rfl;obtain ⟨aZ,bC⟩:=aA.rr.z2;have aX:=aA.rx.lt;have aW:=aA.rr.lt;have n1:w.heap.size≠w.heap.size+1:=by omega
   clear aA;go_wp2;have aY:wr.heap.size≠w.heap.size+1:=by omega
   refine bodyPost_ret (v:=Zoj (some ⟨g,0,none⟩) ss.length c (some ⟨wr.heap.size,0,none⟩) 0 0) (by simp [results,Tryz.results101,go_sem,r0,r1,n1,aY,aW]) rfl ⟨_,rfl,by omega,by simp,?_,?_⟩
   ·exact (((aF.out.rs.other _ (by show w.heap.size≠g;omega) _).other _ (by show w.heap.size+1≠g;omega) _).other _ (by show w.heap.size+1≠g;omega) _).alloc _
   ·exact ZpU (grown_setnew (grown_setnew (grown_setnew aF.out.gr ⟨w.heap.size,1,none⟩ (by show w.heap.size<=w.heap.size;omega) _) ⟨w.heap.size+1,0,none⟩ (by show w.heap.size<=w.heap.size+1;omega) _) ⟨w.heap.size+1,1,none⟩ (by show w.heap.size<=w.heap.size+1;omega) _) (Qbp _ (zE5 _ _))
end
def torn (k:Nat) (x y:List Int):List Int:=x.take k++y.drop k
theorem step_append_copy2 {P:Program} {aH:Array Oper} {o:Oper} {a:Act} {w:World} {K:Act->World->Prop} {Q:Exit->Act->World->Prop} {E:Prop} (B:Nat)
  (aK:o.guard=none) (s x:Operand) (t:TypeId) (aG:o.op=.call { callee:=.builtin .append,args:=#[s,x],argTypes:=#[t,t] })
  (e:TypeId) (i:TypeInfo) (z:Value) (size aA:Nat) (ht:P.underlying t=some (.slice e)) (hi:P.info? e=some i) (hz:i.zero=some z) (aC:i.size=size) (aJ:i.bytes=aA)
  (b:Nat) (hs:a.eval s=.slice (some ⟨b,0,none⟩) 0 0) (v:Value) (hx:a.eval x=v) (n:Nat) (news:List Value) (aD:Src P size t v n news w) (hl:news.length=n*size) (hn:n<=1048576) (aI:n*aA<=281474976710656) (hB:B<=w.heap.size) (aN:z.cells.size=size)
  (h:∀ g cap wx,((n=0/\cap=0)\/(g=w.heap.size/\Row wx g news/\wx.ownsRow B e size (.slice (some ⟨g,0,none⟩) n cap) n news/\n≠0))->Below w.heap.size w wx->K (a.put o.dst (.slice (some ⟨g,0,none⟩) n cap)) wx) :
  if Region.wanted o (yielded aH a.tmps)=true then Oper.wp P o a w K Q else E:=by
 have hw:Region.wanted o (yielded aH a.tmps)=true:=by simp [Region.wanted,aK]
 rw [if_pos hw];subst aC aJ
 by_cases h0:n=0
 ·subst h0
  have aE:news=[]:=List.eq_nil_of_length_eq_zero (by omega);subst aE;have aB:=run_append_room_src (P:=P) w t t o.type e i ht hi b 0 0 0 v 0 [] aD (by omega) (by simp) (by simp);unfold Oper.wp;simp [execOp,aG,resolve,invoke,builtin,hs,hx,aB,Result.andThen];exact h b 0 _ (.inl ⟨rfl,rfl⟩) (Below.refl _ _)
 ·have aF:(Builtin.firstCells i.size 0 (.slice (some ⟨b,0,none⟩) 0 0)).run P w.drew=.ok ([]:List Value).toArray w.drew:=run_firstCells_some w.drew i.size 0 _ 0 0 [] (by simp) (by simp)
  have aB:=run_append_grow_src (P:=P) w t t o.type e i z ht hi hz (some ⟨b,0,none⟩) 0 0 [] aF v n news aD (by omega) (by omega) (by rw [Nat.zero_add,nsc n (by omega)];exact aI);unfold Oper.wp;simp [execOp,aG,resolve,invoke,builtin,hs,hx,aB,Result.andThen];refine h w.heap.size _ _ (.inr ⟨rfl,?_,?_,h0⟩) ((Below.refl _ _).drew.alloc (Nat.le_refl _) _)
  ·have hr:=xER w.drew ((([]:List Value)++news).toArray++Builtin.zeroCells z.cells (grownCap w (0+n) 0 e-(0+n))) e
   refine ⟨by simp,fun j u hu=>?_,fun j hj=>?_⟩
   ·have:=hr.cell j u (by
     obtain ⟨hj,_⟩:=List.getElem?_eq_some_iff.1 hu
     simp [List.getElem?_append_left hj,hu])
    simpa using this
   ·have:=hr.froz j (by simp;omega)
    simpa using this
  ·have aL:=grownCap_ge w n 0 e
   have aM:=grownCap_le_maxLen w n 0 e (by unfold maxLen;omega);refine ⟨hl,.inr ⟨w.heap.size,_,_,rfl,hB,heap_alloc_new w.drew _,aL,aM,?_,?_⟩⟩
   ·simp [size_zeroCells,hl,aN]
    rw [<-Nat.add_mul]
    congr 1
    omega
   ·simp [hl]
set_option maxRecDepth 4000 in
theorem copy_s2 (a:Option Addr) (ss:List ByteArray) (c:Nat) (a':Option Addr) (ws:List (Int×ByteArray)) (c':Nat) (w:World) (h:Strs w a ss) (h':Wrs w a' ws) (hl:ss.length<=200) (bH:ws.length<=300) :
  Calls Tryz.prog 68 #[Zoj a ss.length c a' ws.length c'] w fun e w'=>∃ g c1 g' c1',e=.returned (Zoj (some ⟨g,0,none⟩) ss.length c1 (some ⟨g',0,none⟩) ws.length c1')/\OwnD w' (some ⟨g,0,none⟩) ss (some ⟨g',0,none⟩) ws/\(∀ k,blk (some ⟨g,0,none⟩) ss.length=some k->w.heap.size<=k)/\(∀ k,blk (some ⟨g',0,none⟩) ws.length=some k->w.heap.size<=k)/\((ws=[]/\c1'=0)\/w'.ownsRow (w.heap.size+1+1) 74 2 (.slice (some ⟨g',0,none⟩) ws.length c1') ws.length (yaV ws)/\ws.length≠0)/\Below w.heap.size w w':=by
 obtain ⟨i0,aB,aE,aF,aG⟩:=info_parts' kDp;have HI:=hid (And.intro aB (And.intro aE (And.intro aF aG)));clear aB aE aF aG;obtain ⟨i1,aB,aE,aF,aG⟩:=info_parts' yGS;have aH:=hid (And.intro aB (And.intro aE (And.intro aF aG)));clear aB aE aF aG
 have aZ:∀ o1 o2,Below w.heap.size w ((w.alloc o1).alloc o2):=fun o1 o2=>((Below.refl _ _).alloc (Nat.le_refl _) _).alloc (by simp) _
 go_enter Tryz.func68,Tryz.ntmps68;go_wp2_with fail;have aR:=(Cx.new w (.slice a ss.length c) (.slice a' ws.length c') 26).below (zE5 _ (.cells #[.slice none 0 0,.slice none 0 0] 26));have rR:=kR4 (w.alloc (.cells #[.slice a ss.length c,.slice a' ws.length c'] 26)) #[.slice none 0 0,.slice none 0 0] 26 (w.heap.size+1) (by simp);have hB:=aZ (.cells #[.slice a ss.length c,.slice a' ws.length c'] 26) (.cells #[.slice none 0 0,.slice none 0 0] 26);have aQ:((w.alloc (.cells #[.slice a ss.length c,.slice a' ws.length c'] 26)).alloc (.cells #[.slice none 0 0,.slice none 0 0] 26)).heap.size=w.heap.size+1+1:=by simp
 obtain ⟨wy,aT⟩:∃ wy,wy=(w.alloc (.cells #[.slice a ss.length c,.slice a' ws.length c'] 26)).alloc (.cells #[.slice none 0 0,.slice none 0 0] 26):=⟨_,rfl⟩;rw [<-aT] at aR rR hB aQ ⊢;clear aT;have HX:=hid aR;have HR:=hid rR;have HB:=hid hB;have aC:=hid aQ;clear aR rR hB aQ;have aV:KeepC wy w.heap.size (.slice a ss.length c) (.slice a' ws.length c') wy:=⟨HX.out.c0,HX.out.c1,cval_some (cval_is (HR.out.cell 0 _ rfl)),cval_some (cval_is (HR.out.cell 1 _ rfl)),HR.out.froz 0 (by simp),HR.out.froz 1 (by simp),⟨rfl,rfl,rfl,Nat.le_refl _,fun _ _ _=>rfl⟩,by rw [aC.out];omega⟩;have HK:=hid aV;clear aV
 have aU:∀ wz,KeepC wy w.heap.size (.slice a ss.length c) (.slice a' ws.length c') wz->Below w.heap.size w wz:=fun wz hz=>HB.out.trans (jJX hz.2.2.2.2.2.2.1 (by rw [aC.out];omega) (fun g hg=>by injection hg with hg;omega))
 have aK:=hid aU;clear aU
 go_region_held3 (fun w'=>w'.cell? ⟨w.heap.size,0,none⟩=some (.slice a ss.length c)/\w'.cell? ⟨w.heap.size,1,none⟩=some (.slice a' ws.length c')/\w'.cell? ⟨w.heap.size+1,0,none⟩=some (cval w' ⟨w.heap.size+1,0,none⟩)/\w'.cell? ⟨w.heap.size+1,1,none⟩=some (cval w' ⟨w.heap.size+1,1,none⟩)/\w'.frozen? ⟨w.heap.size+1,0,none⟩=false/\w'.frozen? ⟨w.heap.size+1,1,none⟩=false/\wy.grownBy w' (some (w.heap.size+1))/\w.heap.size+1<w'.heap.size)
  (first | assumption | exact HK.out.below ((Below.refl _ _).drew) | exact KeepC.below (by assumption) (by assumption) | exact KeepC.below (by assumption) (zE5 _ _) | exact KeepC.set (KeepC.set (by assumption) 0 _) 1 _)
  (first | (refine step_append_copy (by rfl) _ _ 23 (by rfl) 9 _ _ 1 16 Tryz.underlying23 HI.out.1 HI.out.2.1 HI.out.2.2.1 HI.out.2.2.2 _ (by rfl) _ (by rfl) ss.length _ (by exact src_strs (h.below (aK.out _ (by assumption))) _ _ (by rfl) _) (by simp) (by omega) (by omega) ?_;intro g1 c1 aS aM aL) | (refine step_append_copy2 (w.heap.size+1+1) (by rfl) _ _ 24 (by rfl) 74 _ _ 2 24 Tryz.underlying24 aH.out.1 aH.out.2.1 aH.out.2.2.1 aH.out.2.2.2 _ (by rfl) _ (by rfl) ws.length _ (by exact src_wrs (h'.below (aK.out _ (by assumption))) _ _ (by rfl) _) (by exact zPu ws) (by omega) (by omega) (by refine Nat.succ_le_of_lt (And.right (And.right (And.right (And.right (And.right (And.right (And.right (?_:KeepC wy w.heap.size (.slice a ss.length c) (.slice a' ws.length c') _))))))));assumption) (by rfl) ?_;intro g2 c2 aJ aO aI;have aN:ws.length=0\/(g2=_/\Row aJ g2 (yaV ws)):=(aO.imp (fun h=>h.1) (fun h=>⟨h.1,h.2.1⟩));have aW:=aO.imp id (fun h=>h.2.2);clear aO;have aP:KeepC wy w.heap.size (.slice a ss.length c) (.slice a' ws.length c') aJ:=KeepC.below (by assumption) aI))
 all_goals
  rename_i hHe;have aX:=hHe;clear hHe;have bC:=aK.out _ aX
  have aD:=by
   first
   | exact cp_end w.heap.size (w.heap.size+1) aS aJ ss ws g1 g2 _ _ (Value.slice (some ⟨g1,0,none⟩) ss.length c1) (Value.slice (some ⟨g2,0,none⟩) ws.length c2) (by simp [aC.out]<;>omega) (by simp [aC.out]<;>omega) aM aI aL.size (Nat.le_refl _) aN
   | exact cp_end w.heap.size (w.heap.size+1) aS aJ ss ws g1 g2 _ _ (Value.slice (some ⟨g1,0,none⟩) ss.length c1) (Value.slice (some ⟨g2,0,none⟩) ws.length c2) (by simp [aC.out]<;>omega) (by simp [aC.out]<;>omega) aM (Go.Proofs.YtehbpeinnepdcaaGreatDoor.Below.then (zE5 aS _) (Nat.le_refl _) aI) aL.size (by simp) aN
  have aA:=hid aD;have aB:=cval_is aP.2.2.1;have bG:=cval_is aP.2.2.2.1;have aY:=hid aW;clear aD aM aL aN aI aP aX aW;go_wp2;exact bodyPost_ret (v:=Zoj (some ⟨g1,0,none⟩) ss.length c1 (some ⟨g2,0,none⟩) ws.length c2) (by simp [results,Tryz.results68,go_sem,aB,bG]) rfl ⟨g1,c1,g2,c2,rfl,aA.out.1,aA.out.2.1,aA.out.2.2,aY.out.imp (fun h=>⟨List.eq_nil_of_length_eq_zero h.1,h.2⟩) (fun h=>⟨ownsRow_setCell_below (ownsRow_setCell_below h.1 (a:=⟨w.heap.size+1,0,none⟩) (by show w.heap.size+1<_;omega) _) (a:=⟨w.heap.size+1,1,none⟩) (by show w.heap.size+1<_;omega) _,by have:=h.2;simpa using this⟩),bC⟩
theorem infoU8:(Tryz.prog.info? 5).map (fun i=>(i.zero,i.size,i.bytes))=some (some (.int .u8 0),1,1):=by kernel_rfl
def zeros:ByteArray:=strOfNums (List.replicate 64 0)
theorem zeros_s (w:World):Calls Tryz.prog 26 #[] w fun e w'=>e=.returned (.string zeros)/\Below w.heap.size w w':=by
 go_enter Tryz.func26,Tryz.ntmps26;go_wp2_with (at_make;refine yIc rfl _ _ 22 rfl 5 _ 1 1 Tryz.underlying22 infoU8 64 rfl rfl (by omega) (by omega) ?_;intro wx aA aB aD;rw [made_one _ rfl] at aA;have aC:=run_convert_bytes_arg (P:=Tryz.prog) wx 22 5 Tryz.underlying22 Tryz.underlying5 w.heap.size 0 64 64 (List.replicate 64 0) rfl (fun i hi=>by rw [Nat.zero_add];have h1:=aA.cell i (.int .u8 0) (by rw [List.getElem?_replicate,if_pos hi]);rw [h1,List.getD_eq_getElem?_getD,List.getElem?_replicate,if_pos hi];rfl) 9 Tryz.underlying9;clear aA);go_ret;exact ⟨rfl,aB⟩
theorem new_s (n:Nat) (w:World) (h1:8<=n) (h2:n<=200) :
  Calls Tryz.prog 93 #[.int .i64 (n:Int)] w fun e w'=>∃ g c,e=.returned (Zoj (some ⟨g,0,none⟩) n c none 0 0)/\w.heap.size<=g/\Row w' g ((List.replicate n zeros).map Value.string)/\Below w.heap.size w w':=by
 have aT:(8:Int)<=(n:Int):=by omega
 have aU:(n:Int)<=200:=by omega
 obtain ⟨i0,aI,aJ,aK,aL⟩:=info_parts' kDp;have HI:=hid (And.intro aI (And.intro aJ (And.intro aK aL)));clear aI aJ aK aL;go_enter Tryz.func93,Tryz.ntmps93;go_wp2;go_loopw [4] (fun i wr=>∃ (k:Nat) (v:Value),k<=n/\i=.int .i64 k/\Dsk w wr w.heap.size (w.heap.size+1) (w.heap.size+1+1) 9 74 v (.slice none 0 0) (List.replicate k zeros) []) (fun i _=>n-(intOf i).toNat)
 case atStart=>exact ⟨0,_,Nat.zero_le _,rfl,Dsk.start _ _ _ _ _⟩
 case round =>
  obtain ⟨k,v,hk,rfl,hd⟩:=hrel
  by_cases aX:k<n
  ·have HD:=hid hd
   have q0:=hd.d0;have q1:=hd.fd0;clear hd;go_wp2_with fail
   go_region_law (first | (refine step_append_lies _ (by rfl) _ _ _ (by rfl) (w.heap.size+1+1) 9 i0 (.string ByteArray.empty) 1 16 Tryz.underlying23 HI.out.1 HI.out.2.1 HI.out.2.2.1 HI.out.2.2.2 rfl (by omega) v (List.replicate k zeros).length ((List.replicate k zeros).map Value.string) (by rfl) HO.out ⟨w2.heap.size,0,none⟩ 1 1 [.string zeros] (by rfl) rfl (World.news_of_block (heap_alloc_new w2 _)) (by intro u hu;simp at hu;subst hu;rfl) (by omega) (by rw [List.length_replicate];unfold maxLen;omega) (by rw [List.length_replicate];omega) (by simp<;>omega) (w2.heap.size+1) (by simp) ?_;intro g cap w3 aD aA aH aQ;obtain ⟨q4,q5⟩:=aG.out.grown aA;have aO:=hid aD;have aN:=hid aA;have aM:=hid aH;clear aD aA aH) | (refine XRf (by rfl) 26 #[] (by go_simp) (zeros_s _) ?_;rintro e w2 ⟨rfl,aC⟩;refine ⟨_,rfl,?_⟩;have q2:=(HD.out.drew.below aC).d0;have q3:=(HD.out.drew.below aC).fd0;have aR:=(HD.out.drew.below aC).sz;have aS:w.heap.size+1<w2.heap.size:=(by omega);have HO:=hid ((HD.out.drew.below aC).own.alloc (.cells #[.string zeros] 9));have aG:=hid ((HD.out.drew.below aC).alloc (.cells #[.string zeros] 9))))
   all_goals
    have aB:=aG.out.push aO.out aN.out aM.out (by simp);rw [List.length_replicate,show List.replicate k zeros++[zeros]=List.replicate (k+1) zeros by rw [List.replicate_succ']] at aB;have HP:=hid aB;clear aB;go_wp2;go_roundw
    case rel=>exact ⟨k+1,_,by omega,by go_num,HP.out⟩
    case measure=>simp [intOf];omega
  ·have aP:k=n:=by omega
   subst aP;have aF:=yUO hd.own;rw [List.length_replicate] at aF
   obtain ⟨g,cap,rfl,aV,aW,aE⟩:∃ g cap,v=.slice (some ⟨g,0,none⟩) k cap/\w.heap.size+1+1<=g/\g<wr.heap.size/\Row wr g ((List.replicate k zeros).map Value.string):=by
    rcases aF with h0 | h0
    ·omega
    ·exact h0
   clear aF;have HD:=hid hd.bel;have HR:=hid aE;clear aE;have q0:=hd.d0;have q1:=hd.d1;have q2:=hd.r0;have q3:=hd.r1;have q4:=hd.fr0;have q5:=hd.fr1;clear hd;go_wp2;refine bodyPost_ret (v:=Zoj (some ⟨g,0,none⟩) k cap none 0 0) (by simp [results,Tryz.results93,go_sem,q2,q3]) rfl ⟨g,cap,rfl,by omega,?_,?_⟩
   ·exact (HR.out.other _ (by show w.heap.size≠g;omega) _).other _ (by show w.heap.size≠g;omega) _
   ·exact (HD.out.setCell (Nat.le_refl _) _).setCell (Nat.le_refl _) _
end Go.Proofs.YtehbpeinnepdcaaGreatDoor
namespace Go.Proofs.YtehbpeinnepdcaaGreatDoor
abbrev nops (m:Nat):List Value:=List.replicate m (.slice none 0 0)
end Go.Proofs.YtehbpeinnepdcaaGreatDoor
namespace Go.Proofs.YtehbpeinnepdcaaGreatDoor.nw
open Go.RowKit
theorem new_s_no (n:Int) (w:World) (h:¬ (8<=n/\n<=200)) :
  Calls Tryz.prog 93 #[.int .i64 n] w fun e w'=>e=.returned (Zoj none 0 0 none 0 0)/\Below w.heap.size w w':=by
 by_cases h8:8<=n
 ·have h2:200<n:=by omega
  go_enter Tryz.func93,Tryz.ntmps93;go_wp2;exact bodyPost_ret (v:=Zoj none 0 0 none 0 0) (by simp [results,Tryz.results93,go_sem]) rfl ⟨rfl,zE5 _ _⟩
 ·go_enter Tryz.func93,Tryz.ntmps93
  go_wp2;exact bodyPost_ret (v:=Zoj none 0 0 none 0 0) (by simp [results,Tryz.results93,go_sem]) rfl ⟨rfl,zE5 _ _⟩
def newSS (n:Int):List ByteArray:=if 8<=n/\n<=200 then List.replicate n.toNat zeros else []
theorem new_s_any (n:Int) (w:World) :
  Calls Tryz.prog 93 #[.int .i64 n] w fun e w'=>∃ a c a' c',e=.returned (Zoj a (newSS n).length c a' 0 c')/\OwnS w' a ((newSS n).map Value.string)/\(∀ g,blk a (newSS n).length=some g->w.heap.size<=g)/\Below w.heap.size w w':=by
 by_cases h:8<=n/\n<=200
 ·obtain ⟨m,rfl⟩:∃ m:Nat,n=(m:Int):=⟨n.toNat,by omega⟩
  have e1:newSS (m:Int)=List.replicate m zeros:=by simp [newSS,h]
  rw [e1];refine (new_s m w (by omega) (by omega)).mono ?_;rintro e w' ⟨g,c,rfl,hg,hr,hb⟩
  exact ⟨_,c,none,0,by rw [List.length_replicate],.inr ⟨g,rfl,hr⟩,fun g' aA=>by rw [List.length_replicate,qdd g 0 m (by omega)] at aA;cases aA;exact hg,hb⟩
 ·have e1:newSS n=[]:=by simp [newSS,h]
  rw [e1];refine (new_s_no n w h).mono ?_;rintro e w' ⟨rfl,hb⟩;exact ⟨none,0,none,0,rfl,.inl rfl,(fun g' aA=>by cases aA),hb⟩
def worldV (wd:Int) (a:Option Addr) (n c:Nat) (a':Option Addr) (c':Nat) (p:Option Addr) (m cp:Nat):Value:=.agg #[.int .i64 wd,.slice a n c,.slice a' 0 c',.bool false,.int .i64 0,.int .i64 0,.int .i64 0,.int .i64 0,.int .i64 0,.int .i64 0,.int .i64 0,.int .i64 0,.int .i64 0,.slice none 0 0,.slice p m cp,.slice none 0 0]
def NwPost (w w':World) (e:Ending) (wd:Int) (ss:List ByteArray) (m:Nat):Prop:=∃ a c a' c' p cp,e=.returned (worldV wd a ss.length c a' c' p m cp)/\OwnS w' a (ss.map Value.string)/\OwnS w' p (nops m)/\(∀ g,blk a ss.length=some g->w.heap.size<=g/\∀ k,blk p m=some k->g≠k)/\(∀ g,blk p m=some g->w.heap.size<=g)/\Below w.heap.size w w'
theorem OwnS.setw {w:World} {a:Option Addr} {cs:List Value} (h:OwnS w a cs) (p:Addr) (hp:∀ g,a=some ⟨g,0,none⟩->cs≠[]->p.block≠g) (v:Value):OwnS (w.setCell p v) a cs:=by
 by_cases h0:cs=[]
 ·exact .inl h0
 ·obtain ⟨g,rfl,hr⟩:=h.resolve_left h0
  exact .inr ⟨g,rfl,hr.other p (hp g rfl h0) v⟩
theorem row_atw {w:World} {A:Array Value} {t:TypeId} {g:Nat} (hg:w.heap.size=g):Row (w.alloc (.cells A t)) g A.toList:=by subst hg;exact xER w A t
theorem nw_s_yes (n wd:Int) (w:World) (hn:8<=n/\n<=200) (h1:1<=wd/\wd<=8) :
  Calls Tryz.prog 70 #[.int .i64 n,.int .i64 wd] w fun e w'=>NwPost w w' e wd (newSS n) 1:=by
 have cK:decide (1<=wd/\wd<=8)=true:=decide_eq_true h1;have hd:decide (8<=n/\n<=200)=true:=decide_eq_true hn;obtain ⟨m,aJ⟩:∃ m:Nat,(newSS n).length=m:=⟨_,rfl⟩;have hm:m≠0:=by rw [<-aJ];unfold newSS;rw [if_pos hn];simp;omega
 have cL:¬ (m:Int)=0:=by omega
 have aH:=hid aJ;go_enter Tryz.func70,Tryz.ntmps70
 go_wp2_with (first | (go_at_call 93;refine (new_s_any n _).mono ?_;rintro e w1 ⟨a,c,a',c',rfl,bI,aI,aA⟩;rw [aJ] at aI ⊢;have bG:=hid bI;have bC:=hid aI;have cF:=hid (((Below.refl w.heap.size w).alloc (Nat.le_refl _) _).trans (aA.mono (by simp)));have cI:w.heap.size<w1.heap.size:=Nat.lt_of_lt_of_le (by simp) aA.size;have aK:w1.cell? ⟨w.heap.size,0,none⟩=some (.int .i64 0):=(aA.cell (p:=⟨w.heap.size,0,none⟩) (by simp<;>omega)).trans (by go_simp);have bQ:w1.frozen? ⟨w.heap.size,0,none⟩=false:=(aA.frozen (p:=⟨w.heap.size,0,none⟩) (by simp<;>omega)).trans (by go_simp);have aL:w1.cell? ⟨w.heap.size,1,none⟩=some (.slice none 0 0):=(aA.cell (p:=⟨w.heap.size,1,none⟩) (by simp<;>omega)).trans (by go_simp);have bU:w1.frozen? ⟨w.heap.size,1,none⟩=false:=(aA.frozen (p:=⟨w.heap.size,1,none⟩) (by simp<;>omega)).trans (by go_simp);have aM:w1.cell? ⟨w.heap.size,2,none⟩=some (.slice none 0 0):=(aA.cell (p:=⟨w.heap.size,2,none⟩) (by simp<;>omega)).trans (by go_simp);have bV:w1.frozen? ⟨w.heap.size,2,none⟩=false:=(aA.frozen (p:=⟨w.heap.size,2,none⟩) (by simp<;>omega)).trans (by go_simp);have aN:w1.cell? ⟨w.heap.size,3,none⟩=some (.bool false):=(aA.cell (p:=⟨w.heap.size,3,none⟩) (by simp<;>omega)).trans (by go_simp);have bW:w1.frozen? ⟨w.heap.size,3,none⟩=false:=(aA.frozen (p:=⟨w.heap.size,3,none⟩) (by simp<;>omega)).trans (by go_simp);have aO:w1.cell? ⟨w.heap.size,4,none⟩=some (.int .i64 0):=(aA.cell (p:=⟨w.heap.size,4,none⟩) (by simp<;>omega)).trans (by go_simp);have bY:w1.frozen? ⟨w.heap.size,4,none⟩=false:=(aA.frozen (p:=⟨w.heap.size,4,none⟩) (by simp<;>omega)).trans (by go_simp);have aP:w1.cell? ⟨w.heap.size,5,none⟩=some (.int .i64 0):=(aA.cell (p:=⟨w.heap.size,5,none⟩) (by simp<;>omega)).trans (by go_simp);have bZ:w1.frozen? ⟨w.heap.size,5,none⟩=false:=(aA.frozen (p:=⟨w.heap.size,5,none⟩) (by simp<;>omega)).trans (by go_simp);have aQ:w1.cell? ⟨w.heap.size,6,none⟩=some (.int .i64 0):=(aA.cell (p:=⟨w.heap.size,6,none⟩) (by simp<;>omega)).trans (by go_simp);have b7:w1.frozen? ⟨w.heap.size,6,none⟩=false:=(aA.frozen (p:=⟨w.heap.size,6,none⟩) (by simp<;>omega)).trans (by go_simp);have aR:w1.cell? ⟨w.heap.size,7,none⟩=some (.int .i64 0):=(aA.cell (p:=⟨w.heap.size,7,none⟩) (by simp<;>omega)).trans (by go_simp);have b8:w1.frozen? ⟨w.heap.size,7,none⟩=false:=(aA.frozen (p:=⟨w.heap.size,7,none⟩) (by simp<;>omega)).trans (by go_simp);have aS:w1.cell? ⟨w.heap.size,8,none⟩=some (.int .i64 0):=(aA.cell (p:=⟨w.heap.size,8,none⟩) (by simp<;>omega)).trans (by go_simp);have cC:w1.frozen? ⟨w.heap.size,8,none⟩=false:=(aA.frozen (p:=⟨w.heap.size,8,none⟩) (by simp<;>omega)).trans (by go_simp);have aT:w1.cell? ⟨w.heap.size,9,none⟩=some (.int .i64 0):=(aA.cell (p:=⟨w.heap.size,9,none⟩) (by simp<;>omega)).trans (by go_simp);have cE:w1.frozen? ⟨w.heap.size,9,none⟩=false:=(aA.frozen (p:=⟨w.heap.size,9,none⟩) (by simp<;>omega)).trans (by go_simp);have aB:w1.cell? ⟨w.heap.size,10,none⟩=some (.int .i64 0):=(aA.cell (p:=⟨w.heap.size,10,none⟩) (by simp<;>omega)).trans (by go_simp);have aU:w1.frozen? ⟨w.heap.size,10,none⟩=false:=(aA.frozen (p:=⟨w.heap.size,10,none⟩) (by simp<;>omega)).trans (by go_simp);have aC:w1.cell? ⟨w.heap.size,11,none⟩=some (.int .i64 0):=(aA.cell (p:=⟨w.heap.size,11,none⟩) (by simp<;>omega)).trans (by go_simp);have aV:w1.frozen? ⟨w.heap.size,11,none⟩=false:=(aA.frozen (p:=⟨w.heap.size,11,none⟩) (by simp<;>omega)).trans (by go_simp);have aD:w1.cell? ⟨w.heap.size,12,none⟩=some (.int .i64 0):=(aA.cell (p:=⟨w.heap.size,12,none⟩) (by simp<;>omega)).trans (by go_simp);have aW:w1.frozen? ⟨w.heap.size,12,none⟩=false:=(aA.frozen (p:=⟨w.heap.size,12,none⟩) (by simp<;>omega)).trans (by go_simp);have aE:w1.cell? ⟨w.heap.size,13,none⟩=some (.slice none 0 0):=(aA.cell (p:=⟨w.heap.size,13,none⟩) (by simp<;>omega)).trans (by go_simp);have aX:w1.frozen? ⟨w.heap.size,13,none⟩=false:=(aA.frozen (p:=⟨w.heap.size,13,none⟩) (by simp<;>omega)).trans (by go_simp);have aF:w1.cell? ⟨w.heap.size,14,none⟩=some (.slice none 0 0):=(aA.cell (p:=⟨w.heap.size,14,none⟩) (by simp<;>omega)).trans (by go_simp);have aY:w1.frozen? ⟨w.heap.size,14,none⟩=false:=(aA.frozen (p:=⟨w.heap.size,14,none⟩) (by simp<;>omega)).trans (by go_simp);have aG:w1.cell? ⟨w.heap.size,15,none⟩=some (.slice none 0 0):=(aA.cell (p:=⟨w.heap.size,15,none⟩) (by simp<;>omega)).trans (by go_simp);have aZ:w1.frozen? ⟨w.heap.size,15,none⟩=false:=(aA.frozen (p:=⟨w.heap.size,15,none⟩) (by simp<;>omega)).trans (by go_simp);clear aA bI aI) | (go_at_call 15;refine (X3C _ _).mono ?_;rw [cK];rintro e wz ⟨rfl,bJ⟩;rw [bJ];clear bJ wz))
 have cJ:=bG.out.lt m (fun h0=>qXV (by rw [aH.out];exact h0))
 have cH:∀ g,a=some ⟨g,0,none⟩->(newSS n).map Value.string≠[]->w.heap.size<g:=fun g hg bH=>by
  have:=bC.out g (by subst hg;exact qdd _ _ _ hm);simp at this;omega
 refine bodyPost_ret (v:=worldV wd a m c a' c' (some ⟨w1.heap.size+1,0,none⟩) 1 1) (by simp [results,Tryz.results70,go_sem,worldV,cI,aK,aL,aM,aN,aO,aP,aQ,aR,aS,aT,aB,aC,aD,aE,aF,aG]) rfl ⟨a,c,a',c',_,1,by rw [aH.out],?_,?_,?_,?_,?_⟩
 ·refine OwnS.below ?_ ((Below.refl _ _).alloc (Nat.le_refl _) _);refine OwnS.below ?_ ((Below.refl _ _).alloc (Nat.le_refl _) _)
  iterate 16 (refine OwnS.setw ?_ _ (fun g hg bH=>by have:=cH g hg bH;show w.heap.size≠g;omega) _)
  exact bG.out
 ·exact .inr ⟨w1.heap.size+1,rfl,row_atw (by simp)⟩
 ·intro g hg
  rw [aH.out] at hg;have e1:=bC.out g hg;have e2:=cJ g hg;simp at e1
  exact ⟨by omega,fun k hk=>by rw [qdd _ _ _ (by omega)] at hk;cases hk;omega⟩
 ·intro g hg
  rw [qdd _ _ _ (by omega)] at hg;cases hg;omega
 ·refine Below.alloc ?_ (by simp;omega) _;refine Below.alloc ?_ (by simp;omega) _
  iterate 16 (refine Below.setCell ?_ (by show w.heap.size<=w.heap.size;omega) _)
  exact cF.out
end Go.Proofs.YtehbpeinnepdcaaGreatDoor.nw
