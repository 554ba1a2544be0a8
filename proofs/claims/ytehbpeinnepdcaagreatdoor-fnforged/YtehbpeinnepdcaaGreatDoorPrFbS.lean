import Derived.Lib.AppendStr
import Derived.Test.YtehbpeinnepdcaaGreatDoorPrG40
set_option maxHeartbeats 16000000
namespace Go.Proofs.YtehbpeinnepdcaaGreatDoor
open Go.RowKit
set_option maxRecDepth 4000
set_option linter.unusedVariables false
theorem X0U {P:Program} {aE:Array Oper} {o:Oper} {a:Act} {w:World} {K:Act->World->Prop} {Q:Exit->Act->World->Prop} {E:Prop} (aH:o.guard=none) (sl x:Operand) (t u:TypeId)
  (ho:o.op=.call { callee:=.builtin .append,args:=#[sl,x],argTypes:=#[t,u] })
  (base:Nat) (e:TypeId) (i:TypeInfo) (ht:P.underlying t=some (.slice e)) (hu:P.underlying u=some .string) (hi:P.info? e=some i) (hz:i.zero=some (.int .u8 0))
  (aC:i.size=1) (aG:i.bytes=1)
  (v:Value) (n:Nat) (xs:List Value) (hs:a.eval sl=v) (aD:w.ownsRow base e 1 v n xs) (s:ByteArray) (hx:a.eval x=.string s)
  (aF:n+s.size<=maxLen) (aA:n+s.size<=140737488355328) (aB:base<=w.heap.size)
  (h:∀ v' w',w'.ownsRow base e 1 v' (n+s.size) (xs++Lib.strCells s)->w.grownBy w' v.ownBlock->K (a.put o.dst v') w') :
  if Region.wanted o (yielded aE a.tmps)=true then Oper.wp P o a w K Q else E:=by
 have hw:Region.wanted o (yielded aE a.tmps)=true:=by simp [Region.wanted,aH]
 rw [if_pos hw];obtain ⟨v',w',hr,h2,h3,h4⟩:=Lib.run_append_own_string (P:=P) w base t u o.type e i ht hu hi hz aC aG v n xs aD s aF aA aB;unfold Oper.wp execOp;simp only [ho,resolve,invoke,builtin,Sem.run_bind,Sem.run_pure,Result.andThen_ok,List.map_toArray,List.map_cons,List.map_nil,hs,hx,hr];exact h v' w' h2 h3
theorem infoByte:(Tryz.prog.info? 5).map (fun i=>(i.zero,i.size,i.bytes))=some (some (.int .u8 0),1,1):=by kernel_rfl
theorem xZH {P:Program} {e:TypeId} {z:Value} {size aA:Nat} (h:(P.info? e).map (fun i=>(i.zero,i.size,i.bytes))=some (some z,size,aA)):∃ i,P.info? e=some i/\i.zero=some z/\i.size=size/\i.bytes=aA:=by
 obtain ⟨i,hi,hh⟩:=Option.map_eq_some_iff.1 h;simp only [Prod.mk.injEq] at hh;exact ⟨i,hi,hh⟩
theorem ktx {W w w1:World} {e:TypeId} {size:Nat} {v:Value} {n B:Nat} {xs:List Value} (hb:Below B W w) (own:w.ownsRow B e size v n xs) (hg:w.grownBy w1 v.ownBlock) (hB:B<=w.heap.size):Below B W w1 :=
 hb.trans ⟨hg.os,hg.tape,hg.output,hg.size,fun k hk=>hg.block k (by omega) (fun he=>by have:=(own.lt k he.symm).1;omega)⟩
theorem qu6 {w:World} {base:Nat} {e:TypeId} {size:Nat} {v:Value} {n n':Nat} {xs aA:List Value} (h:w.ownsRow base e size v n xs) (hn:n=n') (hx:xs=aA):w.ownsRow base e size v n' aA:=by subst hn hx;exact h
def yBE (l:List Int):List Value:=l.map (Value.int .u8)
theorem k23 (s:ByteArray):Lib.strCells s=yBE (zFD s):=by simp [yBE,zFD,Lib.strCells]
theorem Zt3 (rs:List (ByteArray×ByteArray×Bool)) (h:∀ x∈rs,yO3 x=true):(rs.flatMap chN).length<=123*rs.length:=by have:=XEt rs h;unfold vGL at this;rwa [strOfNums_size] at this
theorem ksB (rs:List (ByteArray×ByteArray×Bool)) (k:Nat) (x d:ByteArray×ByteArray×Bool) (h:k<rs.length) (hx:x=rs.getD k d):(rs.take (k+1)).flatMap chN=(rs.take k).flatMap chN++chN x:=by
 rw [List.take_succ_eq_append_getElem h,List.flatMap_append];simp [List.getD,h] at hx;rw [hx];simp
theorem Qqx (a:Option Addr) (rs:List (ByteArray×ByteArray×Bool)) (c:Nat) (w:World) (h:Chs w a rs) (hl:rs.length<=1048576) (hs:∀ x∈rs,x.1.size<=1048576/\x.2.1.size<=1048576) :
  Calls Tryz.prog 67 #[.slice a rs.length c] w fun e w'=>e=.returned (.string (jvj rs))/\Below w.heap.size w w':=by
 unfold jvj
 cases hok:kpJ rs with
 | false =>
  simp only [Bool.false_eq_true,if_false];go_enter Tryz.func67,Tryz.ntmps67;go_wp2_with (go_at_call 92;refine (xly a rs c _ h hl hs).mono ?_;rw [hok];rintro e w2 ⟨rfl,aT⟩);go_ret;exact ⟨rfl,aT⟩
 | true =>
  simp only [if_true];obtain ⟨hn,aS⟩:=q4Z hok;have aQ:=hid aS;clear aS;obtain ⟨i1,cF,bV,bW,cK⟩:=xZH infoByte;have HI:=hid (And.intro cF (And.intro bV (And.intro bW cK)));clear cF bV bW cK;go_enter Tryz.func67,Tryz.ntmps67;go_wp2_with (go_at_call 92;refine (xly a rs c _ h hl hs).mono ?_;rw [hok];rintro e w2 ⟨rfl,aT⟩);go_loopw [3,4] (fun y i wr=>∃ k:Nat,k<=rs.length/\i=.int .i64 k/\wr.ownsRow w.heap.size 5 1 y ((rs.take k).flatMap chN).length (yBE ((rs.take k).flatMap chN))/\Below w.heap.size w wr) (fun _ i _=>rs.length-(intOf i).toNat)
  case atStart=>exact ⟨0,Nat.zero_le _,rfl,World.ownsRow_lit _ #[] 0 aT.size (by simp) (by simp),aT.alloc aT.size _⟩
  case round =>
   obtain ⟨k,hk,rfl,aE,aF⟩:=hrel
   by_cases aZ:k<rs.length
   ·have aU:=h.below aF
    obtain ⟨b,o,s0,s1,g2,rfl,aY,cE,cQ,HS⟩:=aU.at aZ;have lb:b<wr.heap.size:=by have:=World.block_lt_of_cell? wr _ aY;simpa using this
    have aK:b<w.heap.size:=by
     rcases h with h | ⟨b',o',h1,h2,_⟩
     ·subst h;simp at aZ
     ·cases h1;exact h2
    have hm:Hid ((s0,s1,g2)∈rs):=by show _∈_;rw [HS.out];simp [List.getD,aZ]
    have bH:=aQ.out _ hm.out;have bV:s0.size<=255:=by simp [yO3,kOk,vOk] at bH;omega
    have bW:s1.size<=255:=by simp [yO3,kOk,vOk] at bH;omega
    have dK:IntKind.u8.wrap (s0.size:Int)=(s0.size:Int):=by simp [IntKind.wrap,IntKind.bits,IntKind.signed];omega
    have dL:IntKind.u8.wrap (s1.size:Int)=(s1.size:Int):=by simp [IntKind.wrap,IntKind.bits,IntKind.signed];omega
    have cM:=hid (Zt3 (rs.take k) (fun x hx=>aQ.out x (List.mem_of_mem_take hx)));have cC:=hid (ksB rs k _ _ aZ HS.out);obtain ⟨n,bQ⟩:∃ n,n=((rs.take k).flatMap chN).length:=⟨_,rfl⟩;have dI:n<=100000:=by have:=cM.out;rw [List.length_take] at this;omega
    have cT:(k:Int)<(rs.length:Int):=by omega
    have dH:(0:Int)<=(k:Int):=by omega
    have cJ:=aF.size;have HB:=hid aF;rw [<-bQ] at aE;have bZ:=hid bQ;have aR:=hid aE;clear aE aF bH bQ aU
    cases g2 with
    | true =>
     have HO:=hid (aR.out.alloc (.cells #[.int .u8 1,.int .u8 (s0.size:Int)] 5));go_wp2_with fail
     go_region_law (first | (have _g:=qc;refine X0U (by rfl) _ _ _ _ (by rfl) w.heap.size 5 i1 Tryz.underlying22 Tryz.underlying9 HI.out.1 HI.out.2.1 HI.out.2.2.1 HI.out.2.2.2 _ (n+2) _ (by rfl) aP.out s0 (by rfl) (by unfold maxLen;omega) (by omega) aW ?_;intro v5 w5 aD aB;have aX:=hid aD;have aN:=hid (ktx aI.out aP.out aB aW);have cH:=aN.out.size;clear aD aB) | (refine SAL _ (by rfl) _ _ _ (by rfl) w.heap.size Tryz.underlying22 HI.out rfl (by omega) u3 n (yBE ((rs.take k).flatMap chN)) (by rfl) HO.out ⟨wr.heap.size,0,none⟩ 2 2 [.int .u8 1,.int .u8 (s0.size:Int)] (by rfl) rfl (World.news_of_block (heap_alloc_new wr _)) (by intro u hu;simp at hu;rcases hu with rfl | rfl<;>rfl) (by simp<;>omega) (wr.heap.size+1) (by simp) ?_;intro g cap w3 aC aA aO bI;have aP:=hid aC;have aI:=hid (ktx (HB.out.alloc cJ _).drew HO.out aA (by simp<;>omega));have qc:w3.cell? ⟨b,o+k*3,none⟩=some (.string s0):=(aI.out.cell (p:=⟨b,o+k*3,none⟩) aK).trans ((HB.out.cell (p:=⟨b,o+k*3,none⟩) aK).symm.trans aY);have aW:=aI.out.size;clear aC aA aO))
     all_goals
      go_wp2;refine ⟨⟨k+1,by omega,by go_num,?_,aN.out⟩,by simp [intOf];omega⟩;rw [cC.out];have e:=aX.out;exact qu6 e (by rw [bZ.out];simp [chN,vgz];omega) (by rw [k23];simp [chN,yBE])
    | false =>
     have HO:=hid (aR.out.alloc (.cells #[.int .u8 0,.int .u8 (s0.size:Int)] 5));go_wp2_with fail
     go_region_law (first | (have _g:=qc;refine X0U (by rfl) _ _ _ _ (by rfl) w.heap.size 5 i1 Tryz.underlying22 Tryz.underlying9 HI.out.1 HI.out.2.1 HI.out.2.2.1 HI.out.2.2.2 _ (n+2) _ (by rfl) aP.out s0 (by rfl) (by unfold maxLen;omega) (by omega) aW ?_;intro v5 w5 aD aB;have aX:=hid aD;have aN:=hid (ktx aI.out aP.out aB aW);have cH:=aN.out.size;clear aD aB) | (refine SAL _ (by rfl) _ _ _ (by rfl) w.heap.size Tryz.underlying22 HI.out rfl (by omega) u3 n (yBE ((rs.take k).flatMap chN)) (by rfl) HO.out ⟨wr.heap.size,0,none⟩ 2 2 [.int .u8 0,.int .u8 (s0.size:Int)] (by rfl) rfl (World.news_of_block (heap_alloc_new wr _)) (by intro u hu;simp at hu;rcases hu with rfl | rfl<;>rfl) (by simp<;>omega) (wr.heap.size+1) (by simp) ?_;intro g cap w3 aC aA aO bI;have aP:=hid aC;have aI:=hid (ktx (HB.out.alloc cJ _).drew HO.out aA (by simp<;>omega));have qc:w3.cell? ⟨b,o+k*3,none⟩=some (.string s0):=(aI.out.cell (p:=⟨b,o+k*3,none⟩) aK).trans ((HB.out.cell (p:=⟨b,o+k*3,none⟩) aK).symm.trans aY);have aW:=aI.out.size;clear aC aA aO))
     all_goals
      have cW:w5.cell? ⟨b,o+k*3+1,none⟩=some (.string s1):=(aN.out.cell (p:=⟨b,o+k*3+1,none⟩) aK).trans ((HB.out.cell (p:=⟨b,o+k*3+1,none⟩) aK).symm.trans cE);have dM:b<w5.heap.size:=by omega
      obtain ⟨n5,bJ⟩:∃ m,m=n+2+s0.size:=⟨_,rfl⟩;rw [<-bJ] at aX;have cV:n5<=200000:=by omega
      have cN:=hid bJ;have b7:=hid (aX.out.alloc (.cells #[.int .u8 (s1.size:Int)] 5));clear qc aY cE cQ aP aI bJ;go_wp2_with fail
      go_region_law (first | (have _g:=qd;refine X0U (by rfl) _ _ _ _ (by rfl) w.heap.size 5 i1 Tryz.underlying22 Tryz.underlying9 HI.out.1 HI.out.2.1 HI.out.2.2.1 HI.out.2.2.2 _ (n5+1) _ (by rfl) b8.out s1 (by rfl) (by unfold maxLen;omega) (by omega) cI ?_;intro v9 w9 aM aH;have cO:=hid aM;have bY:=hid (ktx bC.out b8.out aH cI);have dJ:=bY.out.size;clear aM aH) | (refine SAL _ (by rfl) _ _ _ (by rfl) w.heap.size Tryz.underlying22 HI.out rfl (by omega) v5 n5 _ (by rfl) b7.out ⟨w5.heap.size,0,none⟩ 1 1 [.int .u8 (s1.size:Int)] (by rfl) rfl (World.news_of_block (heap_alloc_new w5 _)) (by intro u hu;simp at hu;subst hu;rfl) (by simp<;>omega) (w5.heap.size+1) (by simp) ?_;intro g7 cP w7 aL aG bG cU;have b8:=hid aL;have bC:=hid (ktx (aN.out.alloc cH _).drew b7.out aG (by simp<;>omega));have qd:w7.cell? ⟨b,o+k*3+1,none⟩=some (.string s1):=(bC.out.cell (p:=⟨b,o+k*3+1,none⟩) aK).trans ((aN.out.cell (p:=⟨b,o+k*3+1,none⟩) aK).symm.trans cW);have cI:=bC.out.size;clear aL aG bG))
      all_goals
       go_wp2;refine ⟨⟨k+1,by omega,by go_num,?_,bY.out⟩,by simp [intOf];omega⟩;rw [cC.out];have e:=cO.out;exact qu6 e (by rw [cN.out,bZ.out];simp [chN,vgz];omega) (by rw [k23,k23];simp [chN,yBE])
   ·have cS:k=rs.length:=by omega
    subst cS;rw [List.take_length] at aE
    have bU:0<(rs.flatMap chN).length:=by
     match rs,hn with
     | x::r,_=>simp [chN];split<;>simp<;>omega
    obtain ⟨L,HL⟩:∃ L,Hid (L=rs.flatMap chN):=⟨_,hid rfl⟩;have cL:Hid (vGL rs=strOfNums L):=by show _=_;rw [HL.out];rfl
    rw [<-HL.out] at aE bU;rcases yUO aE with ⟨_,h0⟩ | ⟨g,cap,rfl,cZ,dE,aV⟩
    ·omega
    ·have aJ:∀ i,i<L.length->wr.cell? ⟨g,0+i,none⟩=some (.int .u8 (L.getD i 0)):=fun i hi=>by
      rw [Nat.zero_add];refine aV.cell i _ ?_;unfold yBE;rw [List.getElem?_map,List.getElem?_eq_getElem hi];simp [List.getD,hi]
     have cY:=run_convert_bytes_arg (P:=Tryz.prog) wr 22 5 Tryz.underlying22 Tryz.underlying5 g 0 L.length cap L rfl aJ 9 Tryz.underlying9;clear aV aE aJ;go_wp2;go_ret;exact ⟨by rw [cL.out];rfl,aF⟩
end Go.Proofs.YtehbpeinnepdcaaGreatDoor
