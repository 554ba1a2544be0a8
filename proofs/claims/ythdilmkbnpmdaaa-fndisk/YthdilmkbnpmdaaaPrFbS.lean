import Derived.Lib.AppendStr
import Derived.Test.YthdilmkbnpmdaaaPrG35
import Derived.Test.YthdilmkbnpmdaaaPrG39
set_option maxHeartbeats 16000000
namespace Go.Proofs.Ythdilmkbnpmdaaa
open Go.RowKit
set_option maxRecDepth 4000
set_option linter.unusedVariables false
theorem step_append_string {P:Program} {ops:Array Oper} {o:Oper} {a:Act} {w:World} {K:Act->World->Prop} {Q:Exit->Act->World->Prop} {E:Prop} (hgd:o.guard=none) (sl x:Operand) (t u:TypeId)
  (ho:o.op=.call { callee:=.builtin .append,args:=#[sl,x],argTypes:=#[t,u] })
  (base:Nat) (e:TypeId) (i:TypeInfo) (ht:P.underlying t=some (.slice e)) (hu:P.underlying u=some .string) (hi:P.info? e=some i) (hz:i.zero=some (.int .u8 0))
  (hsize:i.size=1) (hby:i.bytes=1)
  (v:Value) (n:Nat) (xs:List Value) (hs:a.eval sl=v) (hown:w.ownsRow base e 1 v n xs) (s:ByteArray) (hx:a.eval x=.string s)
  (h63:n+s.size<=maxLen) (hbytes:n+s.size<=140737488355328) (hbase:base<=w.heap.size)
  (h:∀ v' w',w'.ownsRow base e 1 v' (n+s.size) (xs++Lib.strCells s)->w.grownBy w' v.ownBlock->K (a.put o.dst v') w') :
  if Region.wanted o (yielded ops a.tmps)=true then Oper.wp P o a w K Q else E:=by
 have hw:Region.wanted o (yielded ops a.tmps)=true:=by simp [Region.wanted,hgd]
 rw [if_pos hw]
 obtain ⟨v',w',hr,h2,h3,h4⟩:=Lib.run_append_own_string (P:=P) w base t u o.type e i ht hu hi hz hsize hby v n xs hown s h63 hbytes hbase
 unfold Oper.wp execOp
 simp only [ho,resolve,invoke,builtin,Sem.run_bind,Sem.run_pure,Result.andThen_ok,List.map_toArray,List.map_cons,List.map_nil,hs,hx,hr]
 exact h v' w' h2 h3
theorem infoByte:(Try.prog.info? 5).map (fun i=>(i.zero,i.size,i.bytes))=some (some (.int .u8 0),1,1):=by kernel_rfl
theorem info_parts'' {P:Program} {e:TypeId} {z:Value} {size bytes:Nat} (h:(P.info? e).map (fun i=>(i.zero,i.size,i.bytes))=some (some z,size,bytes)):∃ i,P.info? e=some i/\i.zero=some z/\i.size=size/\i.bytes=bytes:=by
 obtain ⟨i,hi,hh⟩:=Option.map_eq_some_iff.1 h
 simp only [Prod.mk.injEq] at hh
 exact ⟨i,hi,hh⟩
theorem below_grown' {W w w1:World} {e:TypeId} {size:Nat} {v:Value} {n B:Nat} {xs:List Value} (hb:Below B W w) (own:w.ownsRow B e size v n xs) (hg:w.grownBy w1 v.ownBlock) (hB:B<=w.heap.size):Below B W w1 :=
 hb.trans ⟨hg.os,hg.tape,hg.output,hg.size,fun k hk=>hg.block k (by omega) (fun he=>by have:=(own.lt k he.symm).1;omega)⟩
theorem own_len {w:World} {base:Nat} {e:TypeId} {size:Nat} {v:Value} {n n':Nat} {xs xs':List Value} (h:w.ownsRow base e size v n xs) (hn:n=n') (hx:xs=xs'):w.ownsRow base e size v n' xs':=by subst hn hx;exact h
def byteVs (l:List Int):List Value:=l.map (Value.int .u8)
theorem byteVs_str (s:ByteArray):Lib.strCells s=byteVs (nums s):=by simp [byteVs,nums,Lib.strCells]
theorem chNs_len (rs:List (ByteArray×ByteArray×Bool)) (h:∀ x∈rs,chOk x=true):(rs.flatMap chN).length<=123*rs.length:=by have:=bForm_size rs h;unfold bForm at this;rwa [strOfNums_size] at this
theorem chNs_succ (rs:List (ByteArray×ByteArray×Bool)) (k:Nat) (x d:ByteArray×ByteArray×Bool) (h:k<rs.length) (hx:x=rs.getD k d):(rs.take (k+1)).flatMap chN=(rs.take k).flatMap chN++chN x:=by
 rw [List.take_succ_eq_append_getElem h,List.flatMap_append]
 simp [List.getD,h] at hx
 rw [hx];simp
theorem formbatch_s (a:Option Addr) (rs:List (ByteArray×ByteArray×Bool)) (c:Nat) (w:World) (h:Chs w a rs) (hl:rs.length<=1048576) (hs:∀ x∈rs,x.1.size<=1048576/\x.2.1.size<=1048576) :
  Calls Try.prog 57 #[.slice a rs.length c] w fun e w'=>e=.returned (.string (bOut rs))/\Below w.heap.size w w':=by
 unfold bOut
 cases hok:batchOk rs with
 | false =>
  simp only [Bool.false_eq_true,if_false]
  go_enter Try.func57,Try.ntmps57
  go_wp2_with (go_at_call 52;refine (vbatch_s a rs c _ h hl hs).mono ?_;rw [hok];rintro e w2 ⟨rfl,hb2⟩)
  go_ret
  exact ⟨rfl,hb2⟩
 | true =>
  simp only [if_true]
  obtain ⟨hn,hall⟩:=batchOk_of hok
  have HALL:=hid hall
  clear hall
  obtain ⟨i1,hi0,hz0,hz1,hz2⟩:=info_parts'' infoByte
  have HI:=hid (And.intro hi0 (And.intro hz0 (And.intro hz1 hz2)))
  clear hi0 hz0 hz1 hz2
  go_enter Try.func57,Try.ntmps57
  go_wp2_with (go_at_call 52;refine (vbatch_s a rs c _ h hl hs).mono ?_;rw [hok];rintro e w2 ⟨rfl,hb2⟩)
  go_loopw [3,4] (fun y i wr=>∃ k:Nat,k<=rs.length/\i=.int .i64 k/\wr.ownsRow w.heap.size 5 1 y ((rs.take k).flatMap chN).length (byteVs ((rs.take k).flatMap chN))/\Below w.heap.size w wr) (fun _ i _=>rs.length-(intOf i).toNat)
  case atStart=>exact ⟨0,Nat.zero_le _,rfl,World.ownsRow_lit _ #[] 0 hb2.size (by simp) (by simp),hb2.alloc hb2.size _⟩
  case round =>
   obtain ⟨k,hk,rfl,hown,hbel⟩:=hrel
   by_cases hlt:k<rs.length
   ·have hchs:=h.below hbel
    obtain ⟨b,o,s0,s1,g2,rfl,hc0,hc1,hc2,HS⟩:=hchs.at hlt
    have lb:b<wr.heap.size:=by have:=World.block_lt_of_cell? wr _ hc0;simpa using this
    have hlb:b<w.heap.size:=by
     rcases h with h | ⟨b',o',h1,h2,_⟩
     ·subst h;simp at hlt
     ·cases h1;exact h2
    have hm:Hid ((s0,s1,g2)∈rs):=by show _∈_;rw [HS.out];simp [List.getD,hlt]
    have hco:=HALL.out _ hm.out
    have hz0:s0.size<=255:=by simp [chOk,kOk,vOk] at hco;omega
    have hz1:s1.size<=255:=by simp [chOk,kOk,vOk] at hco;omega
    have hw0:IntKind.u8.wrap (s0.size:Int)=(s0.size:Int):=by simp [IntKind.wrap,IntKind.bits,IntKind.signed];omega
    have hw1:IntKind.u8.wrap (s1.size:Int)=(s1.size:Int):=by simp [IntKind.wrap,IntKind.bits,IntKind.signed];omega
    have HBS:=hid (chNs_len (rs.take k) (fun x hx=>HALL.out x (List.mem_of_mem_take hx)))
    have HST:=hid (chNs_succ rs k _ _ hlt HS.out)
    obtain ⟨n,hnn⟩:∃ n,n=((rs.take k).flatMap chN).length:=⟨_,rfl⟩
    have hnb:n<=100000:=by have:=HBS.out;rw [List.length_take] at this;omega
    have hlt':(k:Int)<(rs.length:Int):=by omega
    have hk0:(0:Int)<=(k:Int):=by omega
    have hsz:=hbel.size
    have HB:=hid hbel
    rw [<-hnn] at hown
    have HNN:=hid hnn
    have HOWN:=hid hown
    clear hown hbel hco hnn hchs
    cases g2 with
    | true =>
     have HO:=hid (HOWN.out.alloc (.cells #[.int .u8 1,.int .u8 (s0.size:Int)] 5))
     go_wp2_with fail
     go_region_law (first | (have _g:=qc;refine step_append_string (by rfl) _ _ _ _ (by rfl) w.heap.size 5 i1 Try.underlying22 Try.underlying9 HI.out.1 HI.out.2.1 HI.out.2.2.1 HI.out.2.2.2 _ (n+2) _ (by rfl) HO3.out s0 (by rfl) (by unfold maxLen;omega) (by omega) hs3 ?_;intro v5 w5 hown5 hgrow5;have HO5:=hid hown5;have HB5:=hid (below_grown' HB3.out HO3.out hgrow5 hs3);have hs5:=HB5.out.size;clear hown5 hgrow5) | (refine SAL _ (by rfl) _ _ _ (by rfl) w.heap.size Try.underlying22 HI.out rfl (by omega) u3 n (byteVs ((rs.take k).flatMap chN)) (by rfl) HO.out ⟨wr.heap.size,0,none⟩ 2 2 [.int .u8 1,.int .u8 (s0.size:Int)] (by rfl) rfl (World.news_of_block (heap_alloc_new wr _)) (by intro u hu;simp at hu;rcases hu with rfl | rfl<;>rfl) (by simp<;>omega) (wr.heap.size+1) (by simp) ?_;intro g cap w3 hown3 hgrow3 hat3 hlt3;have HO3:=hid hown3;have HB3:=hid (below_grown' (HB.out.alloc hsz _).drew HO.out hgrow3 (by simp<;>omega));have qc:w3.cell? ⟨b,o+k*3,none⟩=some (.string s0):=(HB3.out.cell (p:=⟨b,o+k*3,none⟩) hlb).trans ((HB.out.cell (p:=⟨b,o+k*3,none⟩) hlb).symm.trans hc0);have hs3:=HB3.out.size;clear hown3 hgrow3 hat3))
     all_goals
      go_wp2
      refine ⟨⟨k+1,by omega,by go_num,?_,HB5.out⟩,by simp [intOf];omega⟩
      rw [HST.out]
      have e:=HO5.out
      exact own_len e (by rw [HNN.out];simp [chN,nums_length];omega) (by rw [byteVs_str];simp [chN,byteVs])
    | false =>
     have HO:=hid (HOWN.out.alloc (.cells #[.int .u8 0,.int .u8 (s0.size:Int)] 5))
     go_wp2_with fail
     go_region_law (first | (have _g:=qc;refine step_append_string (by rfl) _ _ _ _ (by rfl) w.heap.size 5 i1 Try.underlying22 Try.underlying9 HI.out.1 HI.out.2.1 HI.out.2.2.1 HI.out.2.2.2 _ (n+2) _ (by rfl) HO3.out s0 (by rfl) (by unfold maxLen;omega) (by omega) hs3 ?_;intro v5 w5 hown5 hgrow5;have HO5:=hid hown5;have HB5:=hid (below_grown' HB3.out HO3.out hgrow5 hs3);have hs5:=HB5.out.size;clear hown5 hgrow5) | (refine SAL _ (by rfl) _ _ _ (by rfl) w.heap.size Try.underlying22 HI.out rfl (by omega) u3 n (byteVs ((rs.take k).flatMap chN)) (by rfl) HO.out ⟨wr.heap.size,0,none⟩ 2 2 [.int .u8 0,.int .u8 (s0.size:Int)] (by rfl) rfl (World.news_of_block (heap_alloc_new wr _)) (by intro u hu;simp at hu;rcases hu with rfl | rfl<;>rfl) (by simp<;>omega) (wr.heap.size+1) (by simp) ?_;intro g cap w3 hown3 hgrow3 hat3 hlt3;have HO3:=hid hown3;have HB3:=hid (below_grown' (HB.out.alloc hsz _).drew HO.out hgrow3 (by simp<;>omega));have qc:w3.cell? ⟨b,o+k*3,none⟩=some (.string s0):=(HB3.out.cell (p:=⟨b,o+k*3,none⟩) hlb).trans ((HB.out.cell (p:=⟨b,o+k*3,none⟩) hlb).symm.trans hc0);have hs3:=HB3.out.size;clear hown3 hgrow3 hat3))
     all_goals
      have q51:w5.cell? ⟨b,o+k*3+1,none⟩=some (.string s1):=(HB5.out.cell (p:=⟨b,o+k*3+1,none⟩) hlb).trans ((HB.out.cell (p:=⟨b,o+k*3+1,none⟩) hlb).symm.trans hc1)
      have lb5:b<w5.heap.size:=by omega
      obtain ⟨n5,hn5⟩:∃ m,m=n+2+s0.size:=⟨_,rfl⟩
      rw [<-hn5] at HO5
      have hn5b:n5<=200000:=by omega
      have HN5:=hid hn5
      have HO6:=hid (HO5.out.alloc (.cells #[.int .u8 (s1.size:Int)] 5))
      clear qc hc0 hc1 hc2 HO3 HB3 hn5
      go_wp2_with fail
      go_region_law (first | (have _g:=qd;refine step_append_string (by rfl) _ _ _ _ (by rfl) w.heap.size 5 i1 Try.underlying22 Try.underlying9 HI.out.1 HI.out.2.1 HI.out.2.2.1 HI.out.2.2.2 _ (n5+1) _ (by rfl) HO7.out s1 (by rfl) (by unfold maxLen;omega) (by omega) hs7 ?_;intro v9 w9 hown9 hgrow9;have HO9:=hid hown9;have HB9:=hid (below_grown' HB7.out HO7.out hgrow9 hs7);have hs9:=HB9.out.size;clear hown9 hgrow9) | (refine SAL _ (by rfl) _ _ _ (by rfl) w.heap.size Try.underlying22 HI.out rfl (by omega) v5 n5 _ (by rfl) HO6.out ⟨w5.heap.size,0,none⟩ 1 1 [.int .u8 (s1.size:Int)] (by rfl) rfl (World.news_of_block (heap_alloc_new w5 _)) (by intro u hu;simp at hu;subst hu;rfl) (by simp<;>omega) (w5.heap.size+1) (by simp) ?_;intro g7 cap7 w7 hown7 hgrow7 hat7 hlt7;have HO7:=hid hown7;have HB7:=hid (below_grown' (HB5.out.alloc hs5 _).drew HO6.out hgrow7 (by simp<;>omega));have qd:w7.cell? ⟨b,o+k*3+1,none⟩=some (.string s1):=(HB7.out.cell (p:=⟨b,o+k*3+1,none⟩) hlb).trans ((HB5.out.cell (p:=⟨b,o+k*3+1,none⟩) hlb).symm.trans q51);have hs7:=HB7.out.size;clear hown7 hgrow7 hat7))
      all_goals
       go_wp2
       refine ⟨⟨k+1,by omega,by go_num,?_,HB9.out⟩,by simp [intOf];omega⟩
       rw [HST.out]
       have e:=HO9.out
       exact own_len e (by rw [HN5.out,HNN.out];simp [chN,nums_length];omega) (by rw [byteVs_str,byteVs_str];simp [chN,byteVs])
   ·have hkl:k=rs.length:=by omega
    subst hkl
    rw [List.take_length] at hown
    have hpos:0<(rs.flatMap chN).length:=by
     match rs,hn with
     | x::r,_=>simp [chN];split<;>simp<;>omega
    obtain ⟨L,HL⟩:∃ L,Hid (L=rs.flatMap chN):=⟨_,hid rfl⟩
    have HBF:Hid (bForm rs=strOfNums L):=by show _=_;rw [HL.out];rfl
    rw [<-HL.out] at hown hpos
    rcases owns_forms hown with ⟨_,h0⟩ | ⟨g,cap,rfl,hg1,hg2,hrow⟩
    ·omega
    ·have hcell:∀ i,i<L.length->wr.cell? ⟨g,0+i,none⟩=some (.int .u8 (L.getD i 0)):=fun i hi=>by
      rw [Nat.zero_add]
      refine hrow.cell i _ ?_
      unfold byteVs
      rw [List.getElem?_map,List.getElem?_eq_getElem hi]
      simp [List.getD,hi]
     have hcv:=run_convert_bytes_arg (P:=Try.prog) wr 22 5 Try.underlying22 Try.underlying5 g 0 L.length cap L rfl hcell 9 Try.underlying9
     clear hrow hown hcell
     go_wp2
     go_ret
     exact ⟨by rw [HBF.out];rfl,hbel⟩
end Go.Proofs.Ythdilmkbnpmdaaa
