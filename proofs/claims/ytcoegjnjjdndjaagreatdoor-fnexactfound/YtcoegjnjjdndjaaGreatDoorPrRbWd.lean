import Derived.Test.YtcoegjnjjdndjaaGreatDoorPrG39
namespace Go.Proofs.YtcoegjnjjdndjaaGreatDoor
open Go.RowKit
set_option maxRecDepth 4000
set_option linter.unusedVariables false
set_option linter.unusedSimpArgs false
set_option maxHeartbeats 1000000 in
theorem rbchange_s (r:ByteArray) (w:World) (hs:r.size<=1048576) (h0:0<r.size) (hb:b0 r=0) (k m:ByteArray) (hp:pc (r.extract 1 r.size)=some (k,m)) (hmz:m.size<=1048576) (v m':ByteArray) (hq:pc m=some (v,m')):Calls Tryz.prog 139 #[.string r] w fun e w'=>e=.returned (.tuple #[.agg #[.string k,.string v,.bool false],.string m',.bool true])/\Below w.heap.size w w':=by
 have hg:=get0 r h0
 rw [hb] at hg
 have HP:=hid (pcV_some hp)
 have HQ:=hid (pcV_some hq)
 have hsz:(r.extract 1 r.size).size<=1048576:=by simp only [ByteArray.size_extract];omega
 have hszm:m.size<=1048576:=hmz
 clear hp hb hq
 go_enter Tryz.func139,Tryz.ntmps139
 go_wp2_with (first | (have _g:=HB2;go_at_call 155;refine (sized_take_i _ _ hszm).mono ?_;rw [HQ.out];rintro e w3 ⟨rfl,hb3⟩;have hsw3:=hb3.size;simp only [World.size_alloc,World.size_setCell] at hsw3;have d0:w3.cell? ⟨w.heap.size,0,none⟩=some (.string k):=(hb3.cell (p:=⟨w.heap.size,0,none⟩) (by simp<;>omega)).trans (by go_simp);have df0:w3.frozen? ⟨w.heap.size,0,none⟩=false:=(hb3.frozen (p:=⟨w.heap.size,0,none⟩) (by simp<;>omega)).trans (by go_simp);have d1:w3.cell? ⟨w.heap.size,1,none⟩=some (.string ⟨#[]⟩):=(hb3.cell (p:=⟨w.heap.size,1,none⟩) (by simp<;>omega)).trans (by go_simp);have df1:w3.frozen? ⟨w.heap.size,1,none⟩=false:=(hb3.frozen (p:=⟨w.heap.size,1,none⟩) (by simp<;>omega)).trans (by go_simp);have d2:w3.cell? ⟨w.heap.size,2,none⟩=some (.bool false):=(hb3.cell (p:=⟨w.heap.size,2,none⟩) (by simp<;>omega)).trans (by go_simp);have df2:w3.frozen? ⟨w.heap.size,2,none⟩=false:=(hb3.frozen (p:=⟨w.heap.size,2,none⟩) (by simp<;>omega)).trans (by go_simp);have HB3:=hid ((HB2.out.setCell (p:=⟨w.heap.size,0,none⟩) (Nat.le_refl _) (.string k)).trans (hb3.mono (by simp<;>omega)));clear hb3 c0 c1 c2 cf0 cf1 cf2) | (go_at_call 155;refine (sized_take_i _ _ hsz).mono ?_;rw [HP.out];rintro e w2 ⟨rfl,hb2⟩;have hsw2:=hb2.size;simp only [World.size_alloc,World.size_setCell] at hsw2;have c0:w2.cell? ⟨w.heap.size,0,none⟩=some (.string ⟨#[]⟩):=(hb2.cell (p:=⟨w.heap.size,0,none⟩) (by simp<;>omega)).trans (by go_simp);have cf0:w2.frozen? ⟨w.heap.size,0,none⟩=false:=(hb2.frozen (p:=⟨w.heap.size,0,none⟩) (by simp<;>omega)).trans (by go_simp);have c1:w2.cell? ⟨w.heap.size,1,none⟩=some (.string ⟨#[]⟩):=(hb2.cell (p:=⟨w.heap.size,1,none⟩) (by simp<;>omega)).trans (by go_simp);have cf1:w2.frozen? ⟨w.heap.size,1,none⟩=false:=(hb2.frozen (p:=⟨w.heap.size,1,none⟩) (by simp<;>omega)).trans (by go_simp);have c2:w2.cell? ⟨w.heap.size,2,none⟩=some (.bool false):=(hb2.cell (p:=⟨w.heap.size,2,none⟩) (by simp<;>omega)).trans (by go_simp);have cf2:w2.frozen? ⟨w.heap.size,2,none⟩=false:=(hb2.frozen (p:=⟨w.heap.size,2,none⟩) (by simp<;>omega)).trans (by go_simp);have HB2:=hid (bs0 hb2);clear hb2))
 refine bodyPost_ret (v:=.tuple #[.agg #[.string k,.string v,.bool false],.string m',.bool true]) (by simp [results,Tryz.results139,go_sem,d0,d1,d2]) rfl ⟨rfl,?_⟩
 (first | exact (((HB3.out.setCell (Nat.le_refl _) _).setCell (Nat.le_refl _) _).setCell (Nat.le_refl _) _) | exact ((((HB3.out.setCell (Nat.le_refl _) _).setCell (Nat.le_refl _) _).setCell (Nat.le_refl _) _).setCell (Nat.le_refl _) _) | exact (((((HB3.out.setCell (Nat.le_refl _) _).setCell (Nat.le_refl _) _).setCell (Nat.le_refl _) _).setCell (Nat.le_refl _) _).setCell (Nat.le_refl _) _) | exact ((((((HB3.out.setCell (Nat.le_refl _) _).setCell (Nat.le_refl _) _).setCell (Nat.le_refl _) _).setCell (Nat.le_refl _) _).setCell (Nat.le_refl _) _).setCell (Nat.le_refl _) _) | exact (((((((HB3.out.setCell (Nat.le_refl _) _).setCell (Nat.le_refl _) _).setCell (Nat.le_refl _) _).setCell (Nat.le_refl _) _).setCell (Nat.le_refl _) _).setCell (Nat.le_refl _) _).setCell (Nat.le_refl _) _))
end Go.Proofs.YtcoegjnjjdndjaaGreatDoor
