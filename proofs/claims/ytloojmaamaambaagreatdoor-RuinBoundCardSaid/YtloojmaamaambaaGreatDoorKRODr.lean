/- Rows of fractions in one list, as the Go -/
import Derived.Test.YtloojmaamaambaaGreatDoorKRPB
namespace Go.Proofs.YtloojmaamaambaaGreatDoor
open Go.RowKit
set_option maxHeartbeats 16000000
set_option maxRecDepth 100000
theorem info_row:∃ i,Tryz.prog.info? 33 = some i∧i.zero=some (.slice none 0 0)∧i.size=1∧i.bytes=24:=by
 have h:(Tryz.prog.info? 33).map (fun i=>(i.zero,i.size,i.bytes))=some (some (.slice none 0 0),1,24):=by kernel_rfl
 cases e:Tryz.prog.info? 33 with
 | none=>rw [e] at h;simp at h
 | some i =>
  rw [e] at h
  simp only [Option.map_some,Option.some.injEq,Prod.mk.injEq] at h
  exact ⟨i,rfl,h.1,h.2.1,h.2.2⟩
theorem run_makeR (wx:World) (n:Nat) (h:n<1000000):(Instr.makeSlice 63 (.int .i64 (n:Int)) (.int .i64 (n:Int))).run Tryz.prog wx=.ok (.slice (some ⟨wx.heap.size,0,none⟩) n n) (wx.alloc (.cells (madeCells #[.slice none 0 0] n) 33)):=by
 obtain ⟨ti,hi,hz,hs,hbt⟩:=info_row
 have hmk:=run_make (P:=Tryz.prog) wx 63 33 ti _ Tryz.underlying63 hi hz .i64 .i64 (n:Int) (n:Int) (by omega) (by omega) (by rw [hbt];omega) (by omega)
 rw [hs,Int.toNat_natCast,Nat.mul_one] at hmk
 exact hmk
theorem made_one (n o:Nat) (h:o<n):(madeCells #[Value.slice none 0 0] n)[o]? = some (Value.slice none 0 0):=by
 unfold madeCells
 rw [Array.getElem?_map,Array.getElem?_eq_getElem (by simpa using h),Array.getElem_range,Option.map_some]
 simp [Nat.mod_one]
structure MatAt (w:World) (go ga n m:Nat) (F:Nat→Rat):Prop where
 all:RowOf w ga (n*m) F
 rows:∀ i,i<n→w.cell? ⟨go,i,none⟩=some (.slice (some ⟨ga,i*m*4,none⟩) m m)
theorem rowsNew_any (n m:Nat) (hn:n≤300) (hm:m≤300) (hm0:0<m) (w:World) :
  Calls Tryz.prog 84 #[.int .i64 (n:Int),.int .i64 (m:Int)] w fun e w'=>∃ go ga,e=.returned (.slice (some ⟨go,0,none⟩) n n)∧MatAt w' go ga n m (fun _=>0)∧w.heap.size≤ga∧ga<go∧go<w'.heap.size∧But [] w w':=by
 obtain ⟨nm,hnm⟩:∃ nm,nm=n*m:=⟨_,rfl⟩
 have hnml:nm≤90000:=by rw [hnm];exact Nat.mul_le_mul hn hm
 have hnmI:(n:Int)*(m:Int)=(nm:Int):=by rw [hnm,Int.natCast_mul]
 have hmk:=fun wx=>run_makeF wx nm (by omega)
 have hmr:=fun wx=>run_makeR wx n (by omega)
 have HNM:=hide hnm
 obtain ⟨W1,hW1⟩:∃ W1,W1=w.alloc (.cells (madeCells #[.bool false,.int .u64 0,.int .u64 0,.pointer none] (nm*4)) 29):=⟨_,rfl⟩
 obtain ⟨W2,hW2⟩:∃ W2,W2=W1.alloc (.cells (madeCells #[.slice none 0 0] n) 33):=⟨_,rfl⟩
 have z1:W1.heap.size=w.heap.size+1:=by rw [hW1];simp
 have b2:But [] W1 W2:=by rw [hW2];exact (But.refl _ _).alloc _
 have b1:But [] w W2:=But.trans' (by rw [hW1];exact (But.refl _ _).alloc _) b2
 have rA:(∀ j,j<nm→P4o W2 w.heap.size (j*4) false 0 0 none)∧∀ o,W2.frozen? ⟨w.heap.size,o,none⟩=false:=by
  have h:=Row4.made w nm (fun _=>0)
  rw [← hW1] at h
  exact ⟨fun j hj=>(h.blank j (Nat.zero_le _) hj).but b2 (by simp),fun o=>(b2.frozen (p:=⟨w.heap.size,o,none⟩) (by show w.heap.size<_;omega) (by simp)).trans (h.loose o)⟩
 have cO:∀ i,i<n→W2.cell? ⟨w.heap.size+1,i,none⟩=some (.slice none 0 0):=fun i hi=>by
  rw [← z1,hW2,World.cell?_alloc_new];exact made_one n i hi
 have fO:∀ j,W2.frozen? ⟨w.heap.size+1,j,none⟩=false:=fun j=>by rw [← z1,hW2];simp
 have s2:w.heap.size+1<W2.heap.size:=by rw [hW2];simp;omega
 have RA:=hide rA
 have CO:=hide cO
 have FO:=hide fO
 have B1:=hide b1
 clear rA cO fO b1 b2 hnm
 go_enter Tryz.func84,Tryz.ntmps84
 go_wp2
 rw [← hW1,← hW2]
 clear hW1 hW2 z1 hmk hmr
 have oG:w.heap.size≤w.heap.size:=Nat.le_refl _
 generalize hgo:w.heap.size+1=go at *
 generalize hga:w.heap.size=ga at *
 have OG:Hid (w.heap.size≤ga∧ga<go):=⟨by omega,by omega⟩
 go_loopw [18] (fun iv wr=>∃ k:Nat,k≤n∧iv=.int .i64 (k:Int)∧Hid (((∀ j,j<nm→P4o wr ga (j*4) false 0 0 none)∧∀ o,wr.frozen? ⟨ga,o,none⟩=false)∧(∀ i,i<k→wr.cell? ⟨go,i,none⟩=some (.slice (some ⟨ga,i*m*4,none⟩) m m))∧(∀ i,k≤i→i<n→wr.cell? ⟨go,i,none⟩=some (.slice none 0 0))∧(∀ j,wr.frozen? ⟨go,j,none⟩=false)∧go<wr.heap.size∧But [] w wr)) (fun iv _=>n-(intOf iv).toNat)
 case atStart=>exact ⟨0,Nat.zero_le _,rfl,unhide RA,fun i hi=>absurd hi (by omega),fun i _ hi=>unhide CO i hi,unhide FO,s2,unhide B1⟩
 case round =>
  obtain ⟨k,hk,rfl,HI⟩:=hrel
  rename World=>wr
  clear RA CO FO B1 s2
  by_cases hlt:k<n
  ·obtain ⟨fr,hfr⟩:∃ fr,fr=k*m:=⟨_,rfl⟩
   have hf1:(k:Int)*(m:Int)=(fr:Int):=by rw [hfr,Int.natCast_mul]
   have hf2:((k:Int)+1)*(m:Int)=(fr:Int)+(m:Int):=by rw [Int.add_mul,hf1];omega
   have hf3:fr+m≤nm:=by
    have:=Nat.mul_le_mul_right m (show k+1≤n by omega)
    rw [Nat.succ_mul] at this
    have:=unhide HNM
    omega
   obtain ⟨hrow,hdone,hyet,hfz,hgl,hbw⟩:=unhide HI
   have c0:=hyet k (Nat.le_refl _) hlt
   have HFR:=hide hfr
   clear hrow hdone hyet hbw hfr
   have hfz0:=hfz k
   go_wp2
   have hb:But [go] wr (wr.setCell ⟨go,k,none⟩ (.slice (some ⟨ga,fr*4,none⟩) m m)):=(But.refl [go] wr).setCell (.inl (by simp)) _
   obtain ⟨⟨hP,hPf⟩,hdone,hyet,-,-,hbw⟩:=unhide HI
   have og:=unhide OG
   have hgl2:ga<wr.heap.size:=by omega
   refine ⟨⟨k+1,by omega,by go_num,⟨fun j hj=>(hP j hj).but hb (by simp;omega),fun o=>(hb.frozen (p:=⟨ga,o,none⟩) hgl2 (by simp;omega)).trans (hPf o)⟩,fun i hi=>?_,fun i h1 h2=>?_,fun j=>by rw [World.frozen?_setCell];exact hfz j,Nat.lt_of_lt_of_le hgl hb.size,hbw.trans hb (fun x hx=>by simp at hx;subst hx;exact .inr (by omega))⟩,by simp [intOf];omega⟩
   ·by_cases e:i=k
    ·subst e
     rw [World.cell?_setCell_same _ _ _ c0,unhide HFR]
    ·rw [World.cell?_setCell_other _ _ _ _ (by simp;first | done | omega)]
     exact hdone i (by omega)
   ·rw [World.cell?_setCell_other _ _ _ _ (by simp;first | done | omega)]
    exact hyet i (by omega) h2
  ·obtain rfl:k=n:=by omega
   go_wp2
   go_ret
   refine ⟨go,ga,rfl,⟨by rw [← unhide HNM];exact ⟨fun j hj=>⟨false,0,0,none,(unhide HI).1.1 j hj,zero_at _⟩,(unhide HI).1.2⟩,(unhide HI).2.1⟩,(unhide OG).1,(unhide OG).2,(unhide HI).2.2.2.2.1,(unhide HI).2.2.2.2.2⟩
end Go.Proofs.YtloojmaamaambaaGreatDoor

namespace Go.Proofs.YtloojmaamaambaaGreatDoor
open Go.RowKit
def atR (fs:List Rat) (k:Nat):Rat:=fs[k]?.getD 0
end Go.Proofs.YtloojmaamaambaaGreatDoor

namespace Go.Proofs.YtloojmaamaambaaGreatDoor
open Go.RowKit
theorem MatAt.row {w:World} {go ga n m:Nat} {F:Nat→Rat} (h:MatAt w go ga n m F) (i:Nat) (hi:i<n):FracsAt w (.slice (some ⟨ga,i*m*4,none⟩) m m) ((List.range m).map fun k=>F (i*m+k)):=by
 refine ⟨some ⟨ga,i*m*4,none⟩,m,by simp,by simp,fun k f hf=>⟨ga,i*m*4,rfl,?_⟩⟩
 have hk:k<m:=by have:=(List.getElem?_eq_some_iff.1 hf).1;simpa using this
 rw [List.getElem?_map,List.getElem?_range hk,Option.map_some] at hf
 obtain rfl:=Option.some.inj hf
 have hkm:i*m+m≤n*m:=by
  have:=Nat.mul_le_mul_right m (show i+1≤n by omega)
  rw [Nat.succ_mul] at this
  exact this
 have h1:=h.all.told (i*m+k) (by omega)
 rw [Nat.add_mul] at h1
 exact h1
theorem MatAt.but {w w':World} {go ga n m:Nat} {F:Nat→Rat} (h:MatAt w go ga n m F) (hb:But [] w w') (hg:ga<w.heap.size):MatAt w' go ga n m F:=⟨h.all.but hb hg,fun i hi=>hb.cell_some (h.rows i hi) (by simp)⟩
end Go.Proofs.YtloojmaamaambaaGreatDoor
