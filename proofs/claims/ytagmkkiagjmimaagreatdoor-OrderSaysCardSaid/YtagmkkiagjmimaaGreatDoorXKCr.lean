/- A row of fractions of the call's own, al -/
import Derived.Test.YtagmkkiagjmimaaGreatDoorXT3r
namespace Go.Proofs.YtagmkkiagjmimaaGreatDoor
set_option linter.unusedVariables false
open Go.Proofs.Tryz
open Go.RowKit
set_option maxHeartbeats 16000000
set_option maxRecDepth 100000
structure yw (w:World) (g n:Nat) (F:Nat→Rat):Prop where
 told:∀ j,j<n→zcz w g (j*4) (F j)
 loose:∀ o,w.frozen? ⟨g,o,none⟩=false
theorem yw.but {w w':World} {g n:Nat} {F:Nat→Rat} (h:yw w g n F) (hb:But [] w w') (hg:g<w.heap.size):yw w' g n F :=
 ⟨fun j hj=>(h.told j hj).but hb,fun o=>(hb.frozen (p:=⟨g,o,none⟩) hg (by simp)).trans (h.loose o)⟩
theorem yw.bool {w:World} {g n:Nat} {F:Nat→Rat} (h:yw w g n F) (h0:0<n):∃ s,w.cell? ⟨g,0,none⟩=some (.bool s):=by(
 obtain⟨s,x,y,p,a,-⟩:=h.told 0 h0
 rw[Nat.zero_mul] at a
 exact⟨_,a.1⟩)
def qdt (F:Nat→Rat) (t:Nat) (v:Rat):Nat→Rat:=fun j=>if j=t then v else F j
theorem yw.set {w:World} {g n i:Nat} {F:Nat→Rat} (h:yw w g n F) (hi:i<n) (s1:Bool) (x1 y1:Int) (p1:Option Addr) (v:Rat) (h1:au w (.agg #[.bool s1,.int .u64 x1,.int .u64 y1,.pointer p1]) v) :
   yw (w.setCells g (i*4) [.bool s1,.int .u64 x1,.int .u64 y1,.pointer p1]) g n (qdt F i v):=by(
 obtain⟨c,hc⟩:=h.bool (by omega)
 obtain⟨s0,x0,y0,p0,a1,-⟩:=h.told i hi
 have hb:=br w g [.bool s1,.int .u64 x1,.int .u64 y1,.pointer p1] (i*4)
 have some4:∀ k,k<4→(w.cell? ⟨g,i*4+k,none⟩).isSome=true:=fun k hk=>by
  have:k=0∨k=1∨k=2∨k=3:=by omega
  rcases this with rfl|rfl|rfl|rfl
  ·rw[show i*4+0=i*4 from rfl,a1.1];rfl
  ·rw[a1.2.1];rfl
  ·rw[a1.2.2.1];rfl
  ·rw[a1.2.2.2];rfl
 have hin:∀ k (hk:k<4),(w.setCells g (i*4) [.bool s1,.int .u64 x1,.int .u64 y1,.pointer p1]).cell? ⟨g,i*4+k,none⟩=some ([Value.bool s1,.int .u64 x1,.int .u64 y1,.pointer p1][k]'hk):=fun k hk =>
  World.cell?_setCells_in g [.bool s1,.int .u64 x1,.int .u64 y1,.pointer p1] (i*4) w (fun j hj=>some4 j hj) k hk
 have hout:∀ o,o<i*4∨i*4+4≤o→(w.setCells g (i*4) [.bool s1,.int .u64 x1,.int .u64 y1,.pointer p1]).cell? ⟨g,o,none⟩=w.cell? ⟨g,o,none⟩:=fun o ho=>World.cell?_setCells_out g _ (i*4) w _ (fun _ _=>by simp;omega)
 have keep:∀ o s x y p,o+4≤i*4∨i*4+4≤o→P4o w g o s x y p→P4o (w.setCells g (i*4) [.bool s1,.int .u64 x1,.int .u64 y1,.pointer p1]) g o s x y p:=fun o s x y p ho hp=>⟨(hout o (by omega)).trans hp.1,(hout (o+1) (by omega)).trans hp.2.1,(hout (o+2) (by omega)).trans hp.2.2.1,(hout (o+3) (by omega)).trans hp.2.2.2⟩
 have hfr:∀ {v f},au w v f→au (w.setCells g (i*4) [.bool s1,.int .u64 x1,.int .u64 y1,.pointer p1]) v f:=fun hf=>hf.over hc hb
 refine⟨fun j hj=>?_,fun o=>by rw[World.frozen?_setCells];exact h.loose o⟩
 unfold qdt
 by_cases e:j=i
 ·subst e
  rw[if_pos rfl]
  exact⟨s1,x1,y1,p1,⟨hin 0 (by omega),hin 1 (by omega),hin 2 (by omega),hin 3 (by omega)⟩,hfr h1⟩
 ·rw[if_neg e]
  obtain⟨t1,u1,v1,q1,b1,f1⟩:=h.told j hj
  exact⟨t1,u1,v1,q1,keep _ _ _ _ _ (by omega) b1,hfr f1⟩)
theorem yw.congr {w:World} {g n:Nat} {F G:Nat→Rat} (h:yw w g n F) (e:∀ j,j<n→F j=G j):yw w g n G :=
 ⟨fun j hj=>by rw[← e j hj];exact h.told j hj,h.loose⟩
theorem qby:∃ i,prog.info? 46 = some i∧i.zero=some (.slice none 0 0)∧i.size=1∧i.bytes=24:=by(
 have h:(prog.info? 46).map (fun i=>(i.zero,i.size,i.bytes))=some (some (.slice none 0 0),1,24):=by kernel_rfl
 cases e:prog.info? 46 with
 | none=>rw[e] at h;simp at h
 | some i =>
  rw[e] at h
  simp only[Option.map_some,Option.some.injEq,Prod.mk.injEq] at h
  exact⟨i,rfl,h.1,h.2.1,h.2.2⟩)
theorem zxt (wx:World) (n:Nat) (h:n<1000000):(Instr.makeSlice 63 (.int .i64 (n:Int)) (.int .i64 (n:Int))).run prog wx=.ok (.slice (some ⟨wx.heap.size,0,none⟩) n n) (wx.alloc (.cells (madeCells #[.slice none 0 0] n) 46)):=by(
 obtain⟨ti,hi,hz,hs,hbt⟩:=qby
 have hmk:=run_make (P:=prog) wx 63 46 ti _ underlying63 hi hz .i64 .i64 (n:Int) (n:Int) (by omega) (by omega) (by rw[hbt];omega) (by omega)
 rw[hs,Int.toNat_natCast,Nat.mul_one] at hmk
 exact hmk)
theorem qbo (n o:Nat) (h:o<n):(madeCells #[Value.slice none 0 0] n)[o]? = some (Value.slice none 0 0):=by(
 unfold madeCells
 rw[Array.getElem?_map,Array.getElem?_eq_getElem (by simpa using h),Array.getElem_range,Option.map_some]
 simp[Nat.mod_one])
structure zmh (w:World) (go ga n m:Nat) (F:Nat→Rat):Prop where
 all:yw w ga (n*m) F
 rows:∀ i,i<n→w.cell? ⟨go,i,none⟩=some (.slice (some ⟨ga,i*m*4,none⟩) m m)
theorem zrd (n m:Nat) (hn:n≤300) (hm:m≤300) (hm0:0<m) (w:World) :
   Calls prog 101 #[.int .i64 (n:Int),.int .i64 (m:Int)] w fun e w'=>∃ go ga,e=.returned (.slice (some ⟨go,0,none⟩) n n)∧zmh w' go ga n m (fun _=>0)∧w.heap.size≤ga∧ga<go∧go<w'.heap.size∧But [] w w':=by(
 obtain⟨nm,hnm⟩:∃ nm,nm=n*m:=⟨_,rfl⟩
 have hnml:nm≤90000:=by rw[hnm];exact Nat.mul_le_mul hn hm
 have hnmI:(n:Int)*(m:Int)=(nm:Int):=by rw[hnm,Int.natCast_mul]
 have hmk:=fun wx=>zxu wx nm (by omega)
 have hmr:=fun wx=>zxt wx n (by omega)
 have HNM:=af hnm
 obtain⟨W1,hW1⟩:∃ W1,W1=w.alloc (.cells (madeCells #[.bool false,.int .u64 0,.int .u64 0,.pointer none] (nm*4)) 27):=⟨_,rfl⟩
 obtain⟨W2,hW2⟩:∃ W2,W2=W1.alloc (.cells (madeCells #[.slice none 0 0] n) 46):=⟨_,rfl⟩
 have z1:W1.heap.size=w.heap.size+1:=by rw[hW1];simp
 have b2:But [] W1 W2:=by rw[hW2];exact (But.refl _ _).alloc _
 have b1:But [] w W2:=But.trans' (by rw[hW1];exact (But.refl _ _).alloc _) b2
 have rA:(∀ j,j<nm→P4o W2 w.heap.size (j*4) false 0 0 none)∧∀ o,W2.frozen? ⟨w.heap.size,o,none⟩=false:=by
  have h:=qhs.made w nm (fun _=>0)
  rw[← hW1] at h
  exact⟨fun j hj=>(h.blank j (Nat.zero_le _) hj).but b2 (by simp),fun o=>(b2.frozen (p:=⟨w.heap.size,o,none⟩) (by show w.heap.size<_;omega) (by simp)).trans (h.loose o)⟩
 have cO:∀ i,i<n→W2.cell? ⟨w.heap.size+1,i,none⟩=some (.slice none 0 0):=fun i hi=>by
  rw[← z1,hW2,World.cell?_alloc_new];exact qbo n i hi
 have fO:∀ j,W2.frozen? ⟨w.heap.size+1,j,none⟩=false:=fun j=>by rw[← z1,hW2];simp
 have s2:w.heap.size+1<W2.heap.size:=by rw[hW2];simp;omega
 have RA:=af rA
 have CO:=af cO
 have FO:=af fO
 have B1:=af b1
 clear rA cO fO b1 b2 hnm
 go_enter func101,ntmps101
 go_wp2
 rw[← hW1,← hW2]
 clear hW1 hW2 z1 hmk hmr
 have oG:w.heap.size≤w.heap.size:=Nat.le_refl _
 generalize hgo:w.heap.size+1=go at *
 generalize hga:w.heap.size=ga at *
 have OG:Hid (w.heap.size≤ga∧ga<go):=⟨by omega,by omega⟩
 go_loopw [18] (fun iv wr=>∃ k:Nat,k≤n∧iv=.int .i64 (k:Int)∧Hid (((∀ j,j<nm→P4o wr ga (j*4) false 0 0 none)∧∀ o,wr.frozen? ⟨ga,o,none⟩=false)∧(∀ i,i<k→wr.cell? ⟨go,i,none⟩=some (.slice (some ⟨ga,i*m*4,none⟩) m m))∧(∀ i,k≤i→i<n→wr.cell? ⟨go,i,none⟩=some (.slice none 0 0))∧(∀ j,wr.frozen? ⟨go,j,none⟩=false)∧go<wr.heap.size∧But [] w wr)) (fun iv _=>n-(intOf iv).toNat)
 case atStart=>exact⟨0,Nat.zero_le _,rfl,ae RA,fun i hi=>absurd hi (by omega),fun i _ hi=>ae CO i hi,ae FO,s2,ae B1⟩
 case round =>(
 obtain⟨k,hk,rfl,HI⟩:=hrel
 rename World=>wr
 clear RA CO FO B1 s2
 by_cases hlt:k<n
 ·(
 obtain⟨fr,hfr⟩:∃ fr,fr=k*m:=⟨_,rfl⟩
 have hf1:(k:Int)*(m:Int)=(fr:Int):=by rw[hfr,Int.natCast_mul]
 have hf2:((k:Int)+1)*(m:Int)=(fr:Int)+(m:Int):=by rw[Int.add_mul,hf1];omega
 have hf3:fr+m≤nm:=by
  have:=Nat.mul_le_mul_right m (show k+1≤n by omega)
  rw[Nat.succ_mul] at this
  have:=ae HNM
  omega
 obtain⟨hrow,hdone,hyet,hfz,hgl,hbw⟩:=ae HI
 have c0:=hyet k (Nat.le_refl _) hlt
 have HFR:=af hfr
 clear hrow hdone hyet hbw hfr
 have hfz0:=hfz k
 go_wp2
 have hb:But [go] wr (wr.setCell ⟨go,k,none⟩ (.slice (some ⟨ga,fr*4,none⟩) m m)):=(But.refl [go] wr).setCell (.inl (by simp)) _
 obtain⟨⟨hP,hPf⟩,hdone,hyet,-,-,hbw⟩:=ae HI
 have og:=ae OG
 have hgl2:ga<wr.heap.size:=by omega
 refine⟨⟨k+1,by omega,by go_num,⟨fun j hj=>(hP j hj).but hb (by simp;omega),fun o=>(hb.frozen (p:=⟨ga,o,none⟩) hgl2 (by simp;omega)).trans (hPf o)⟩,fun i hi=>?_,fun i h1 h2=>?_,fun j=>by rw[World.frozen?_setCell];exact hfz j,Nat.lt_of_lt_of_le hgl hb.size,hbw.trans hb (fun x hx=>by simp at hx;subst hx;exact .inr (by omega))⟩,by simp[intOf];omega⟩
 ·(
 by_cases e:i=k
 ·subst e
  rw[World.cell?_setCell_same _ _ _ c0,ae HFR]
 ·rw[World.cell?_setCell_other _ _ _ _ (by simp;first | done | omega)]
  exact hdone i (by omega))
 ·rw[World.cell?_setCell_other _ _ _ _ (by simp;first | done | omega)]
  exact hyet i (by omega) h2)
 ·obtain rfl:k=n:=by omega
  go_wp2
  go_ret
  refine⟨go,ga,rfl,⟨by rw[← ae HNM];exact⟨fun j hj=>⟨false,0,0,none,(ae HI).1.1 j hj,zav _⟩,(ae HI).1.2⟩,(ae HI).2.1⟩,(ae OG).1,(ae OG).2,(ae HI).2.2.2.2.1,(ae HI).2.2.2.2.2⟩))
end Go.Proofs.YtagmkkiagjmimaaGreatDoor
