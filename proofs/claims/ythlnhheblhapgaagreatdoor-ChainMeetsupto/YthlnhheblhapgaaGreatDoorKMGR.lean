/- Single operations, and rows, matrices an -/
import Derived.Test.YthlnhheblhapgaaGreatDoorKMODs
namespace Go.Proofs.YthlnhheblhapgaaGreatDoor
open Go.RowKit
theorem run_mvK (a:Act) (w:World) (d t:Nat) (u:TypeId) (ps:String) (ed:Array Edge) (gd:Option (Nat × Bool)) (N:Value) (h:a.eval (.tmp t)=N) :
  (execOp a.eval { dst:=some d,op:=Op.move (.tmp t),type:=u,pos:=ps,after:=ed,guard:=gd }).run Tryz.prog w=.ok (.value N) w:=by
 unfold execOp
 simp only [h]
 go_simp
theorem run_asK (a:Act) (w:World) (d t:Nat) (u:TypeId) (ps:String) (ed:Array Edge) (gd:Option (Nat × Bool)) (N:Value) (h:a.eval (.tmp t)=N) :
  (execOp a.eval { dst:=some d,op:=Op.assign (.tmp t),type:=u,pos:=ps,after:=ed,guard:=gd }).run Tryz.prog w=.ok (.value N) w:=by
 unfold execOp
 simp only [h]
 go_simp
abbrev FZ:=Bool × Int × Int × Option Addr
theorem in_prod {P:Program} {f:FuncId} {args:Array Value} {w:World} {r:Rat} (h:Calls P f args w fun e w'=>∃ v,e=.returned v∧FracAt w' v r∧But [] w w') :
  Calls P f args w fun e w'=>∃ z:FZ,e=.returned (.agg #[.bool z.1,.int .u64 z.2.1,.int .u64 z.2.2.1,.pointer z.2.2.2])∧FracAt w' (.agg #[.bool z.1,.int .u64 z.2.1,.int .u64 z.2.2.1,.pointer z.2.2.2]) r∧But [] w w' :=
 (in_parts h).mono fun _ _ ⟨s,x,y,p,h1,h2,h3⟩=>⟨(s,x,y,p),h1,h2,h3⟩
theorem in_zip {P:Program} {f:FuncId} {args:Array Value} {w:World} {r:Rat} (h:Calls P f args w fun e w'=>∃ s x y p,e=.returned (.agg #[.bool s,.int .u64 x,.int .u64 y,.pointer p])∧FracAt w' (.agg #[.bool s,.int .u64 x,.int .u64 y,.pointer p]) r∧But [] w w') :
  Calls P f args w fun e w'=>∃ z:FZ,e=.returned (.agg #[.bool z.1,.int .u64 z.2.1,.int .u64 z.2.2.1,.pointer z.2.2.2])∧FracAt w' (.agg #[.bool z.1,.int .u64 z.2.1,.int .u64 z.2.2.1,.pointer z.2.2.2]) r∧But [] w w' :=
 h.mono fun _ _ ⟨s,x,y,p,h1,h2,h3⟩=>⟨(s,x,y,p),h1,h2,h3⟩
structure NewR (B:Nat) (w:World) (g n:Nat) (F:Nat→Rat):Prop where
 row:RowOf w g n F
 new:B≤g
 lt:g<w.heap.size
theorem NewR.but {B:Nat} {w w':World} {g n:Nat} {F:Nat→Rat} (h:NewR B w g n F) (hb:But [] w w'):NewR B w' g n F:=⟨h.row.but hb h.lt,h.new,Nat.lt_of_lt_of_le h.lt hb.size⟩
structure NewM (B:Nat) (w:World) (g n:Nat):Prop where
 cells:∀ k,k<n→w.cell? ⟨g,k,none⟩=some (.slice none 0 0)
 slcs:∀ i v,w.cell? ⟨g,i,none⟩=some v→∃ a m c,v=.slice a m c
 top:∀ j v,n≤j→w.cell? ⟨g,j,none⟩≠some v
 loose:∀ j,w.frozen? ⟨g,j,none⟩=false
 new:B≤g
 lt:g<w.heap.size
theorem NewM.but {B:Nat} {w w':World} {g n:Nat} (h:NewM B w g n) (hb:But [] w w'):NewM B w' g n :=
 ⟨fun k hk=>hb.cell_some (h.cells k hk) (by simp),fun i v hv=>h.slcs i v ((hb.cell (p:=⟨g,i,none⟩) h.lt (by simp)).symm.trans hv),fun j v hj hv=>h.top j v hj ((hb.cell (p:=⟨g,j,none⟩) h.lt (by simp)).symm.trans hv),fun j=>(hb.frozen (p:=⟨g,j,none⟩) h.lt (by simp)).trans (h.loose j),h.new,Nat.lt_of_lt_of_le h.lt hb.size⟩
theorem size_madeS (n:Nat):(madeCells #[Value.slice none 0 0] n).size=n:=by simp [madeCells]
theorem NewM.made (B:Nat) (w:World) (n:Nat) (t:TypeId) (h:B≤w.heap.size):NewM B (w.alloc (.cells (madeCells #[.slice none 0 0] n) t)) w.heap.size n :=
 ⟨fun k hk=>by rw [World.cell?_alloc_new];exact made_one n k hk,fun i v hv=>by
  rw [World.cell?_alloc_new] at hv
  have hi:i<n:=by
   have:=(Array.getElem?_eq_some_iff.1 hv).1
   rw [size_madeS] at this
   exact this
  rw [made_one n i hi] at hv
  exact ⟨none,0,0,(Option.some.inj hv).symm⟩,fun j v hj hv=>by
  rw [World.cell?_alloc_new] at hv
  have:=(Array.getElem?_eq_some_iff.1 hv).1
  rw [size_madeS] at this
  omega,fun j=>by simp,h,by simp⟩
theorem run_makeM (wx:World) (n:Nat) (h:n<1000000):(Instr.makeSlice 53 (.int .i64 (n:Int)) (.int .i64 (n:Int))).run Tryz.prog wx=.ok (.slice (some ⟨wx.heap.size,0,none⟩) n n) (wx.alloc (.cells (madeCells #[.slice none 0 0] n) 32)):=by
 obtain ⟨ti,hi,hz,hs,hbt⟩:=info_row
 have hmk:=run_make (P:=Tryz.prog) wx 53 32 ti _ Tryz.underlying53 hi hz .i64 .i64 (n:Int) (n:Int) (by omega) (by omega) (by rw [hbt];omega) (by omega)
 rw [hs,Int.toNat_natCast,Nat.mul_one] at hmk
 exact hmk
structure YrNew (B m:Nat) (M:Nat→Nat→Rat) (U:Rat) (w:World) (z:Nat × FZ):Prop where
 mat:MatR w z.1 m M
 low:FracAt w (.agg #[.bool z.2.1,.int .u64 z.2.2.1,.int .u64 z.2.2.2.1,.pointer z.2.2.2.2]) U
 new:B≤z.1
theorem YrNew.but {B m:Nat} {M:Nat→Nat→Rat} {U:Rat} {w w':World} {z:Nat × FZ} (h:YrNew B m M U w z) (hb:But [] w w'):YrNew B m M U w' z:=⟨h.mat.but hb,h.low.but hb,h.new⟩
structure NewY (B m:Nat) (M:Nat→Nat→Rat) (U:Rat) (w:World) (z:Nat × Nat × FZ):Prop where
 box:NewB B w z.1 [.slice (some ⟨z.2.1,0,none⟩) m m,.bool z.2.2.1,.int .u64 z.2.2.2.1,.int .u64 z.2.2.2.2.1,.pointer z.2.2.2.2.2]
 yr:YrNew B m M U w z.2
theorem NewY.but {B m:Nat} {M:Nat→Nat→Rat} {U:Rat} {w w':World} {z:Nat × Nat × FZ} (h:NewY B m M U w z) (hb:But [] w w'):NewY B m M U w' z:=⟨h.box.but hb,h.yr.but hb⟩
theorem NewY.made {B m:Nat} {M:Nat→Nat→Rat} {U:Rat} {w:World} {z:Nat × FZ} (h:YrNew B m M U w z) (hB:B≤w.heap.size) (t:TypeId):NewY B m M U (w.alloc (.cells #[.slice (some ⟨z.1,0,none⟩) m m,.bool z.2.1,.int .u64 z.2.2.1,.int .u64 z.2.2.2.1,.pointer z.2.2.2.2] t)) (w.heap.size,z) :=
 ⟨NewB.made B w [.slice (some ⟨z.1,0,none⟩) m m,.bool z.2.1,.int .u64 z.2.2.1,.int .u64 z.2.2.2.1,.pointer z.2.2.2.2] t hB,h.but ((But.refl _ _).alloc _)⟩
def NoNum (w:World) (u:Value):Prop:=u=.slice none 0 0∨∃ b n c s,u=.slice (some ⟨b,0,none⟩) n c∧0<n∧w.cell? ⟨b,0,none⟩=some (.bool s)
theorem FracAt.overG {w W:World} {v:Value} {f:Rat} (h:FracAt w v f) {g:Nat} {a:Option Addr} {m c:Nat} (c0:w.cell? ⟨g,0,none⟩=some (.slice a m c)) (c1:∀ u,w.cell? ⟨g,1,none⟩=some u→NoNum w u) (hb:But [g] w W):FracAt W v f:=by
 rcases h with h1 | ⟨h1,b,v1,v2,h2,h3,h4,h5,h6⟩
 ·exact .inl h1
 ·have hl:0<(wd 18446744073709551616 f.den).length:=by
   rcases Nat.eq_zero_or_pos (wd 18446744073709551616 f.den).length with e | e
   ·have:=lt_of_wd_length (B:=18446744073709551616) (by omega) f.den 0 (by omega)
    have:=den_pos f
    rw [Nat.pow_zero] at *
    omega
   ·exact e
  have hbg:b≠g:=by
   rintro rfl
   rcases c1 v2 h4 with rfl | ⟨b2,n2,c2,s2,rfl,hn2,hs2⟩
   ·obtain ⟨a',cap,e,-,-,-⟩:=h6
    simp only [Value.slice.injEq] at e
    omega
   ·exact (h6.ints hn2).ne hs2 (by simp) rfl
  exact .inr ⟨h1,b,v1,v2,h2,hb.cell_some h3 (by simpa using hbg),hb.cell_some h4 (by simpa using hbg),h5.over hb c0 (by simp),h6.over hb c0 (by simp)⟩
structure MatI (w:World) (go n i:Nat) (M:Nat→Nat→Rat):Prop where
 lt:go<w.heap.size
 slcs:∀ j v,w.cell? ⟨go,j,none⟩=some v→∃ a m c,v=.slice a m c
 loose:∀ j,w.frozen? ⟨go,j,none⟩=false
 blank:∀ j,i≤j→j<n→w.cell? ⟨go,j,none⟩=some (.slice none 0 0)
 row:∀ j,j<i→∃ g,w.cell? ⟨go,j,none⟩=some (.slice (some ⟨g,0,none⟩) n n)∧RowR w g n (M j)
 top:∀ j v,n≤j→w.cell? ⟨go,j,none⟩≠some v
theorem MatI.but {w w':World} {go n i:Nat} {M:Nat→Nat→Rat} (h:MatI w go n i M) (hb:But [] w w'):MatI w' go n i M:=by
 have e:∀ j,w'.cell? ⟨go,j,none⟩=w.cell? ⟨go,j,none⟩:=fun j=>hb.cell (p:=⟨go,j,none⟩) h.lt (by simp)
 exact ⟨Nat.lt_of_lt_of_le h.lt hb.size,fun j v hv=>h.slcs j v ((e j).symm.trans hv),fun j=>(hb.frozen (p:=⟨go,j,none⟩) h.lt (by simp)).trans (h.loose j),fun j h1 h2=>(e j).trans (h.blank j h1 h2),fun j hj=>by
  obtain ⟨g,h1,h2⟩:=h.row j hj
  exact ⟨g,(e j).trans h1,h2.but hb⟩,fun j v hj hv=>h.top j v hj ((e j).symm.trans hv)⟩
theorem MatI.start {B:Nat} {w:World} {go n:Nat} (h:NewM B w go n) (M:Nat→Nat→Rat):MatI w go n 0 M :=
 ⟨h.lt,h.slcs,h.loose,fun j _ hj=>h.cells j hj,fun j hj=>by omega,h.top⟩
theorem MatI.noNum {w:World} {go n i:Nat} {M:Nat→Nat→Rat} (h:MatI w go n i M) (hn:0<n) (j:Nat) (u:Value) (hu:w.cell? ⟨go,j,none⟩=some u):NoNum w u:=by
 rcases Nat.lt_or_ge j i with h1 | h1
 ·obtain ⟨g,h2,h3⟩:=h.row j h1
  rw [h2] at hu
  obtain ⟨s,x,y,p,⟨a0,-⟩,-⟩:=h3 0 hn
  rw [Nat.zero_mul] at a0
  exact .inr ⟨g,n,n,s,(Option.some.inj hu).symm,hn,a0⟩
 ·rcases Nat.lt_or_ge j n with h2 | h2
  ·rw [h.blank j h1 h2] at hu
   exact .inl (Option.some.inj hu).symm
  ·exact absurd hu (h.top j u h2)
theorem MatI.next {w:World} {go n i g:Nat} {M:Nat→Nat→Rat} (h:MatI w go n i M) (hi:i<n) (hg:RowR w g n (M i)):MatI (w.setCell ⟨go,i,none⟩ (.slice (some ⟨g,0,none⟩) n n)) go n (i+1) M∧But [go] w (w.setCell ⟨go,i,none⟩ (.slice (some ⟨g,0,none⟩) n n))∧∀ v f,FracAt w v f→FracAt (w.setCell ⟨go,i,none⟩ (.slice (some ⟨g,0,none⟩) n n)) v f:=by
 have hb:But [go] w (w.setCell ⟨go,i,none⟩ (.slice (some ⟨g,0,none⟩) n n)):=by rw [setCell_is];exact but_setCells w go _ i
 have hn:0<n:=by omega
 obtain ⟨a,m,c,h0⟩:∃ a m c,w.cell? ⟨go,0,none⟩=some (.slice a m c):=by
  rcases Nat.eq_zero_or_pos i with e | e
  ·exact ⟨_,_,_,h.blank 0 (by omega) hn⟩
  ·obtain ⟨g0,h1,-⟩:=h.row 0 e
   exact ⟨_,_,_,h1⟩
 have hf:∀ v f,FracAt w v f→FracAt (w.setCell ⟨go,i,none⟩ (.slice (some ⟨g,0,none⟩) n n)) v f:=fun v f hv=>hv.overG h0 (h.noNum hn 1) hb
 have hrow:∀ (g':Nat) (F:Nat→Rat),RowR w g' n F→RowR (w.setCell ⟨go,i,none⟩ (.slice (some ⟨g,0,none⟩) n n)) g' n F:=fun g' F hr k hk=>by
  obtain ⟨s,x,y,p,h1,h2⟩:=hr k hk
  have hne:g' ∉ [go]:=fun hm=>by
   simp at hm
   subst hm
   obtain ⟨s0,x0,y0,p0,⟨a0,-⟩,-⟩:=hr 0 hn
   rw [Nat.zero_mul,h0] at a0
   simp at a0
  exact ⟨s,x,y,p,h1.but hb hne,hf _ _ h2⟩
 have hsame:(w.setCell ⟨go,i,none⟩ (.slice (some ⟨g,0,none⟩) n n)).cell? ⟨go,i,none⟩=some (.slice (some ⟨g,0,none⟩) n n):=World.cell?_setCell_same _ _ _ (h.blank i (Nat.le_refl _) hi)
 have hoth:∀ j,j≠i→(w.setCell ⟨go,i,none⟩ (.slice (some ⟨g,0,none⟩) n n)).cell? ⟨go,j,none⟩=w.cell? ⟨go,j,none⟩:=fun j hj=>World.cell?_setCell_other _ _ _ _ (fun e=>hj (Addr.mk.inj e).2.1.symm)
 refine ⟨⟨Nat.lt_of_lt_of_le h.lt hb.size,fun j v hv=>?_,fun j=>?_,fun j h1 h2=>(hoth j (by omega)).trans (h.blank j (by omega) h2),fun j hj=>?_,fun j v hj hv=>?_⟩,hb,hf⟩
 ·by_cases e:j=i
  ·subst e
   rw [hsame] at hv
   exact ⟨_,_,_,(Option.some.inj hv).symm⟩
  ·exact h.slcs j v ((hoth j e).symm.trans hv)
 ·rw [setCell_is,World.frozen?_setCells];exact h.loose j
 ·by_cases e:j=i
  ·subst e
   exact ⟨g,hsame,hrow _ _ hg⟩
  ·obtain ⟨g',h1,h2⟩:=h.row j (by omega)
   exact ⟨g',(hoth j e).trans h1,hrow _ _ h2⟩
 ·exact h.top j v hj ((hoth j (by omega)).symm.trans hv)
theorem MatI.mat {w:World} {go n:Nat} {M:Nat→Nat→Rat} (h:MatI w go n n M):MatR w go n M:=⟨h.lt,h.slcs,h.row⟩
end Go.Proofs.YthlnhheblhapgaaGreatDoor
