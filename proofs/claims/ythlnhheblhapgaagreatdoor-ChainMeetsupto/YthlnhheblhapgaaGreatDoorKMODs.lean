/- Out of ODr: what needs no more than thes -/
import Derived.Test.YthlnhheblhapgaaGreatDoorKMK1r
import Derived.Test.YthlnhheblhapgaaGreatDoorKMT3r
namespace Go.Proofs.YthlnhheblhapgaaGreatDoor
open Go.RowKit
theorem info_row:∃ i,Tryz.prog.info? 32 = some i∧i.zero=some (.slice none 0 0)∧i.size=1∧i.bytes=24:=by
 have h:(Tryz.prog.info? 32).map (fun i=>(i.zero,i.size,i.bytes))=some (some (.slice none 0 0),1,24):=by kernel_rfl
 cases e:Tryz.prog.info? 32 with
 | none=>rw [e] at h;simp at h
 | some i =>
  rw [e] at h
  simp only [Option.map_some,Option.some.injEq,Prod.mk.injEq] at h
  exact ⟨i,rfl,h.1,h.2.1,h.2.2⟩
theorem made_one (n o:Nat) (h:o<n):(madeCells #[Value.slice none 0 0] n)[o]? = some (Value.slice none 0 0):=by
 unfold madeCells
 rw [Array.getElem?_map,Array.getElem?_eq_getElem (by simpa using h),Array.getElem_range,Option.map_some]
 simp [Nat.mod_one]
end Go.Proofs.YthlnhheblhapgaaGreatDoor

namespace Go.Proofs.YthlnhheblhapgaaGreatDoor
open Go.RowKit
theorem FracAt.besideY {w W:World} {v:Value} {f:Rat} {l:List Nat} (h:FracAt w v f) (hb:But l w W) (hc:∀ g ∈ l,∃ s,w.cell? ⟨g,1,none⟩=some (.bool s)):FracAt W v f:=by
 rcases h with h1 | ⟨h1,b,v1,v2,h2,h3,h4,h5,h6⟩
 ·exact .inl h1
 ·have hbg:b ∉ l:=fun hm=>by
   obtain ⟨s,hs⟩:=hc b hm
   obtain ⟨a,cap,rfl,-⟩:=h6
   rw [hs] at h4
   simp at h4
  exact .inr ⟨h1,b,v1,v2,h2,hb.cell_some h3 hbg,hb.cell_some h4 hbg,h5.beside hb (fun g hg=>⟨1,hc g hg⟩),h6.beside hb (fun g hg=>⟨1,hc g hg⟩)⟩
def RowR (w:World) (g n:Nat) (F:Nat→Rat):Prop:=∀ k,k<n→LiesAt w g (k*4) (F k)
theorem RowR.but {w w':World} {g n:Nat} {F:Nat→Rat} (h:RowR w g n F) (hb:But [] w w'):RowR w' g n F:=fun k hk=>(h k hk).but hb
theorem RowR.besideY {w w':World} {g n:Nat} {F:Nat→Rat} {l:List Nat} (h:RowR w g n F) (hb:But l w w') (hc:∀ g ∈ l,∃ s,w.cell? ⟨g,1,none⟩=some (.bool s)):RowR w' g n F:=fun k hk=>by
 obtain ⟨s,x,y,p,h1,h2⟩:=h k hk
 have hn:g ∉ l:=fun hm=>by
  obtain ⟨t,ht⟩:=hc g hm
  obtain ⟨s0,x0,y0,p0,⟨-,a1,-,-⟩,-⟩:=h 0 (by omega)
  rw [Nat.zero_mul] at a1
  rw [ht] at a1
  simp at a1
 exact ⟨s,x,y,p,h1.but hb hn,h2.besideY hb hc⟩
theorem RowR.fracs {w:World} {g n:Nat} {F:Nat→Rat} (c:Nat) (hc:n≤c) (h:RowR w g n F):FracsAt w (.slice (some ⟨g,0,none⟩) n c) ((List.range n).map F) :=
 ⟨some ⟨g,0,none⟩,c,by simp,by simpa using hc,fun i f hf=>by
  rw [List.getElem?_map] at hf
  by_cases hi:i<n
  ·rw [List.getElem?_range hi] at hf
   simp only [Option.map_some,Option.some.injEq] at hf
   subst hf
   exact ⟨g,0,rfl,by rw [Nat.zero_add];exact h i hi⟩
  ·rw [List.getElem?_eq_none (by simpa using hi)] at hf
   simp at hf⟩
theorem RowOf.rowR {w:World} {g n:Nat} {F:Nat→Rat} (h:RowOf w g n F):RowR w g n F:=h.told
structure MatR (w:World) (go n:Nat) (M:Nat→Nat→Rat):Prop where
 lt:go<w.heap.size
 slcs:∀ i v,w.cell? ⟨go,i,none⟩=some v→∃ a m c,v=.slice a m c
 row:∀ i,i<n→∃ g,w.cell? ⟨go,i,none⟩=some (.slice (some ⟨g,0,none⟩) n n)∧RowR w g n (M i)
theorem MatR.but {w w':World} {go n:Nat} {M:Nat→Nat→Rat} (h:MatR w go n M) (hb:But [] w w'):MatR w' go n M :=
 ⟨Nat.lt_of_lt_of_le h.lt hb.size,fun i v hv=>h.slcs i v ((hb.cell (p:=⟨go,i,none⟩) h.lt (by simp)).symm.trans hv),fun i hi=>by
  obtain ⟨g,h1,h2⟩:=h.row i hi
  exact ⟨g,hb.cell_some h1 (by simp),h2.but hb⟩⟩
theorem MatR.besideY {w w':World} {go n:Nat} {M:Nat→Nat→Rat} {l:List Nat} (h:MatR w go n M) (hb:But l w w') (hc:∀ g ∈ l,∃ s,w.cell? ⟨g,1,none⟩=some (.bool s)):MatR w' go n M:=by
 have hn:go ∉ l:=fun hm=>by
  obtain ⟨s,hs⟩:=hc go hm
  obtain ⟨a,m,c,e⟩:=h.slcs 1 _ hs
  cases e
 exact ⟨Nat.lt_of_lt_of_le h.lt hb.size,fun i v hv=>h.slcs i v ((hb.cell (p:=⟨go,i,none⟩) h.lt hn).symm.trans hv),fun i hi=>by
  obtain ⟨g,h1,h2⟩:=h.row i hi
  exact ⟨g,hb.cell_some h1 hn,h2.besideY hb hc⟩⟩
def YrAt (w:World) (b o n:Nat) (M:Nat→Nat→Rat) (U:Rat):Prop:=∃ go,w.cell? ⟨b,o,none⟩=some (.slice (some ⟨go,0,none⟩) n n)∧MatR w go n M∧LiesAt w b (o+1) U
theorem YrAt.but {w w':World} {b o n:Nat} {M:Nat→Nat→Rat} {U:Rat} (h:YrAt w b o n M U) (hb:But [] w w'):YrAt w' b o n M U:=by
 obtain ⟨go,h1,h2,h3⟩:=h
 exact ⟨go,hb.cell_some h1 (by simp),h2.but hb,h3.but hb⟩
def ChainAt (w:World) (g ny n:Nat) (Y:Nat→Nat→Nat→Rat) (V:Nat→Rat):Prop:=w.cell? ⟨g,0,none⟩=some (.int .i64 (n:Int))∧∃ b off cap,w.cell? ⟨g,1,none⟩=some (.slice (some ⟨b,off,none⟩) ny cap)∧ny≤cap∧∀ j,j<ny→YrAt w b (off+j*5) n (Y j) (V j)
theorem ChainAt.but {w w':World} {g ny n:Nat} {Y:Nat→Nat→Nat→Rat} {V:Nat→Rat} (h:ChainAt w g ny n Y V) (hb:But [] w w'):ChainAt w' g ny n Y V:=by
 obtain ⟨h1,b,off,cap,h2,h3,h4⟩:=h
 exact ⟨hb.cell_some h1 (by simp),b,off,cap,hb.cell_some h2 (by simp),h3,fun j hj=>(h4 j hj).but hb⟩
def RwAt (w:World) (v:Value) (n:Nat) (R:Nat→Rat) (U:Rat):Prop:=∃ g s x y p,v=.agg #[.slice (some ⟨g,0,none⟩) n n,.bool s,.int .u64 x,.int .u64 y,.pointer p]∧RowR w g n R∧FracAt w (.agg #[.bool s,.int .u64 x,.int .u64 y,.pointer p]) U
end Go.Proofs.YthlnhheblhapgaaGreatDoor
