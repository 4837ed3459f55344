/- A law without the noughts at its end; a  -/
import Derived.RangeFuncNested
import Derived.RangeFuncBound
import Derived.RangeFuncCalls
import Derived.RangeFuncLeaves
import Derived.Shelf.Abstract
import Derived.Shelf.RegionOpen
import Derived.WalkKit
import Derived.OwnWalkIn
import Derived.TacticsInMore
import Derived.LoopNIn
import Derived.LoopIn
import Derived.Test.YtloojmaamaambaaGreatDoorProg
import Derived.Test.YtloojmaamaambaaGreatDoorKRKC
import Derived.Test.YtloojmaamaambaaGreatDoorKRKM
namespace Go.Proofs.YtloojmaamaambaaGreatDoor
open Go.RowKit
set_option maxHeartbeats 8000000
set_option maxRecDepth 100000
theorem quotient_any (vf vg:Value) (f g:Rat) (w:World) (hf:FracAt w vf f) (hg:FracAt w vg g) (lf:Len f 1000000) (lg:Len g 1000000) (h0:g.num≠0) :
  Calls Tryz.prog 76 #[vf,vg] w fun e w'=>∃ v,e=.returned v∧FracAt w' v (f/g)∧But [] w w':=by
 have DV:Hid (∀ (W:World),FracAt W vf f→FracAt W vg g→Calls Tryz.prog 46 #[vf,vg] W fun e w'=>∃ v,e=.returned (.tuple #[v,.nilIface])∧FracAt w' v (f/g)∧But [] W w'):=fun W h1 h2=>fracDiv_any vf vg f g W h1 h2 lf lg h0
 have HFA:=hide hf
 have HGA:=hide hg
 obtain ⟨x1,y1,p1,rfl,-⟩:=hf.agg
 obtain ⟨x2,y2,p2,rfl,-⟩:=hg.agg
 clear hf hg lf lg h0
 generalize hsf:decide (f.num<0)=s1 at *
 generalize hsg:decide (g.num<0)=s2 at *
 clear hsf hsg
 obtain ⟨W,hW⟩:∃ W,W=(((w.alloc (.cells #[.bool s1,.int .u64 x1,.int .u64 y1,.pointer p1] 29)).alloc (.cells #[.bool s2,.int .u64 x2,.int .u64 y2,.pointer p2] 29)).alloc (.cells #[.bool false,.int .u64 0,.int .u64 0,.pointer none] 29)):=⟨_,rfl⟩
 obtain ⟨tA,tB,tC,fz,hB⟩:=three_new w W _ _ _ _ hW
 have a0:=tA 0
 have a1:=tA 1
 have a2:=tA 2
 have a3:=tA 3
 have b0:=tB 0
 have b1:=tB 1
 have b2:=tB 2
 have b3:=tB 3
 have r0:=tC 0
 have r1:=tC 1
 have r2:=tC 2
 have r3:=tC 3
 simp only [List.getElem?_toArray,List.getElem?_cons_zero,List.getElem?_cons_succ] at a0 a1 a2 a3 b0 b1 b2 b3 r0 r1 r2 r3
 have BL:Hid (Blank W (w.heap.size+2)):=⟨r0,r1,r2,r3,fun j hj=>by rw [tC j];simp;omega⟩
 clear tA tB tC
 have HW:=hide hW
 have HB:=hide hB
 clear hW hB
 go_enter Tryz.func76,Tryz.ntmps76
 go_wp2_with fail
 rw [← unhide HW]
 obtain ⟨ga,hga⟩:∃ ga,ga=w.heap.size:=⟨_,rfl⟩
 obtain ⟨gb,hgb⟩:∃ gb,gb=w.heap.size+1:=⟨_,rfl⟩
 obtain ⟨gr,hgr⟩:∃ gr,gr=w.heap.size+2:=⟨_,rfl⟩
 rw [← hga] at a0 a1 a2 a3
 rw [← hgb] at b0 b1 b2 b3
 rw [← hgr] at r0 r1 r2 r3 fz BL
 rw [show w.heap.size+1+1=w.heap.size+2 from rfl,← hgr,← hgb,← hga]
 have HGR:Hid (w.heap.size≤gr):=by show _≤_;omega
 clear hga hgb hgr HW
 have grl:gr<W.heap.size:=lt_of_cell r0
 refine (unhide DV _ ((unhide HFA).but (unhide HB)) ((unhide HGA).but (unhide HB))).mono ?_
 rintro e w2 ⟨v2,rfl,hn2,hc2⟩
 have HN2:=hide hn2
 obtain ⟨x8,y8,p8,rfl,-⟩:=hn2.agg
 clear hn2
 generalize decide ((f/g).num<0)=r8 at *
 have u0:=hc2.cell_some r0 (by simp)
 have u1:=hc2.cell_some r1 (by simp)
 have u2:=hc2.cell_some r2 (by simp)
 have u3:=hc2.cell_some r3 (by simp)
 have uf:∀ j,w2.frozen? ⟨gr,j,none⟩=false:=fun j=>(hc2.frozen (p:=⟨gr,j,none⟩) grl (by simp)).trans (fz j)
 have B2:=hide hc2
 have gl2:gr<w2.heap.size:=lt_of_cell u0
 clear hc2 a0 a1 a2 a3 b0 b1 b2 b3 r0 r1 r2 r3 fz grl
 go_wp2
 have hBg:But [gr] w2 ((((w2.setCell ⟨gr,0,none⟩ (.bool r8)).setCell ⟨gr,1,none⟩ (.int .u64 x8)).setCell ⟨gr,2,none⟩ (.int .u64 y8)).setCell ⟨gr,3,none⟩ (.pointer p8)):=(((((But.refl [gr] w2).setCell (.inl (by simp)) _).setCell (.inl (by simp)) _).setCell (.inl (by simp)) _).setCell (.inl (by simp)) _)
 have hBf:=(((((unhide HB).trans' (unhide B2)).trans hBg (fun x hx=>by simp at hx;subst hx;exact .inr (unhide HGR)))).alloc (.cells #[.bool r8,.int .u64 x8,.int .u64 y8,.pointer p8] 29))
 exact bodyPost_ret (v:=.agg #[.bool r8,.int .u64 x8,.int .u64 y8,.pointer p8]) (by simp [results,Tryz.results76,go_sem,u0,u1,u2,u3,gl2]) rfl ⟨_,rfl,(((unhide BL).but (unhide B2)).frac (unhide HN2) hBg).but ((But.refl _ _).alloc _),hBf⟩
theorem short_any (b off cap n:Nat) (fs:List Rat) (m:Nat) (w:World) (hv:FracsAt w (.slice (some ⟨b,off,none⟩) n cap) fs) (hN:n=fs.length) (hcap:n≤cap) (hn:fs.length≤1000) (hm:m<fs.length) (h1:(fs[m]?.getD 0).num≠0) (h2:∀ j,m<j→j<fs.length→(fs[j]?.getD 0).num=0) :
  Calls Tryz.prog 55 #[.slice (some ⟨b,off,none⟩) n cap] w fun e w'=>e=.returned (.slice (some ⟨b,off,none⟩) (m+1) cap)∧FracsAt w' (.slice (some ⟨b,off,none⟩) (m+1) cap) (fs.take (m+1))∧But [] w w':=by
 have GR:=hide (greatest_any _ fs m w hv hn hm h1 h2)
 have HV:=hide hv
 have HN:=hide hN
 have hmn:m<n:=by omega
 have hm3:m<1000:=by omega
 clear hv h1 h2 hN hm
 go_enter Tryz.func55,Tryz.ntmps55
 go_wp2_with fail
 refine (unhide GR).mono ?_
 rintro e w1 ⟨rfl,hb1⟩
 have B1:=hide hb1
 clear hb1 GR
 have a1:(0:Int)≤(m:Int)+1:=by omega
 have a2:(m:Int)+1≤(cap:Int):=by omega
 have a3:((m:Int)+1).toNat=m+1:=by omega
 go_wp2
 go_ret
 refine ⟨rfl,?_,unhide B1⟩
 have h:=(unhide HV).but (unhide B1)
 rw [unhide HN] at h
 exact FracsAt.take (n:=m+1) (fs:=fs) h cap (by have:=unhide HN;omega) (by omega)
end Go.Proofs.YtloojmaamaambaaGreatDoor

namespace Go.Proofs.YtloojmaamaambaaGreatDoor
open Go.RowKit
theorem cmpZ_tells (x y:Rat) (r:Int) (hr:r=cmpZ (x.num*(y.den:Int)) (y.num*(x.den:Int))):(r<0↔x<y)∧(0<r↔y<x)∧(r=0↔x=y):=by
 have h1:x<y↔x.num*(y.den:Int)<y.num*(x.den:Int):=Rat.lt_iff x y
 have h2:y<x↔y.num*(x.den:Int)<x.num*(y.den:Int):=Rat.lt_iff y x
 have h3:x=y↔x.num*(y.den:Int)=y.num*(x.den:Int):=by
  constructor
  ·intro h;rw [h]
  ·intro h
   exact Rat.le_antisymm ((Rat.le_iff _ _).2 (by omega)) ((Rat.le_iff _ _).2 (by omega))
 rw [h1,h2,h3,hr]
 unfold cmpZ
 split
 ·omega
 ·split <;> omega
end Go.Proofs.YtloojmaamaambaaGreatDoor

namespace Go.Proofs.YtloojmaamaambaaGreatDoor
open Go.RowKit
theorem run_indexRK (a:Act) (w:World) (d t1 t2:Nat) (u:TypeId) (ps:String) (ed:Array Edge) (gd:Option (Nat × Bool)) (b off n c k:Nat) (hk:k<n) (_hn:n<1000000) (h1:a.eval (.tmp t1)=.slice (some ⟨b,off,none⟩) n c) (h2:a.eval (.tmp t2)=.int .i64 (k:Int)) :
  (execOp a.eval { dst:=some d,op:=Op.indexAddr 63 (.tmp t1) (.tmp t2),type:=u,pos:=ps,after:=ed,guard:=gd }).run Tryz.prog w=.ok (.value (.pointer (some ⟨b,off+k,none⟩))) w:=by
 unfold execOp
 simp only [h1,h2]
 go_simp
theorem run_loadRK (a:Act) (w:World) (d t:Nat) (u:TypeId) (ps:String) (ed:Array Edge) (gd:Option (Nat × Bool)) (b o:Nat) (q:Option Addr) (m c:Nat) (h1:a.eval (.tmp t)=.pointer (some ⟨b,o,none⟩)) (hc:w.cell? ⟨b,o,none⟩=some (.slice q m c)) :
  (execOp a.eval { dst:=some d,op:=Op.load 33 (.tmp t),type:=u,pos:=ps,after:=ed,guard:=gd }).run Tryz.prog w=.ok (.value (.slice q m c)) w:=by
 unfold execOp
 simp only [h1]
 go_simp
end Go.Proofs.YtloojmaamaambaaGreatDoor

namespace Go.Proofs.YtloojmaamaambaaGreatDoor
def sgR (f:Nat→Rat):Nat→Rat
 | 0=>0
 | k+1=>sgR f k+f k
theorem sgR_congr (f g:Nat→Rat):∀ n,(∀ k,k<n→f k=g k)→sgR f n=sgR g n
 | 0,_=>rfl
 | n+1,h=>by
  show sgR f n+f n=sgR g n+g n
  rw [sgR_congr f g n (fun k hk=>h k (by omega)),h n (by omega)]
theorem sgR_add (f g:Nat→Rat):∀ n,sgR (fun k=>f k+g k) n=sgR f n+sgR g n
 | 0=>by
  show (0:Rat)=0+0
  grind
 | n+1=>by
  show sgR _ n+(f n+g n)=sgR f n+f n+(sgR g n+g n)
  rw [sgR_add f g n];grind
theorem sgR_zero:∀ n,sgR (fun _=>0) n=0
 | 0=>rfl
 | n+1=>by
  show sgR (fun _=>0) n+0=0
  rw [sgR_zero n];grind
theorem sgR_one (i:Nat) (c:Nat→Rat):∀ n,sgR (fun t=>if t=i then c t else 0) n=if i<n then c i else 0
 | 0=>rfl
 | n+1=>by
  show sgR _ n+(if n=i then c n else 0)=_
  rw [sgR_one i c n]
  by_cases h:n=i
  ·subst h
   rw [if_neg (Nat.lt_irrefl _),if_pos rfl,if_pos (by omega)];grind
  ·rw [if_neg h]
   by_cases h2:i<n
   ·rw [if_pos h2,if_pos (by omega)];grind
   ·rw [if_neg h2,if_neg (by omega)];grind
theorem sgR_nonneg (f:Nat→Rat):∀ n,(∀ k,k<n→0≤f k)→0≤sgR f n
 | 0,_=>by
  show (0:Rat)≤0
  decide
 | n+1,h=>by
  have h1:=sgR_nonneg f n (fun k hk=>h k (by omega))
  have h2:=h n (by omega)
  show 0≤sgR f n+f n
  grind
theorem sgR_more (f:Nat→Rat) (m:Nat):∀ d,(∀ k,m≤k→f k=0)→sgR f (m+d)=sgR f m
 | 0,_=>rfl
 | d+1,h=>by
  show sgR f (m+d)+f (m+d)=_
  rw [sgR_more f m d h,h _ (by omega)];grind
def dnL (n:Nat):Nat→List Nat
 | 0=>[]
 | d+1=>dnL n d++[n-(d+1)]
theorem sgR_lin (f:Nat→Rat) (c:Rat):∀ n,sgR (fun k=>c*f k) n=c*sgR f n
 | 0=>by
  show (0:Rat)=c*0
  grind
 | n+1=>by
  show sgR (fun k=>c*f k) n+c*f n=c*(sgR f n+f n)
  rw [sgR_lin f c n];grind
end Go.Proofs.YtloojmaamaambaaGreatDoor

namespace Go.Proofs.YtloojmaamaambaaGreatDoor
open Go.RowKit
theorem chk_some {fs:List Rat} (h:chkE fs=0):0<fs.length∧fs.length≤201∧(∀ f ∈ fs,0≤f)∧sumR fs=1:=by
 unfold chkE at h
 by_cases h1:fs.length<1∨201<fs.length
 ·rw [if_pos h1] at h;simp at h
 ·rw [if_neg h1] at h
  by_cases h2:fs.any (fun f=>decide (f.num<0))=true
  ·rw [if_pos h2] at h;simp at h
  ·rw [if_neg h2] at h
   by_cases h3:sumR fs=1
   ·refine ⟨by omega,by omega,fun f hf=>?_,h3⟩
    have h4:fs.any (fun f=>decide (f.num<0))=false:=by simpa using h2
    rw [List.any_eq_false] at h4
    have:=h4 f hf
    simp at this
    exact this
   ·rw [if_neg h3] at h;simp at h
end Go.Proofs.YtloojmaamaambaaGreatDoor

namespace Go.Proofs.YtloojmaamaambaaGreatDoor
open Go.RowKit
theorem sumR_is (fs:List Rat):∀ k,k≤fs.length→sumR (fs.take k)=sgR (fun j=>fs[j]?.getD 0) k
 | 0,_=>rfl
 | k+1,h=>by
  rw [sumR_take fs k (by omega),sumR_is fs k (by omega)]
  rfl
theorem sumR_all (fs:List Rat):sumR fs=sgR (fun j=>fs[j]?.getD 0) fs.length:=by
 have h:=sumR_is fs fs.length (Nat.le_refl _)
 rw [List.take_length] at h
 exact h
end Go.Proofs.YtloojmaamaambaaGreatDoor
