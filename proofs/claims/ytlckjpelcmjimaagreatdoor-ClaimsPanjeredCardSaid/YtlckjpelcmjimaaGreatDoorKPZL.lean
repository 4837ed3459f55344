/- Panjer, as the Go text of package claims -/
import Derived.Test.YtlckjpelcmjimaaGreatDoorKPZK
import Derived.Test.YtlckjpelcmjimaaGreatDoorKPZP
namespace Go.Proofs.YtlckjpelcmjimaaGreatDoor
open Go.RowKit
set_option maxHeartbeats 16000000
set_option maxRecDepth 100000
theorem panjer_ok (n U nn cc b off mm:Nat) (s1:Bool) (x1 y1:Int) (p1:Option Addr) (f:Rat) (fs:List Rat) (mx:Int) (w:World) (hf:am w (.agg #[.bool s1,.int .u64 x1,.int .u64 y1,.pointer p1]) f) (lf1:Len f 1) (hn:n≤8) (h0:0≤f) (hlt:f<1)
  (hfs:an w (.slice (some ⟨b,off,none⟩) nn cc) fs) (hnn:nn=fs.length) (hn1:1≤nn) (hn2:nn≤60) (hnc:nn≤cc) (hU:U≤60) (hmm:mm=min nn (U+1)) (lfs:∀ g ∈ fs,Len g 1) (hck:chkE fs=0)
  (htab:Lib.TabIs Tryz.prog w "internal/strconv.uint64pow10" .u64 Lib.pow10Tab) (hmx:w.cell? ⟨4,0,none⟩=some (.int .i64 mx))
  (hb0:lf (ay (baL fs (f/(((1:Int):Rat)-f)) mm)) 0≠0) (hu0:0<comN 1 (baL fs (f/(((1:Int):Rat)-f)) mm)) (lbl:∀ g ∈ baL fs (f/(((1:Int):Rat)-f)) mm,Len g 8) (lwl:∀ g ∈ ay (baL fs (f/(((1:Int):Rat)-f)) mm),Len g 100) (lu:Len (((comN 1 (baL fs (f/(((1:Int):Rat)-f)) mm):Nat):Int):Rat) 100) (lp:∀ i,i≤U→Len (pw (lf (ay (baL fs (f/(((1:Int):Rat)-f)) mm))) n i) 1000) :
  Calls Tryz.prog 15 #[.agg #[.int .i64 1,.int .i64 (n:Int),.bool s1,.int .u64 x1,.int .u64 y1,.pointer p1],.slice (some ⟨b,off,none⟩) nn cc,.int .i64 (U:Int)] w fun e w'=>∃ g,e=.returned (.tuple #[.slice (some ⟨g,0,none⟩) (U+1) (U+1),.nilIface])∧Row4 w' g (U+1) (U+1) (fun i=>pw (lf (ay (baL fs (f/(((1:Int):Rat)-f)) mm))) n i*(rpow (((comN 1 (baL fs (f/(((1:Int):Rat)-f)) mm):Nat):Int):Rat)⁻¹ n*rpow (((1:Int):Rat)-f) n))∧But [] w w':=by
 have l1:Len (((1:Int):Rat)) 1:=len_int 1 (by decide)
 have ls:Len (((1:Int):Rat)-f) 3:=len_sub l1 lf1 _ (by omega)
 have lno:Len (rpow (((1:Int):Rat)-f) n) 24:=len_rpow8 ls hn (by omega)
 have hne0:(((1:Int):Rat)-f).num≠0:=fun h=>by
  have h1:=Rat.num_eq_zero.1 h
  have e:((1:Int):Rat)=1:=rfl
  rw [e] at h1
  grind
 have lra:Len (f/(((1:Int):Rat)-f)) 5:=len_div lf1 ls hne0 _ (by omega)
 have CK:=af (fun W (h:But [] w W)=>numCheck_any n s1 x1 y1 p1 f W (hf.but h) (lf1.mono (by omega)) (by omega))
 rw [if_pos ⟨h0,hlt⟩] at CK
 have CL:=af (fun W (h:But [] w W)=>lawCheck_any _ fs 1 W (hfs.but h) (by omega) lfs (by omega))
 rw [hck,show errV 0=.nilIface from rfl] at CL
 have CS:=af (fun W=>checkSize_any (U:Int) W)
 rw [if_neg (show ¬ ((U:Int)<0∨200<(U:Int)) by omega)] at CS
 have FO:=af (fun W (h:But [] w W)=>formOf_any n s1 x1 y1 p1 f W (hf.but h) lf1 hn hlt)
 have TG:=af (fun W (h:But [] w W) a1 a2 a3 a4 b1 b2 b3 b4 hno hra=>together_any n U nn cc b off mm a1 a2 a3 a4 b1 b2 b3 b4 fs (rpow (((1:Int):Rat)-f) n) (f/(((1:Int):Rat)-f)) mx W (hfs.but h) hnn hn1 hn2 hnc hU hmm hno hra lfs lra lno hn (TabIs.but htab h) (h.ag hmx (by simp)) hb0 hu0 lbl lwl lu lp)
 obtain ⟨F,hF⟩:∃ F:Nat→Rat,F=fun i=>pw (lf (ay (baL fs (f/(((1:Int):Rat)-f)) mm))) n i*(rpow (((comN 1 (baL fs (f/(((1:Int):Rat)-f)) mm):Nat):Int):Rat)⁻¹ n*rpow (((1:Int):Rat)-f) n):=⟨_,rfl⟩
 rw [← hF] at TG ⊢
 generalize rpow (((1:Int):Rat)-f) n=no at *
 generalize f/(((1:Int):Rat)-f)=r at *
 clear hf lf1 l1 ls lno lra h0 hlt hne0 hfs hnn lfs hck htab hmx hb0 hu0 lbl lwl lu lp hF hmm
 go_enter Tryz.func15,Tryz.ntmps15
 go_wp2_with fail
 have bA:But [] w (w.alloc (.cells #[.int .i64 1,.int .i64 (n:Int),.bool s1,.int .u64 x1,.int .u64 y1,.pointer p1] 32)):=(But.refl [] w).alloc _
 have xA:=SBox.new w [.int .i64 1,.int .i64 (n:Int),.bool s1,.int .u64 x1,.int .u64 y1,.pointer p1] 32
 refine (ae CK _ bA).mono ?_
 rintro e w1 ⟨rfl,hb1⟩
 have B1:=af (bA.trans' hb1)
 have XA:=af (xA.but hb1 (by simp) (by simp))
 generalize w.heap.size=g3 at XA ⊢
 clear hb1 CK bA xA
 go_wp2_with fail
 refine (ae CL _ (ae B1)).mono ?_
 rintro e w2 ⟨rfl,hb2⟩
 have B2:=af ((ae B1).trans' hb2)
 have xA2:=(ae XA).but hb2 (by simp) (by simp)
 have a0:=xA2.cells 0 _ rfl
 have a1:=xA2.cells 1 _ rfl
 have a2:=xA2.cells 2 _ rfl
 have a3:=xA2.cells 3 _ rfl
 have a4:=xA2.cells 4 _ rfl
 have a5:=xA2.cells 5 _ rfl
 clear hb2 CL XA xA2 B1
 go_wp2_with fail
 refine (ae CS _).mono ?_
 rintro e w2' ⟨rfl,rfl⟩
 go_wp2_with fail
 refine (ae FO _ (ae B2)).mono ?_
 rintro e w3 ⟨u1,u2,u3,u4,v1,v2,v3,v4,rfl,hno,hra,hb3⟩
 have B3:=af ((ae B2).trans' hb3)
 have TG3:=af (ae TG w3 (ae B3) u1 u2 u3 u4 v1 v2 v3 v4 hno hra)
 clear hno hra hb3 FO CS TG a0 a1 a2 a3 a4 a5 B2
 go_wp2_with fail
 refine (ae TG3).mono ?_
 rintro e w4 ⟨g,rfl,hr4,hb4⟩
 have R4:=af hr4
 have B4:=af ((ae B3).trans' hb4)
 clear hr4 hb4 TG3 B3
 go_wp2
 exact bodyPost_ret (v:=.tuple #[.slice (some ⟨g,0,none⟩) (U+1) (U+1),.nilIface]) (by simp [results,Tryz.results15,go_sem]) rfl ⟨g,rfl,ae R4,ae B4⟩
def PanT (n:Nat) (F:Nat→Rat) (w:World) (v:Value):Prop:=∃ u,v=.tuple #[u,.nilIface]∧RowB 0 n F w u
theorem PanT.but {n:Nat} {F:Nat→Rat} {w w':World} {v:Value} (h:PanT n F w v) (hb:But [] w w'):PanT n F w' v:=by
 obtain ⟨u,e,hu⟩:=h
 exact ⟨u,e,hu.but hb⟩
theorem run_ldNumZ (a:Act) (w:World) (d t:Nat) (u:TypeId) (ps:String) (ed:Array Edge) (gd:Option (Nat × Bool)) (b:Nat) (z1 z2:Int) (s1:Bool) (x1 y1:Int) (p1:Option Addr) (h1:a.eval (.tmp t)=.pointer (some ⟨b,0,none⟩)) (hc:SBox w b [.int .i64 z1,.int .i64 z2,.bool s1,.int .u64 x1,.int .u64 y1,.pointer p1]) :
  (execOp a.eval { dst:=some d,op:=Op.load 32 (.tmp t),type:=u,pos:=ps,after:=ed,guard:=gd }).run Tryz.prog w=.ok (.value (.agg #[.int .i64 z1,.int .i64 z2,.bool s1,.int .u64 x1,.int .u64 y1,.pointer p1])) w:=by
 have c0:=hc.cells 0 _ rfl
 have c1:=hc.cells 1 _ rfl
 have c2:=hc.cells 2 _ rfl
 have c3:=hc.cells 3 _ rfl
 have c4:=hc.cells 4 _ rfl
 have c5:=hc.cells 5 _ rfl
 unfold execOp
 simp only [h1]
 go_simp
theorem run_sub1Z (a:Act) (w:World) (d t1:Nat) (u:TypeId) (ps:String) (ed:Array Edge) (gd:Option (Nat × Bool)) (m:Nat) (hm:m≤1000000) (h1:a.eval (.tmp t1)=.int .i64 ((m+1:Nat):Int)) :
  (execOp a.eval { dst:=some d,op:=Op.binOp BinOp.sub 3 (.tmp t1) (Operand.const (Value.int IntKind.i64 1)) 3,type:=u,pos:=ps,after:=ed,guard:=gd }).run Tryz.prog w=.ok (.value (.int .i64 (m:Int))) w:=by
 have e:a.eval (.const (.int .i64 1))=.int .i64 1:=rfl
 unfold execOp
 simp only [h1,e]
 go_simp
 rw [IntKind.wrap_i64]
 omega
theorem run_plawZ (a:Act) (w:World) (d t0:Nat) (u:TypeId) (ps:String) (ed:Array Edge) (gd:Option (Nat × Bool)) (z0:Value) (h0:a.eval (.tmp t0)=z0) :
  (execOp a.eval { dst:=some d,op:=Op.call { callee:=Callee.value (Operand.func 13),args:=#[Operand.tmp t0],argTypes:=#[24] },type:=u,pos:=ps,after:=ed,guard:=gd }).run Tryz.prog w=.ok (.enter 13 #[z0]) w:=by
 unfold execOp
 go_simp
 rw [← h0]
 simp [Act.eval]
theorem run_panZ (a:Act) (w:World) (d t0 t1 t2:Nat) (u:TypeId) (ps:String) (ed:Array Edge) (gd:Option (Nat × Bool)) (z0 z1 z2:Value) (h0:a.eval (.tmp t0)=z0) (h1:a.eval (.tmp t1)=z1) (h2:a.eval (.tmp t2)=z2) :
  (execOp a.eval { dst:=some d,op:=Op.call { callee:=Callee.value (Operand.func 15),args:=#[Operand.tmp t0,Operand.tmp t1,Operand.tmp t2],argTypes:=#[32,38,3] },type:=u,pos:=ps,after:=ed,guard:=gd }).run Tryz.prog w=.ok (.enter 15 #[z0,z1,z2]) w:=by
 unfold execOp
 go_simp
 rw [← h0,← h1,← h2]
 simp [Act.eval]
def opZk0:Oper:={ dst:=some 52,op:=Op.load 32 (Operand.tmp 7),type:=32,pos:= "keep.go:475",after:=#[],guard:=none }
def opZk1:Oper:={ dst:=some 53,op:=Op.move (Operand.tmp 2),type:=24,pos:= "keep.go:475",after:=#[],guard:=none }
def opZk2:Oper:={ dst:=some 54,op:=Op.call { callee:=Callee.value (Operand.func 13),args:=#[Operand.tmp 53],argTypes:=#[24] },type:=38,pos:= "keep.go:475",after:=#[⟨1,.data⟩],guard:=none }
def opZk3:Oper:={ dst:=some 55,op:=Op.move (Operand.tmp 10),type:=38,pos:= "keep.go:475",after:=#[],guard:=none }
def opZk4:Oper:={ dst:=some 56,op:=Op.call { callee:=Callee.builtin Builtin.len,args:=#[Operand.tmp 55],argTypes:=#[38] },type:=3,pos:= "keep.go:475",after:=#[⟨3,.data⟩],guard:=none }
def opZk5:Oper:={ dst:=some 57,op:=Op.binOp BinOp.sub 3 (Operand.tmp 56) (Operand.const (Value.int IntKind.i64 1)) 3,type:=3,pos:= "keep.go:475",after:=#[⟨4,.data⟩],guard:=none }
def opZk6:Oper:={ dst:=some 58,op:=Op.call { callee:=Callee.value (Operand.func 15),args:=#[Operand.tmp 52,Operand.tmp 54,Operand.tmp 57],argTypes:=#[32,38,3] },type:=36,pos:= "keep.go:475",after:=#[⟨0,.data⟩,⟨2,.data⟩,⟨5,.data⟩,⟨2,.chain⟩],guard:=none }
def opZk7:Oper:={ dst:=some 51,op:=Op.move (Operand.tmp 58),type:=36,pos:= "keep.go:475",after:=#[⟨6,.data⟩],guard:=none }
def opZk8:Oper:={ dst:=some 59,op:=Op.extract (Operand.tmp 51) 0,type:=33,pos:= "keep.go:475",after:=#[⟨7,.data⟩],guard:=none }
def opZk9:Oper:={ dst:=some 60,op:=Op.extract (Operand.tmp 51) 1,type:=35,pos:= "keep.go:475",after:=#[⟨7,.data⟩,{ on:=10,ground:=Ground.gcOnly Departure.lateStores }],guard:=none }
def opZk10:Oper:={ dst:=some 12,op:=Op.assign (Operand.tmp 59),type:=33,pos:= "keep.go:475",after:=#[⟨8,.data⟩,⟨6,.chain⟩,⟨0,.phase⟩,⟨1,.phase⟩,⟨2,.phase⟩,⟨3,.phase⟩,⟨4,.phase⟩,⟨5,.phase⟩,⟨6,.phase⟩,⟨7,.phase⟩,⟨8,.phase⟩,{ on:=9,ground:=Ground.textOnly Departure.lateStores }],guard:=none }
def opZk11:Oper:={ dst:=some 9,op:=Op.assign (Operand.tmp 60),type:=35,pos:= "keep.go:475",after:=#[⟨9,.data⟩,⟨10,.chain⟩,⟨0,.phase⟩,⟨1,.phase⟩,⟨2,.phase⟩,⟨3,.phase⟩,⟨4,.phase⟩,⟨5,.phase⟩,⟨6,.phase⟩,⟨7,.phase⟩,⟨8,.phase⟩,⟨9,.phase⟩,⟨10,.phase⟩],guard:=none }
def opZks:Array Oper:=#[opZk0,opZk1,opZk2,opZk3,opZk4,opZk5,opZk6,opZk7,opZk8,opZk9,opZk10,opZk11]
def opZkT (i:Nat):Nat:=match i with
 | 0=>52
 | 1=>53
 | 2=>54
 | 3=>55
 | 4=>56
 | 5=>57
 | 6=>58
 | 7=>51
 | 8=>59
 | 9=>60
 | 10=>12
 | _=>9
def opZkC (n:Int) (s1:Bool) (x1:Int) (y1:Int) (p1:Option Addr) (qa:Option Addr) (qn:Nat) (qc:Nat) (gl:Nat) (U:Nat) (fs:List Rat) (F:Nat→Rat) (i:Nat) (w:World) (v:Value):Prop:=match i with
 | 0=>v=.agg #[.int .i64 1,.int .i64 n,.bool s1,.int .u64 x1,.int .u64 y1,.pointer p1]
 | 1=>v=.slice qa qn qc
 | 2=>an w v fs
 | 3=>v=.slice (some ⟨gl,0,none⟩) (U+1) (U+1)
 | 4=>v=.int .i64 ((U+1:Nat):Int)
 | 5=>v=.int .i64 (U:Int)
 | 6=>PanT (U+1) F w v
 | 7=>PanT (U+1) F w v
 | 8=>RowB 0 (U+1) F w v
 | 9=>v=.nilIface
 | 10=>RowB 0 (U+1) F w v
 | _=>v=.nilIface
theorem opZkC_but {n:Int} {s1:Bool} {x1:Int} {y1:Int} {p1:Option Addr} {qa:Option Addr} {qn:Nat} {qc:Nat} {gl:Nat} {U:Nat} {fs:List Rat} {F:Nat→Rat} {i:Nat} {w w':World} {v:Value} (h:opZkC n s1 x1 y1 p1 qa qn qc gl U fs F i w v) (hi:i<12) (hb:But [] w w'):opZkC n s1 x1 y1 p1 qa qn qc gl U fs F i w' v:=by
 have:i=0∨i=1∨i=2∨i=3∨i=4∨i=5∨i=6∨i=7∨i=8∨i=9∨i=10∨i=11:=by omega
 rcases this with rfl | rfl | rfl | rfl | rfl | rfl | rfl | rfl | rfl | rfl | rfl | rfl
 all_goals first | exact h | exact am.but h hb | exact an.but h hb | exact RowB.but h hb | exact PanT.but h hb
theorem opZkT_inj:∀ i j,i<12→j<12→opZkT i=opZkT j→i=j:=fun i j hi hj=>(by decide:∀ i,i<12→∀ j,j<12→opZkT i=opZkT j→i=j) i hi j hj
theorem panjered_region9 (id:Nat) (Q:Exit→Act→World→Prop) (base:Act) (W0:World) (n:Int) (s1:Bool) (x1:Int) (y1:Int) (p1:Option Addr) (qa:Option Addr) (qn:Nat) (qc:Nat) (gl:Nat) (U:Nat) (fs:List Rat) (F:Nat→Rat) (hs:60<base.tmps.size) (g7:Nat) (e7:base.eval (.tmp 7)=.pointer (some ⟨g7,0,none⟩)) (e2:base.eval (.tmp 2)=.slice qa qn qc) (e10:base.eval (.tmp 10)=.slice (some ⟨gl,0,none⟩) (U+1) (U+1))
  (hU:U≤1000000) (x7:SBox W0 g7 [.int .i64 1,.int .i64 n,.bool s1,.int .u64 x1,.int .u64 y1,.pointer p1])
  (PL:∀ w,But [] W0 w→Calls Tryz.prog 13 #[.slice qa qn qc] w fun e w'=>∃ v,e=.returned v∧an w' v fs∧But [] w w')
  (PA:∀ w,But [] W0 w→∀ v,an w v fs→Calls Tryz.prog 15 #[.agg #[.int .i64 1,.int .i64 n,.bool s1,.int .u64 x1,.int .u64 y1,.pointer p1],v,.int .i64 (U:Int)] w fun e w'=>∃ v,e=.returned v∧PanT (U+1) F w' v∧But [] w w')
  (hQ:∀ w (v2:Value) (v6:Value) (v7:Value) (v8:Value) (v10:Value),But [] W0 w→(RowB 0 (U+1) F w v10)→Q .normal (bb base [(52,.agg #[.int .i64 1,.int .i64 n,.bool s1,.int .u64 x1,.int .u64 y1,.pointer p1]),(53,.slice qa qn qc),(54,v2),(55,.slice (some ⟨gl,0,none⟩) (U+1) (U+1)),(56,.int .i64 ((U+1:Nat):Int)),(57,.int .i64 (U:Int)),(58,v6),(51,v7),(59,v8),(60,.nilIface),(12,v10),(9,.nilIface)]) w) :
  (Code.region id opZks true).wp Tryz.prog Q base W0:=by
 have hdr:∀ {w},But [] W0.drew w→But [] W0 w:=fun h=>(But.refl _ _).drew.trans' h
 have hT:∀ i,i<12→opZkT i<base.tmps.size:=fun i hi=>by
  have h:opZkT i≤60:=by revert i;decide
  omega
 refine region_go (by kernel_rfl) (low_of (by kernel_rfl)) (opZkC n s1 x1 y1 p1 qa qn qc gl U fs F) opZkT (by kernel_rfl) ?_ opZkT_inj hT (fun i w w' v hi h hb=>opZkC_but h hi hb) ?_ ?_
 ·intro i o j want ho hg w v hv
  have hi:i<12:=(Array.getElem?_eq_some_iff.1 ho).1
  have:i=0∨i=1∨i=2∨i=3∨i=4∨i=5∨i=6∨i=7∨i=8∨i=9∨i=10∨i=11:=by omega
  rcases this with rfl | rfl | rfl | rfl | rfl | rfl | rfl | rfl | rfl | rfl | rfl | rfl
  ·obtain rfl:=Option.some.inj ((show opZks[0]? = some opZk0 from rfl).symm.trans ho)
   exact absurd (show (none:Option (Nat × Bool))=some (j,want) from hg) (by simp)
  ·obtain rfl:=Option.some.inj ((show opZks[1]? = some opZk1 from rfl).symm.trans ho)
   exact absurd (show (none:Option (Nat × Bool))=some (j,want) from hg) (by simp)
  ·obtain rfl:=Option.some.inj ((show opZks[2]? = some opZk2 from rfl).symm.trans ho)
   exact absurd (show (none:Option (Nat × Bool))=some (j,want) from hg) (by simp)
  ·obtain rfl:=Option.some.inj ((show opZks[3]? = some opZk3 from rfl).symm.trans ho)
   exact absurd (show (none:Option (Nat × Bool))=some (j,want) from hg) (by simp)
  ·obtain rfl:=Option.some.inj ((show opZks[4]? = some opZk4 from rfl).symm.trans ho)
   exact absurd (show (none:Option (Nat × Bool))=some (j,want) from hg) (by simp)
  ·obtain rfl:=Option.some.inj ((show opZks[5]? = some opZk5 from rfl).symm.trans ho)
   exact absurd (show (none:Option (Nat × Bool))=some (j,want) from hg) (by simp)
  ·obtain rfl:=Option.some.inj ((show opZks[6]? = some opZk6 from rfl).symm.trans ho)
   exact absurd (show (none:Option (Nat × Bool))=some (j,want) from hg) (by simp)
  ·obtain rfl:=Option.some.inj ((show opZks[7]? = some opZk7 from rfl).symm.trans ho)
   exact absurd (show (none:Option (Nat × Bool))=some (j,want) from hg) (by simp)
  ·obtain rfl:=Option.some.inj ((show opZks[8]? = some opZk8 from rfl).symm.trans ho)
   exact absurd (show (none:Option (Nat × Bool))=some (j,want) from hg) (by simp)
  ·obtain rfl:=Option.some.inj ((show opZks[9]? = some opZk9 from rfl).symm.trans ho)
   exact absurd (show (none:Option (Nat × Bool))=some (j,want) from hg) (by simp)
  ·obtain rfl:=Option.some.inj ((show opZks[10]? = some opZk10 from rfl).symm.trans ho)
   exact absurd (show (none:Option (Nat × Bool))=some (j,want) from hg) (by simp)
  ·obtain rfl:=Option.some.inj ((show opZks[11]? = some opZk11 from rfl).symm.trans ho)
   exact absurd (show (none:Option (Nat × Bool))=some (j,want) from hg) (by simp)
 ·intro i o a w K ho hH he hdep hk
  have hi:i<12:=(Array.getElem?_eq_some_iff.1 ho).1
  have hD:=dep_have (ps:=[(2,1),(4,3),(5,4),(6,0),(6,2),(6,5),(7,6),(8,7),(9,7),(10,0),(10,1),(10,2),(10,3),(10,4),(10,5),(10,6),(10,7),(10,8),(11,0),(11,1),(11,2),(11,3),(11,4),(11,5),(11,6),(11,7),(11,8),(11,9),(11,10)]) (by kernel_rfl) ho (fun j=>opZkC n s1 x1 y1 p1 qa qn qc gl U fs F j w (a.eval (.tmp (opZkT j)))) hdep
  have e7':=(he 7 (fun j hj e=>absurd e.symm (by revert j;decide))).trans e7
  have e2':=(he 2 (fun j hj e=>absurd e.symm (by revert j;decide))).trans e2
  have e10':=(he 10 (fun j hj e=>absurd e.symm (by revert j;decide))).trans e10
  have:i=0∨i=1∨i=2∨i=3∨i=4∨i=5∨i=6∨i=7∨i=8∨i=9∨i=10∨i=11:=by omega
  rcases this with rfl | rfl | rfl | rfl | rfl | rfl | rfl | rfl | rfl | rfl | rfl | rfl
  ·obtain rfl:=Option.some.inj ((show opZks[0]? = some opZk0 from rfl).symm.trans ho)
   exact al (run_ldNumZ a w _ _ _ _ _ _ g7 _ _ _ _ _ _ e7' (x7.but (hdr hH) (by simp) (by simp))) (hk _ _ (But.refl _ _) rfl)
  ·obtain rfl:=Option.some.inj ((show opZks[1]? = some opZk1 from rfl).symm.trans ho)
   exact al (bh a w _ _ _ _ _ _ _ e2') (hk _ _ (But.refl _ _) rfl)
  ·obtain rfl:=Option.some.inj ((show opZks[2]? = some opZk2 from rfl).symm.trans ho)
   exact av (run_plawZ a w _ _ _ _ _ _ _ (hD 1 (by simp))) (R:=fun w' v=>an w' v fs∧But [] w w') (PL w (hdr hH)) (fun v w' hv=>hk v w' hv.2 hv.1)
  ·obtain rfl:=Option.some.inj ((show opZks[3]? = some opZk3 from rfl).symm.trans ho)
   exact al (bh a w _ _ _ _ _ _ _ e10') (hk _ _ (But.refl _ _) rfl)
  ·obtain rfl:=Option.some.inj ((show opZks[4]? = some opZk4 from rfl).symm.trans ho)
   exact al (run_lenZ a w _ _ _ _ _ _ _ _ _ (hD 3 (by simp))) (hk _ _ (But.refl _ _) rfl)
  ·obtain rfl:=Option.some.inj ((show opZks[5]? = some opZk5 from rfl).symm.trans ho)
   exact al (run_sub1Z a w _ _ _ _ _ _ U hU (hD 4 (by simp))) (hk _ _ (But.refl _ _) rfl)
  ·obtain rfl:=Option.some.inj ((show opZks[6]? = some opZk6 from rfl).symm.trans ho)
   exact av (run_panZ a w _ _ _ _ _ _ _ _ _ _ _ (hD 0 (by simp)) rfl (hD 5 (by simp))) (R:=fun w' v=>PanT (U+1) F w' v∧But [] w w') (PA w (hdr hH) _ (hD 2 (by simp))) (fun v w' hv=>hk v w' hv.2 hv.1)
  ·obtain rfl:=Option.some.inj ((show opZks[7]? = some opZk7 from rfl).symm.trans ho)
   exact al (bh a w _ _ _ _ _ _ _ rfl) (hk _ _ (But.refl _ _) (hD 6 (by simp)))
  ·obtain rfl:=Option.some.inj ((show opZks[8]? = some opZk8 from rfl).symm.trans ho)
   obtain ⟨u,eu,hu⟩:PanT (U+1) F w _:=(hD 7 (by simp))
   exact al (run_exK a w _ _ _ _ _ _ _ _ u eu rfl) (hk _ _ (But.refl _ _) hu)
  ·obtain rfl:=Option.some.inj ((show opZks[9]? = some opZk9 from rfl).symm.trans ho)
   obtain ⟨u,eu,hu⟩:PanT (U+1) F w _:=(hD 7 (by simp))
   exact al (run_exK a w _ _ _ _ _ _ _ _ .nilIface eu rfl) (hk _ _ (But.refl _ _) rfl)
  ·obtain rfl:=Option.some.inj ((show opZks[10]? = some opZk10 from rfl).symm.trans ho)
   exact al (run_asK a w _ _ _ _ _ _ _ rfl) (hk _ _ (But.refl _ _) (hD 8 (by simp)))
  ·obtain rfl:=Option.some.inj ((show opZks[11]? = some opZk11 from rfl).symm.trans ho)
   exact al (run_asK a w _ _ _ _ _ _ _ (hD 9 (by simp))) (hk _ _ (But.refl _ _) rfl)
 ·intro a w h
  have ea:=h.puts hT (fun i=>match i with
   | 0=>.agg #[.int .i64 1,.int .i64 n,.bool s1,.int .u64 x1,.int .u64 y1,.pointer p1]
   | 1=>.slice qa qn qc
   | 2=>a.eval (.tmp 54)
   | 3=>.slice (some ⟨gl,0,none⟩) (U+1) (U+1)
   | 4=>.int .i64 ((U+1:Nat):Int)
   | 5=>.int .i64 (U:Int)
   | 6=>a.eval (.tmp 58)
   | 7=>a.eval (.tmp 51)
   | 8=>a.eval (.tmp 59)
   | 9=>.nilIface
   | 10=>a.eval (.tmp 12)
   | _=>.nilIface) (fun i hi=>by
   have hi':i<12:=hi
   have hc:=h.has i hi rfl
   have:i=0∨i=1∨i=2∨i=3∨i=4∨i=5∨i=6∨i=7∨i=8∨i=9∨i=10∨i=11:=by omega
   rcases this with rfl | rfl | rfl | rfl | rfl | rfl | rfl | rfl | rfl | rfl | rfl | rfl
   all_goals first | exact hc | rfl)
  rw [ea]
  exact hQ w (a.eval (.tmp 54)) (a.eval (.tmp 58)) (a.eval (.tmp 51)) (a.eval (.tmp 59)) (a.eval (.tmp 12)) (hdr h.but) (h.has 10 (by decide) rfl)
theorem panj_many (a:Option Addr) (n c:Nat) (y:Int) (q1 q2:Int) (w:World) (hn:8<n) :
  Calls Tryz.prog 3 #[.int .i64 y,.agg #[.int .i64 q1,.int .i64 q2],.slice a n c] w fun e w'=>e=.returned (.bool true)∧But [] w w':=by
 go_enter Tryz.func3,Tryz.ntmps3
 go_wp2
 go_ret
 exact ⟨rfl,(But.refl _ _).alloc _⟩
theorem panj_bad (v:Value) (qs:List (Int × Int)) (y:Int) (hy:-9223372036854775808≤y∧y<9223372036854775808) (q:Int × Int) (hq:Fits q) (mx:Int) (w:World) (hv:QsAt w v qs) (hf:∀ q ∈ qs,Fits q) (hl8:qs.length≤8)
  (htab:Lib.TabIs Tryz.prog w "internal/strconv.uint64pow10" .u64 Lib.pow10Tab) (hmx:w.cell? ⟨4,0,none⟩=some (.int .i64 mx)) (hbad:¬ (0≤qf q∧qf q<1)) :
  Calls Tryz.prog 3 #[.int .i64 y,.agg #[.int .i64 q.1,.int .i64 q.2],v] w fun e w'=>e=.returned (.bool true)∧But [] w w':=by
 obtain ⟨r1,x1,y1,lq,FQ,CQ⟩:=plainF_at q hq
 have lfs:∀ g ∈ qs.map qf,Len g 1:=fits_lenK hf
 obtain ⟨n,hn⟩:∃ n:Nat,n=((if y<0 then y + 18446744073709551616 else y)%9).toNat:=⟨_,rfl⟩
 have hn8:n≤8:=by omega
 have PK:=af (fun W=>pick_gen y 9 hy.1 hy.2 (by omega) (by omega) W)
 rw [← hn] at PK
 have LS:=af (fun W (h:But [] w W)=>plainLaw_any v qs W (hv.but h) hf (by omega))
 have DI:=af (fun W (h:But [] w W)=>dice_any mx W (TabIs.but htab h) (h.ag hmx (by simp)))
 have HTAB:=af htab
 have HMX:=af hmx
 have HFQ:=af FQ
 have HCQ:=af CQ
 have hfl:(qs.map qf).length≤8:=by simpa using hl8
 generalize hfs:qs.map qf=fs at *
 generalize hff:qf q=f at *
 obtain ⟨qa,qc,rfl,-,-⟩:=id hv
 generalize hqn:qs.length=qn at *
 have c8:¬ (8:Int)<(qn:Int):=by omega
 have bA:Hid (But [] w (w.alloc (.cells #[.int .i64 q.1,.int .i64 q.2] 23))):=(But.refl _ _).alloc _
 have CH:=af (fun W (h:But [] w W)=>numChances_err n r1 x1 y1 none f W (FQ W) lq hn8 hbad)
 clear hv hf htab hmx FQ CQ hq hn hy hfs hff hqn hl8
 go_enter Tryz.func3,Tryz.ntmps3
 go_wp2_with fail
 refine (ae PK _).mono ?_
 rintro e w1 ⟨rfl,hb1⟩
 have B1:=af ((ae bA).trans' hb1)
 have a0:w1.cell? ⟨w.heap.size,0,none⟩=some (.int .i64 q.1):=hb1.ag (by simp) (by simp)
 have a1:w1.cell? ⟨w.heap.size,1,none⟩=some (.int .i64 q.2):=hb1.ag (by simp) (by simp)
 generalize w.heap.size=g4 at a0 a1 ⊢
 clear hb1 PK bA
 go_wp2_with fail
 refine (ae HCQ _).mono ?_
 rintro e w2 ⟨rfl,hb2⟩
 have bN:=hb2.trans' ((But.refl _ _).alloc (.cells #[.int .i64 1,.int .i64 (n:Int),.bool r1,.int .u64 x1,.int .u64 y1,.pointer none] 32))
 have B2:=af ((ae B1).trans' bN)
 have X7:=af (SBox.new w2 [.int .i64 1,.int .i64 (n:Int),.bool r1,.int .u64 x1,.int .u64 y1,.pointer none] 32)
 clear a0 a1 hb2 bN B1 HCQ
 go_wp2_with fail
 refine (ae CH _ (ae B2)).mono ?_
 rintro e w3 ⟨rfl,hb3⟩
 have B3:=af ((ae B2).trans' hb3)
 clear hb3 CH B2 X7
 go_wp2_with fail
 refine (ae LS _ (ae B3)).mono ?_
 rintro e w4 ⟨vz,rfl,hz,hb4⟩
 have B4:=af ((ae B3).trans' hb4)
 have CE:=compound_err (.slice none 0 0) vz [] fs 1 w4 (an.nil w4) hz (by simp) (by omega) (by simp) lfs (by omega) (by unfold bothC chkE;simp)
 have HCE:=af CE
 obtain ⟨za,zc,rfl,-,-⟩:=id hz
 clear hz hb4 B3 LS CE
 go_wp2_with fail
 refine (ae HCE).mono ?_
 rintro e w5 ⟨rfl,hb5⟩
 have B5:=af ((ae B4).trans' hb5)
 clear hb5 B4
 go_wp2_with fail
 refine (ae DI _ (ae B5)).mono ?_
 rintro e w6 ⟨rfl,hb6⟩
 have B6:=af ((ae B5).trans' hb6)
 clear hb6 B5
 go_wp2_with fail
 refine (ae DI _ (ae B6)).mono ?_
 rintro e w7 ⟨rfl,hb7⟩
 have B7:=af ((ae B6).trans' hb7)
 clear hb7 B6 DI
 go_wp2
 exact bodyPost_ret (v:=.bool true) (by simp [results,Tryz.results3,go_sem]) rfl ⟨rfl,ae B7⟩
theorem panj_law (v:Value) (qs:List (Int × Int)) (y:Int) (hy:-9223372036854775808≤y∧y<9223372036854775808) (q:Int × Int) (hq:Fits q) (mx:Int) (w:World) (hv:QsAt w v qs) (hf:∀ q ∈ qs,Fits q) (hl8:qs.length≤8)
  (htab:Lib.TabIs Tryz.prog w "internal/strconv.uint64pow10" .u64 Lib.pow10Tab) (hmx:w.cell? ⟨4,0,none⟩=some (.int .i64 mx)) (h01:0≤qf q∧qf q<1) (hbad:chkE (qs.map qf)≠0) :
  Calls Tryz.prog 3 #[.int .i64 y,.agg #[.int .i64 q.1,.int .i64 q.2],v] w fun e w'=>e=.returned (.bool true)∧But [] w w':=by
 obtain ⟨r1,x1,y1,lq,FQ,CQ⟩:=plainF_at q hq
 have lfs:∀ g ∈ qs.map qf,Len g 1:=fits_lenK hf
 obtain ⟨n,hn⟩:∃ n:Nat,n=((if y<0 then y + 18446744073709551616 else y)%9).toNat:=⟨_,rfl⟩
 have hn8:n≤8:=by omega
 have PK:=af (fun W=>pick_gen y 9 hy.1 hy.2 (by omega) (by omega) W)
 rw [← hn] at PK
 have LS:=af (fun W (h:But [] w W)=>plainLaw_any v qs W (hv.but h) hf (by omega))
 have DI:=af (fun W (h:But [] w W)=>dice_any mx W (TabIs.but htab h) (h.ag hmx (by simp)))
 have HTAB:=af htab
 have HMX:=af hmx
 have HFQ:=af FQ
 have HCQ:=af CQ
 have hfl:(qs.map qf).length≤8:=by simpa using hl8
 generalize hfs:qs.map qf=fs at *
 generalize hff:qf q=f at *
 obtain ⟨qa,qc,rfl,-,-⟩:=id hv
 generalize hqn:qs.length=qn at *
 have c8:¬ (8:Int)<(qn:Int):=by omega
 have bA:Hid (But [] w (w.alloc (.cells #[.int .i64 q.1,.int .i64 q.2] 23))):=(But.refl _ _).alloc _
 have CH:=af (fun W (h:But [] w W)=>numChances_ok n r1 x1 y1 none f W (FQ W) lq hn8 h01.1 h01.2)
 have hcn:=tries_chk f n hn8 h01.1 h01.2
 have lno:Len (rpow (((1:Int):Rat)-f) n) 8:=len_rpow8 (len_rest lq h01.1 h01.2) hn8 (by omega)
 have lra:=len_ratio lq h01.1 h01.2
 have lns:∀ g ∈ (List.range (n+1)).map (trN (rpow (((1:Int):Rat)-f) n) (f/(((1:Int):Rat)-f)) n),Len g 100:=fun g hg=>by
  obtain ⟨i,hi,rfl⟩:=List.mem_map.1 hg
  exact (len_trN2 _ _ n hn8 lno lra i (by have:=List.mem_range.1 hi;omega)).mono (by have:=List.mem_range.1 hi;omega)
 clear hv hf htab hmx FQ CQ hq hn hy hfs hff hqn hl8
 go_enter Tryz.func3,Tryz.ntmps3
 go_wp2_with fail
 refine (ae PK _).mono ?_
 rintro e w1 ⟨rfl,hb1⟩
 have B1:=af ((ae bA).trans' hb1)
 have a0:w1.cell? ⟨w.heap.size,0,none⟩=some (.int .i64 q.1):=hb1.ag (by simp) (by simp)
 have a1:w1.cell? ⟨w.heap.size,1,none⟩=some (.int .i64 q.2):=hb1.ag (by simp) (by simp)
 generalize w.heap.size=g4 at a0 a1 ⊢
 clear hb1 PK bA
 go_wp2_with fail
 refine (ae HCQ _).mono ?_
 rintro e w2 ⟨rfl,hb2⟩
 have bN:=hb2.trans' ((But.refl _ _).alloc (.cells #[.int .i64 1,.int .i64 (n:Int),.bool r1,.int .u64 x1,.int .u64 y1,.pointer none] 32))
 have B2:=af ((ae B1).trans' bN)
 have X7:=af (SBox.new w2 [.int .i64 1,.int .i64 (n:Int),.bool r1,.int .u64 x1,.int .u64 y1,.pointer none] 32)
 clear a0 a1 hb2 bN B1 HCQ
 go_wp2_with fail
 refine (ae CH _ (ae B2)).mono ?_
 rintro e w3 ⟨vn,rfl,⟨vs,hgr⟩,hb3⟩
 have B3:=af ((ae B2).trans' hb3)
 have hnf:=hgr.fracs
 obtain ⟨gq,cap,evn,-,-,hcap,-⟩:=hgr.form
 rw [List.length_map,List.length_range] at evn hcap
 subst evn
 have HNF:=af hnf
 clear hnf hgr hb3 CH B2 X7
 go_wp2_with fail
 refine (ae LS _ (ae B3)).mono ?_
 rintro e w4 ⟨vz,rfl,hz,hb4⟩
 have B4:=af ((ae B3).trans' hb4)
 have CE:=compound_err _ vz _ fs 100 w4 ((ae HNF).but hb4) hz (by simp;omega) (by omega) lns (fun g hg=>(lfs g hg).mono (by omega)) (by omega) (by unfold bothC;rw [hcn];simpa using hbad)
 have HCE:=af CE
 obtain ⟨za,zc,rfl,-,-⟩:=id hz
 clear hz hb4 B3 LS CE HNF
 go_wp2_with fail
 refine (ae HCE).mono ?_
 rintro e w5 ⟨rfl,hb5⟩
 have B5:=af ((ae B4).trans' hb5)
 clear hb5 B4
 go_wp2_with fail
 refine (ae DI _ (ae B5)).mono ?_
 rintro e w6 ⟨rfl,hb6⟩
 have B6:=af ((ae B5).trans' hb6)
 clear hb6 B5
 go_wp2_with fail
 refine (ae DI _ (ae B6)).mono ?_
 rintro e w7 ⟨rfl,hb7⟩
 have B7:=af ((ae B6).trans' hb7)
 clear hb7 B6 DI
 go_wp2
 exact bodyPost_ret (v:=.bool true) (by simp [results,Tryz.results3,go_sem]) rfl ⟨rfl,ae B7⟩
theorem panj_good (v:Value) (qs:List (Int × Int)) (y:Int) (hy:-9223372036854775808≤y∧y<9223372036854775808) (q:Int × Int) (hq:Fits q) (mx:Int) (w:World) (hv:QsAt w v qs) (hf:∀ q ∈ qs,Fits q) (hl8:qs.length≤8)
  (htab:Lib.TabIs Tryz.prog w "internal/strconv.uint64pow10" .u64 Lib.pow10Tab) (hmx:w.cell? ⟨4,0,none⟩=some (.int .i64 mx)) (h01:0≤qf q∧qf q<1) (hck:chkE (qs.map qf)=0) :
  Calls Tryz.prog 3 #[.int .i64 y,.agg #[.int .i64 q.1,.int .i64 q.2],v] w fun e w'=>e=.returned (.bool true)∧But [] w w':=by
 obtain ⟨r1,x1,y1,lq,FQ,CQ⟩:=plainF_at q hq
 have lfs:∀ g ∈ qs.map qf,Len g 1:=fits_lenK hf
 obtain ⟨n,hn⟩:∃ n:Nat,n=((if y<0 then y + 18446744073709551616 else y)%9).toNat:=⟨_,rfl⟩
 have hn8:n≤8:=by omega
 have PK:=af (fun W=>pick_gen y 9 hy.1 hy.2 (by omega) (by omega) W)
 rw [← hn] at PK
 have LS:=af (fun W (h:But [] w W)=>plainLaw_any v qs W (hv.but h) hf (by omega))
 have DI:=af (fun W (h:But [] w W)=>dice_any mx W (TabIs.but htab h) (h.ag hmx (by simp)))
 have HTAB:=af htab
 have HMX:=af hmx
 have HFQ:=af FQ
 have HCQ:=af CQ
 have hfl:(qs.map qf).length≤8:=by simpa using hl8
 generalize hfs:qs.map qf=fs at *
 generalize hff:qf q=f at *
 obtain ⟨qa,qc,rfl,-,-⟩:=id hv
 generalize hqn:qs.length=qn at *
 have c8:¬ (8:Int)<(qn:Int):=by omega
 have bA:Hid (But [] w (w.alloc (.cells #[.int .i64 q.1,.int .i64 q.2] 23))):=(But.refl _ _).alloc _
 obtain ⟨no,hno⟩:∃ no,no=rpow (((1:Int):Rat)-f) n:=⟨_,rfl⟩
 obtain ⟨r,hr⟩:∃ r,r=f/(((1:Int):Rat)-f):=⟨_,rfl⟩
 obtain ⟨ns,hns⟩:∃ ns,ns=(List.range (n+1)).map (trN no r n):=⟨_,rfl⟩
 obtain ⟨k,m,U,mm,pf⟩:=panF_all f n fs lq hn8 h01.1 h01.2 hck lfs hfl no r ns hno hr hns
 have hnl:ns.length=n+1:=by rw [hns];simp
 have CH:Hid (∀ W,But [] w W→Calls Tryz.prog 11 #[.agg #[.int .i64 1,.int .i64 (n:Int),.bool r1,.int .u64 x1,.int .u64 y1,.pointer none],.int .i64 (n:Int)] W fun e w'=>∃ v,e=.returned (.tuple #[v,.nilIface])∧(∃ vs,aw w' W.heap.size v ns vs)∧But [] W w'):=fun W _=>by
  rw [hns,hno,hr]
  exact numChances_ok n r1 x1 y1 none f W (FQ W) lq hn8 h01.1 h01.2
 have lns:∀ g ∈ ns,Len g 100:=fun g hg=>by
  rw [hns] at hg
  obtain ⟨i,hi,rfl⟩:=List.mem_map.1 hg
  have hi':=List.mem_range.1 hi
  rw [hno,hr]
  exact (len_trN2 _ _ n hn8 (len_rpow8 (len_rest lq h01.1 h01.2) hn8 (by omega)) (len_ratio lq h01.1 h01.2) i (by omega)).mono (by omega)
 have hcn:chkE ns=0:=by
  rw [hns,hno,hr]
  exact tries_chk f n hn8 h01.1 h01.2
 have hfpos:1≤fs.length:=by have:=pf.hm;omega
 have CO:Hid (∀ W,But [] w W→∀ nb nc b off cap,an W (.slice (some ⟨nb,0,none⟩) (n+1) nc) ns→n+1≤nc→an W (.slice (some ⟨b,off,none⟩) fs.length cap) fs→fs.length≤cap→Calls Tryz.prog 12 #[.slice (some ⟨nb,0,none⟩) (n+1) nc,.slice (some ⟨b,off,none⟩) fs.length cap] W fun e w'=>∃ g,e=.returned (.tuple #[.slice (some ⟨g,0,none⟩) (U+1) (U+1),.nilIface])∧an w' (.slice (some ⟨g,0,none⟩) (U+1) (U+1)) ((List.range (U+1)).map fun i=>pw (lf (ay (baL fs r mm))) n i*(rpow (((comN 1 (baL fs r mm):Nat):Int):Rat)⁻¹ n*no))∧But [] W w'):=fun W hb nb nc b off cap h1 h2 h3 h4=>by
  have hkm:k*m≤200:=by have e1:=pf.hU;have e2:=pf.hU60;omega
  refine (compound_ok nb 0 nc (n+1) b off cap fs.length ns fs k m 100 mx W h1 hnl.symm h2 (by omega) pf.hk pf.n1 pf.n2 h3 rfl h4 (by omega) pf.hm pf.h1 pf.h2 (by unfold bothC;rw [hcn,hck];simp) hkm lns (fun g hg=>(lfs g hg).mono (by omega)) (by omega) (TabIs.but htab hb) (hb.ag hmx (by simp)) pf.hU0 pf.hUN pf.hUl pf.hUNl pf.hws pf.hwn pf.hl).mono ?_
  rintro e w' ⟨g,he,hrow,hbb⟩
  rw [pf.len] at he hrow
  refine ⟨g,he,?_,hbb⟩
  have hfr:=hrow.fracs
  rw [List.map_congr_left (fun i hi=>pf.same i (by have:=List.mem_range.1 hi;omega))] at hfr
  exact hfr
 have PJ:Hid (∀ W,But [] w W→∀ v,an W v fs→Calls Tryz.prog 15 #[.agg #[.int .i64 1,.int .i64 (n:Int),.bool r1,.int .u64 x1,.int .u64 y1,.pointer none],v,.int .i64 (U:Int)] W fun e w'=>∃ v,e=.returned v∧PanT (U+1) (fun i=>pw (lf (ay (baL fs r mm))) n i*(rpow (((comN 1 (baL fs r mm):Nat):Int):Rat)⁻¹ n*no)) w' v∧But [] W w'):=fun W hb v hv=>by
  rcases hv.open with ⟨e,-⟩ | ⟨-,b,off,cap,rfl,hc,-⟩
  ·rw [e] at hfpos
   simp at hfpos
  have h:=panjer_ok n U fs.length cap b off mm r1 x1 y1 none f fs mx W (FQ W) lq hn8 h01.1 h01.2 hv rfl hfpos (by omega) hc pf.hU60 pf.hmm lfs hck (TabIs.but htab hb) (hb.ag hmx (by simp))
  rw [← hr,← hno] at h
  refine (h pf.hb0 pf.hu0 pf.lbl pf.lwl pf.lu pf.lp).mono ?_
  rintro e w' ⟨g,he,hrow,hbb⟩
  exact ⟨_,he,⟨_,rfl,g,rfl,hrow.of,Nat.zero_le _,ai (hrow.bool (by omega)).choose_spec⟩,hbb⟩
 have hU60:=pf.hU60
 have lE:=pf.lenE
 generalize hFF:(fun i=>pw (lf (ay (baL fs r mm))) n i*(rpow (((comN 1 (baL fs r mm):Nat):Int):Rat)⁻¹ n*no))=FF at *
 have LE:Hid (∀ g ∈ (List.range (U+1)).map FF,Len g 1000000):=fun g hg=>by
  obtain ⟨i,hi,rfl⟩:=List.mem_map.1 hg
  rw [← hFF]
  exact lE i (by have:=List.mem_range.1 hi;omega)
 have HFP:=af hfpos
 have HNL:=af hnl
 clear hFF lE pf hno hr hns lns hcn hfpos hnl hck
 clear hv hf htab hmx FQ CQ hq hn hy hfs hff hqn hl8
 go_enter Tryz.func3,Tryz.ntmps3
 go_wp2_with fail
 refine (ae PK _).mono ?_
 rintro e w1 ⟨rfl,hb1⟩
 have B1:=af ((ae bA).trans' hb1)
 have a0:w1.cell? ⟨w.heap.size,0,none⟩=some (.int .i64 q.1):=hb1.ag (by simp) (by simp)
 have a1:w1.cell? ⟨w.heap.size,1,none⟩=some (.int .i64 q.2):=hb1.ag (by simp) (by simp)
 generalize w.heap.size=g4 at a0 a1 ⊢
 clear hb1 PK bA
 go_wp2_with fail
 refine (ae HCQ _).mono ?_
 rintro e w2 ⟨rfl,hb2⟩
 have bN:=hb2.trans' ((But.refl _ _).alloc (.cells #[.int .i64 1,.int .i64 (n:Int),.bool r1,.int .u64 x1,.int .u64 y1,.pointer none] 32))
 have B2:=af ((ae B1).trans' bN)
 have X7:=af (SBox.new w2 [.int .i64 1,.int .i64 (n:Int),.bool r1,.int .u64 x1,.int .u64 y1,.pointer none] 32)
 clear a0 a1 hb2 bN B1 HCQ
 go_wp2_with fail
 refine (ae CH _ (ae B2)).mono ?_
 rintro e w3 ⟨vn,rfl,⟨vs,hgr⟩,hb3⟩
 have B3:=af ((ae B2).trans' hb3)
 have X73:=af ((ae X7).but hb3 (by simp) (by simp))
 have hnf:=hgr.fracs
 obtain ⟨gq,cap,evn,-,-,hcap,-⟩:=hgr.form
 rw [ae HNL] at evn hcap
 subst evn
 have HNF:=af hnf
 have HCAP:=af hcap
 generalize w2.heap.size=g7 at X73 ⊢
 clear hnf hcap hgr hb3 CH B2 X7
 go_wp2_with fail
 refine (ae LS _ (ae B3)).mono ?_
 rintro e w4 ⟨vz,rfl,hz,hb4⟩
 have B4:=af ((ae B3).trans' hb4)
 have X74:=af ((ae X73).but hb4 (by simp) (by simp))
 rcases hz.open with ⟨e,-⟩ | ⟨-,b,off,zc,rfl,hzc,-⟩
 ·have:=ae HFP
  rw [e] at this
  simp at this
 have CO4:=af (ae CO w4 (ae B4) gq cap b off zc ((ae HNF).but hb4) (ae HCAP) hz hzc)
 generalize fs.length=nz at CO4 ⊢
 clear hz hzc hb4 B3 X73 HNF HCAP CO
 go_wp2_with fail
 refine (ae CO4).mono ?_
 rintro e w5 ⟨gl,rfl,hl5,hb5⟩
 have B5:=af ((ae B4).trans' hb5)
 have X75:=af ((ae X74).but hb5 (by simp) (by simp))
 have HL5:=af hl5
 clear hl5 hb5 B4 X74 CO4
 go_wp2_with fail
 refine (ae DI _ (ae B5)).mono ?_
 rintro e w6 ⟨rfl,hb6⟩
 have B6:=af ((ae B5).trans' hb6)
 have X76:=af ((ae X75).but hb6 (by simp) (by simp))
 have HL6:=af ((ae HL5).but hb6)
 clear hb6 B5 X75 HL5 DI
 go_wp2
 refine panjered_region9 9 _ _ w6 (n:Int) r1 x1 y1 none qa qn qc gl U fs FF (by simp) g7 (by simp [Act.eval]) (by simp [Act.eval]) (by simp [Act.eval]) (by omega) (ae X76) (fun W hb=>ae LS W ((ae B6).trans' hb)) (fun W hb v hv=>ae PJ W ((ae B6).trans' hb) v hv) ?_
 rintro w7 v2 v6 v7 v8 v10 hb7 ⟨gp,rfl,hrow,-,hgp⟩
 simp only [bb,List.foldl_cons,List.foldl_nil,Act.put,List.setIfInBounds_toArray,List.set_cons_zero,List.set_cons_succ]
 have B7:=af ((ae B6).trans' hb7)
 have LK:=af (likes_eq gl 0 (U+1) gp 0 (U+1) (U+1) ((List.range (U+1)).map FF) w7 ((ae HL6).but hb7) hrow.fracs (by omega) (ae LE) (TabIs.but (ae HTAB) (ae B7)))
 clear hb7 hrow hgp B6 X76 HL6 LS PJ LE
 go_wp2_with fail
 refine (ae LK).mono ?_
 rintro e w8 ⟨rfl,hb8⟩
 have B8:=af ((ae B7).trans' hb8)
 clear hb8 LK B7
 go_wp2
 exact bodyPost_ret (v:=.bool true) (by simp [results,Tryz.results3,go_sem]) rfl ⟨rfl,ae B8⟩
theorem panjered_any (v:Value) (qs:List (Int × Int)) (y:Int) (hy:-9223372036854775808≤y∧y<9223372036854775808) (q:Int × Int) (hq:Fits q) (mx:Int) (w:World) (hv:QsAt w v qs) (hf:∀ q ∈ qs,Fits q)
  (htab:Lib.TabIs Tryz.prog w "internal/strconv.uint64pow10" .u64 Lib.pow10Tab) (hmx:w.cell? ⟨4,0,none⟩=some (.int .i64 mx)) :
  Calls Tryz.prog 3 #[.int .i64 y,.agg #[.int .i64 q.1,.int .i64 q.2],v] w fun e w'=>e=.returned (.bool true)∧But [] w w':=by
 by_cases hn:qs.length≤8
 ·by_cases h1:0≤qf q∧qf q<1
  ·by_cases h2:chkE (qs.map qf)=0
   ·exact panj_good v qs y hy q hq mx w hv hf hn htab hmx h1 h2
   ·exact panj_law v qs y hy q hq mx w hv hf hn htab hmx h1 h2
  ·exact panj_bad v qs y hy q hq mx w hv hf hn htab hmx h1
 ·obtain ⟨a,cap,rfl,-,-⟩:=hv
  exact panj_many a _ cap y q.1 q.2 w (by omega)
end Go.Proofs.YtlckjpelcmjimaaGreatDoor
