/- Whether a line may be, as the Go text of -/
import Derived.Test.YtcgecpoedojhjaaGreatDoorKPXK
namespace Go.Proofs.YtcgecpoedojhjaaGreatDoor
open Go.Proofs.Tryz
open Go.RowKit
set_option maxHeartbeats 16000000
set_option maxRecDepth 100000
theorem zmb (s:Bool) (x y:Int) (p:Option Addr) (fr li ti pr:Int) (to:ByteArray) (f:Rat) (w:World) (hf:zi w (.agg #[.bool s,.int .u64 x,.int .u64 y,.pointer p]) f) (lf:Len f 1) (hname:kr to) (hr:af fr li ti pr) (h1:0≤f∧f≤1) (h2:¬ (fr=0∧li=0∧ti=0∧pr=0)) :
  Calls prog 23 #[zq 1 s x y p fr li ti pr to] w fun e w'=>e=.returned (.iface 50 (.int .i64 1))∧But [] w w':=by
 obtain⟨r1,r2,r3,r4⟩:=hr
 have NM:=hide (fun W=>qw to W hname)
 have W1:=hide (fun W=>zo fr 1000000000000 W)
 rw[decide_eq_true r1] at W1
 have W2:=hide (fun W=>zo li 1000000000000 W)
 rw[decide_eq_true r2] at W2
 have W3:=hide (fun W=>zo pr 1000000000000 W)
 rw[decide_eq_true r3] at W3
 have W4:=hide (fun W=>zo ti 100 W)
 rw[decide_eq_true r4] at W4
 have FI:=hide (fun W (h:But [] w W)=>zmq s x y p fr li ti pr to f W (hf.but h) lf)
 rw[decide_eq_true h1] at FI
 have FO:=hide (fun W=>ziq s x y p fr li ti pr to W)
 have EM:=hide (fun W (h:But [] w W)=>oh 1 false 0 0 none fr li ti pr to 0 W (sw W) false (decide_eq_false (fun h=>h2 ⟨h.2.1,h.2.2.1,h.2.2.2.1,h.2.2.2.2⟩)).symm)
 have x1:=hide (bf.new w 1 s x y p fr li ti pr to)
 have bA:=hide ((But.refl [] w).alloc (.cells #[.int .i64 1,.bool s,.int .u64 x,.int .u64 y,.pointer p,.int .i64 fr,.int .i64 li,.int .i64 ti,.int .i64 pr,.string to] 37))
 unfold zq at FI FO EM
 clear hf lf hname r1 r2 r3 r4 h1 h2
 unfold zq
 go_enter func23,ntmps23
 go_wp2_with fail
 refine (za NM _).mono ?_
 rintro e w1 ⟨rfl,hb1⟩
 have B1:=hide ((za bA).trans' hb1)
 have X1:=(za x1).but hb1 (by simp)
 have c0:=X1.cells 0 _ rfl
 have c1:=X1.cells 1 _ rfl
 have c2:=X1.cells 2 _ rfl
 have c3:=X1.cells 3 _ rfl
 have c4:=X1.cells 4 _ rfl
 have c5:=X1.cells 5 _ rfl
 have c6:=X1.cells 6 _ rfl
 have c7:=X1.cells 7 _ rfl
 have c8:=X1.cells 8 _ rfl
 have c9:=X1.cells 9 _ rfl
 generalize w.heap.size=g1 at c0 c1 c2 c3 c4 c5 c6 c7 c8 c9 ⊢
 clear hb1 NM bA X1 x1
 go_wp2_with fail
 refine (za W1 _).mono ?_
 rintro e w1' ⟨rfl,rfl⟩
 go_wp2_with fail
 refine (za W2 _).mono ?_
 rintro e w1'' ⟨rfl,rfl⟩
 go_wp2_with fail
 refine (za W3 _).mono ?_
 rintro e w13 ⟨rfl,rfl⟩
 go_wp2_with fail
 refine (za W4 _).mono ?_
 rintro e w14 ⟨rfl,rfl⟩
 go_wp2_with fail
 refine (za FI _ (za B1)).mono ?_
 rintro e w2 ⟨rfl,hb2⟩
 have B2:=hide ((za B1).trans' hb2)
 have d0:=hb2.zb c0 (by simp)
 have d1:=hb2.zb c1 (by simp)
 have d2:=hb2.zb c2 (by simp)
 have d3:=hb2.zb c3 (by simp)
 have d4:=hb2.zb c4 (by simp)
 have d5:=hb2.zb c5 (by simp)
 have d6:=hb2.zb c6 (by simp)
 have d7:=hb2.zb c7 (by simp)
 have d8:=hb2.zb c8 (by simp)
 have d9:=hb2.zb c9 (by simp)
 clear hb2 c0 c1 c2 c3 c4 c5 c6 c7 c8 c9 W1 W2 W3 W4 FI B1
 go_wp2_with fail
 refine (za FO _).mono ?_
 rintro e w3 ⟨rfl,hb3⟩
 have B3:=hide ((za B2).trans' hb3)
 clear hb3 FO B2 d0 d1 d2 d3 d4 d5 d6 d7 d8 d9
 go_wp2_with fail
 refine (za EM _ (za B3)).mono ?_
 rintro e w4 ⟨rfl,hb4⟩
 have B4:=hide ((za B3).trans' hb4)
 clear hb4 EM B3
 go_wp2
 exact bodyPost_ret (v:=.iface 50 (.int .i64 1)) (by simp[results,results23,go_sem]) rfl ⟨rfl,za B4⟩
theorem zmc (s:Bool) (x y:Int) (p:Option Addr) (fr li ti pr:Int) (to:ByteArray) (f:Rat) (w:World) (hf:zi w (.agg #[.bool s,.int .u64 x,.int .u64 y,.pointer p]) f) (lf:Len f 1) (hname:kr to) (hr:af fr li ti pr) (h1:¬ (0≤f∧f≤1)) :
  Calls prog 23 #[zq 1 s x y p fr li ti pr to] w fun e w'=>e=.returned (.iface 50 (.int .i64 1))∧But [] w w':=by
 obtain⟨r1,r2,r3,r4⟩:=hr
 have NM:=hide (fun W=>qw to W hname)
 have W1:=hide (fun W=>zo fr 1000000000000 W)
 rw[decide_eq_true r1] at W1
 have W2:=hide (fun W=>zo li 1000000000000 W)
 rw[decide_eq_true r2] at W2
 have W3:=hide (fun W=>zo pr 1000000000000 W)
 rw[decide_eq_true r3] at W3
 have W4:=hide (fun W=>zo ti 100 W)
 rw[decide_eq_true r4] at W4
 have FI:=hide (fun W (h:But [] w W)=>zmq s x y p fr li ti pr to f W (hf.but h) lf)
 rw[decide_eq_false h1] at FI
 have x1:=hide (bf.new w 1 s x y p fr li ti pr to)
 have bA:=hide ((But.refl [] w).alloc (.cells #[.int .i64 1,.bool s,.int .u64 x,.int .u64 y,.pointer p,.int .i64 fr,.int .i64 li,.int .i64 ti,.int .i64 pr,.string to] 37))
 unfold zq at FI
 clear hf lf hname r1 r2 r3 r4 h1
 unfold zq
 go_enter func23,ntmps23
 go_wp2_with fail
 refine (za NM _).mono ?_
 rintro e w1 ⟨rfl,hb1⟩
 have B1:=hide ((za bA).trans' hb1)
 have X1:=(za x1).but hb1 (by simp)
 have c0:=X1.cells 0 _ rfl
 have c1:=X1.cells 1 _ rfl
 have c2:=X1.cells 2 _ rfl
 have c3:=X1.cells 3 _ rfl
 have c4:=X1.cells 4 _ rfl
 have c5:=X1.cells 5 _ rfl
 have c6:=X1.cells 6 _ rfl
 have c7:=X1.cells 7 _ rfl
 have c8:=X1.cells 8 _ rfl
 have c9:=X1.cells 9 _ rfl
 generalize w.heap.size=g1 at c0 c1 c2 c3 c4 c5 c6 c7 c8 c9 ⊢
 clear hb1 NM bA X1 x1
 go_wp2_with fail
 refine (za W1 _).mono ?_
 rintro e w1' ⟨rfl,rfl⟩
 go_wp2_with fail
 refine (za W2 _).mono ?_
 rintro e w1'' ⟨rfl,rfl⟩
 go_wp2_with fail
 refine (za W3 _).mono ?_
 rintro e w13 ⟨rfl,rfl⟩
 go_wp2_with fail
 refine (za W4 _).mono ?_
 rintro e w14 ⟨rfl,rfl⟩
 go_wp2_with fail
 refine (za FI _ (za B1)).mono ?_
 rintro e w2 ⟨rfl,hb2⟩
 have B2:=hide ((za B1).trans' hb2)
 clear hb2 c0 c1 c2 c3 c4 c5 c6 c7 c8 c9 W1 W2 W3 W4 FI B1
 go_wp2
 exact bodyPost_ret (v:=.iface 50 (.int .i64 1)) (by simp[results,results23,go_sem]) rfl ⟨rfl,za B2⟩
theorem zlz (s:Bool) (x y:Int) (p:Option Addr) (fr li ti pr:Int) (to:ByteArray) (f:Rat) (w:World) (hf:zi w (.agg #[.bool s,.int .u64 x,.int .u64 y,.pointer p]) f) (_lf:Len f 1) (hname:kr to) (hr:af fr li ti pr) (h1:1≤li) (h2:¬ (f.num=0∧fr=0∧pr=0)) :
  Calls prog 23 #[zq 2 s x y p fr li ti pr to] w fun e w'=>e=.returned (.iface 50 (.int .i64 1))∧But [] w w':=by
 obtain⟨r1,r2,r3,r4⟩:=hr
 have NM:=hide (fun W=>qw to W hname)
 have W1:=hide (fun W=>zo fr 1000000000000 W)
 rw[decide_eq_true r1] at W1
 have W2:=hide (fun W=>zo li 1000000000000 W)
 rw[decide_eq_true r2] at W2
 have W3:=hide (fun W=>zo pr 1000000000000 W)
 rw[decide_eq_true r3] at W3
 have W4:=hide (fun W=>zo ti 100 W)
 rw[decide_eq_true r4] at W4
 have FI:=hide (fun W (h:But [] w W)=>zmp s x y p fr li ti pr to W)
 rw[decide_eq_true h1] at FI
 have FO:=hide (fun W=>zio s x y p fr li ti pr to W)
 have EM:=hide (fun W (h:But [] w W)=>oh 2 s x y p fr 0 0 pr to f W (hf.but h) false (decide_eq_false (fun h=>h2 ⟨h.1,h.2.1,h.2.2.2.2⟩)).symm)
 have x1:=hide (bf.new w 2 s x y p fr li ti pr to)
 have bA:=hide ((But.refl [] w).alloc (.cells #[.int .i64 2,.bool s,.int .u64 x,.int .u64 y,.pointer p,.int .i64 fr,.int .i64 li,.int .i64 ti,.int .i64 pr,.string to] 37))
 unfold zq at FI FO EM
 clear hf _lf hname r1 r2 r3 r4 h1 h2
 unfold zq
 go_enter func23,ntmps23
 go_wp2_with fail
 refine (za NM _).mono ?_
 rintro e w1 ⟨rfl,hb1⟩
 have B1:=hide ((za bA).trans' hb1)
 have X1:=(za x1).but hb1 (by simp)
 have c0:=X1.cells 0 _ rfl
 have c1:=X1.cells 1 _ rfl
 have c2:=X1.cells 2 _ rfl
 have c3:=X1.cells 3 _ rfl
 have c4:=X1.cells 4 _ rfl
 have c5:=X1.cells 5 _ rfl
 have c6:=X1.cells 6 _ rfl
 have c7:=X1.cells 7 _ rfl
 have c8:=X1.cells 8 _ rfl
 have c9:=X1.cells 9 _ rfl
 generalize w.heap.size=g1 at c0 c1 c2 c3 c4 c5 c6 c7 c8 c9 ⊢
 clear hb1 NM bA X1 x1
 go_wp2_with fail
 refine (za W1 _).mono ?_
 rintro e w1' ⟨rfl,rfl⟩
 go_wp2_with fail
 refine (za W2 _).mono ?_
 rintro e w1'' ⟨rfl,rfl⟩
 go_wp2_with fail
 refine (za W3 _).mono ?_
 rintro e w13 ⟨rfl,rfl⟩
 go_wp2_with fail
 refine (za W4 _).mono ?_
 rintro e w14 ⟨rfl,rfl⟩
 go_wp2_with fail
 refine (za FI _ (za B1)).mono ?_
 rintro e w2 ⟨rfl,hb2⟩
 have B2:=hide ((za B1).trans' hb2)
 have d0:=hb2.zb c0 (by simp)
 have d1:=hb2.zb c1 (by simp)
 have d2:=hb2.zb c2 (by simp)
 have d3:=hb2.zb c3 (by simp)
 have d4:=hb2.zb c4 (by simp)
 have d5:=hb2.zb c5 (by simp)
 have d6:=hb2.zb c6 (by simp)
 have d7:=hb2.zb c7 (by simp)
 have d8:=hb2.zb c8 (by simp)
 have d9:=hb2.zb c9 (by simp)
 clear hb2 c0 c1 c2 c3 c4 c5 c6 c7 c8 c9 W1 W2 W3 W4 FI B1
 go_wp2_with fail
 refine (za FO _).mono ?_
 rintro e w3 ⟨rfl,hb3⟩
 have B3:=hide ((za B2).trans' hb3)
 clear hb3 FO B2 d0 d1 d2 d3 d4 d5 d6 d7 d8 d9
 go_wp2_with fail
 refine (za EM _ (za B3)).mono ?_
 rintro e w4 ⟨rfl,hb4⟩
 have B4:=hide ((za B3).trans' hb4)
 clear hb4 EM B3
 go_wp2
 exact bodyPost_ret (v:=.iface 50 (.int .i64 1)) (by simp[results,results23,go_sem]) rfl ⟨rfl,za B4⟩
theorem zma (s:Bool) (x y:Int) (p:Option Addr) (fr li ti pr:Int) (to:ByteArray) (f:Rat) (w:World) (_hf:zi w (.agg #[.bool s,.int .u64 x,.int .u64 y,.pointer p]) f) (_lf:Len f 1) (hname:kr to) (hr:af fr li ti pr) (h1:¬ 1≤li) :
  Calls prog 23 #[zq 2 s x y p fr li ti pr to] w fun e w'=>e=.returned (.iface 50 (.int .i64 1))∧But [] w w':=by
 obtain⟨r1,r2,r3,r4⟩:=hr
 have NM:=hide (fun W=>qw to W hname)
 have W1:=hide (fun W=>zo fr 1000000000000 W)
 rw[decide_eq_true r1] at W1
 have W2:=hide (fun W=>zo li 1000000000000 W)
 rw[decide_eq_true r2] at W2
 have W3:=hide (fun W=>zo pr 1000000000000 W)
 rw[decide_eq_true r3] at W3
 have W4:=hide (fun W=>zo ti 100 W)
 rw[decide_eq_true r4] at W4
 have FI:=hide (fun W (h:But [] w W)=>zmp s x y p fr li ti pr to W)
 rw[decide_eq_false h1] at FI
 have x1:=hide (bf.new w 2 s x y p fr li ti pr to)
 have bA:=hide ((But.refl [] w).alloc (.cells #[.int .i64 2,.bool s,.int .u64 x,.int .u64 y,.pointer p,.int .i64 fr,.int .i64 li,.int .i64 ti,.int .i64 pr,.string to] 37))
 unfold zq at FI
 clear _hf _lf hname r1 r2 r3 r4 h1
 unfold zq
 go_enter func23,ntmps23
 go_wp2_with fail
 refine (za NM _).mono ?_
 rintro e w1 ⟨rfl,hb1⟩
 have B1:=hide ((za bA).trans' hb1)
 have X1:=(za x1).but hb1 (by simp)
 have c0:=X1.cells 0 _ rfl
 have c1:=X1.cells 1 _ rfl
 have c2:=X1.cells 2 _ rfl
 have c3:=X1.cells 3 _ rfl
 have c4:=X1.cells 4 _ rfl
 have c5:=X1.cells 5 _ rfl
 have c6:=X1.cells 6 _ rfl
 have c7:=X1.cells 7 _ rfl
 have c8:=X1.cells 8 _ rfl
 have c9:=X1.cells 9 _ rfl
 generalize w.heap.size=g1 at c0 c1 c2 c3 c4 c5 c6 c7 c8 c9 ⊢
 clear hb1 NM bA X1 x1
 go_wp2_with fail
 refine (za W1 _).mono ?_
 rintro e w1' ⟨rfl,rfl⟩
 go_wp2_with fail
 refine (za W2 _).mono ?_
 rintro e w1'' ⟨rfl,rfl⟩
 go_wp2_with fail
 refine (za W3 _).mono ?_
 rintro e w13 ⟨rfl,rfl⟩
 go_wp2_with fail
 refine (za W4 _).mono ?_
 rintro e w14 ⟨rfl,rfl⟩
 go_wp2_with fail
 refine (za FI _ (za B1)).mono ?_
 rintro e w2 ⟨rfl,hb2⟩
 have B2:=hide ((za B1).trans' hb2)
 clear hb2 c0 c1 c2 c3 c4 c5 c6 c7 c8 c9 W1 W2 W3 W4 FI B1
 go_wp2
 exact bodyPost_ret (v:=.iface 50 (.int .i64 1)) (by simp[results,results23,go_sem]) rfl ⟨rfl,za B2⟩
theorem zha (s:Bool) (x y:Int) (p:Option Addr) (fr li ti pr:Int) (to:ByteArray) (f:Rat) (w:World) (hf:zi w (.agg #[.bool s,.int .u64 x,.int .u64 y,.pointer p]) f) (_lf:Len f 1) (hname:kr to) (hr:af fr li ti pr) (h1:1≤li) (h2:¬ f.num=0) :
  Calls prog 23 #[zq 3 s x y p fr li ti pr to] w fun e w'=>e=.returned (.iface 50 (.int .i64 1))∧But [] w w':=by
 obtain⟨r1,r2,r3,r4⟩:=hr
 have NM:=hide (fun W=>qw to W hname)
 have W1:=hide (fun W=>zo fr 1000000000000 W)
 rw[decide_eq_true r1] at W1
 have W2:=hide (fun W=>zo li 1000000000000 W)
 rw[decide_eq_true r2] at W2
 have W3:=hide (fun W=>zo pr 1000000000000 W)
 rw[decide_eq_true r3] at W3
 have W4:=hide (fun W=>zo ti 100 W)
 rw[decide_eq_true r4] at W4
 have FI:=hide (fun W (h:But [] w W)=>zfl s x y p fr li ti pr to W)
 rw[decide_eq_true h1] at FI
 have FO:=hide (fun W=>zfb s x y p fr li ti pr to W)
 have EM:=hide (fun W (h:But [] w W)=>oh 3 s x y p 0 0 0 0 to f W (hf.but h) false (decide_eq_false (fun h=>h2 h.1)).symm)
 have x1:=hide (bf.new w 3 s x y p fr li ti pr to)
 have bA:=hide ((But.refl [] w).alloc (.cells #[.int .i64 3,.bool s,.int .u64 x,.int .u64 y,.pointer p,.int .i64 fr,.int .i64 li,.int .i64 ti,.int .i64 pr,.string to] 37))
 unfold zq at FI FO EM
 clear hf _lf hname r1 r2 r3 r4 h1 h2
 unfold zq
 go_enter func23,ntmps23
 go_wp2_with fail
 refine (za NM _).mono ?_
 rintro e w1 ⟨rfl,hb1⟩
 have B1:=hide ((za bA).trans' hb1)
 have X1:=(za x1).but hb1 (by simp)
 have c0:=X1.cells 0 _ rfl
 have c1:=X1.cells 1 _ rfl
 have c2:=X1.cells 2 _ rfl
 have c3:=X1.cells 3 _ rfl
 have c4:=X1.cells 4 _ rfl
 have c5:=X1.cells 5 _ rfl
 have c6:=X1.cells 6 _ rfl
 have c7:=X1.cells 7 _ rfl
 have c8:=X1.cells 8 _ rfl
 have c9:=X1.cells 9 _ rfl
 generalize w.heap.size=g1 at c0 c1 c2 c3 c4 c5 c6 c7 c8 c9 ⊢
 clear hb1 NM bA X1 x1
 go_wp2_with fail
 refine (za W1 _).mono ?_
 rintro e w1' ⟨rfl,rfl⟩
 go_wp2_with fail
 refine (za W2 _).mono ?_
 rintro e w1'' ⟨rfl,rfl⟩
 go_wp2_with fail
 refine (za W3 _).mono ?_
 rintro e w13 ⟨rfl,rfl⟩
 go_wp2_with fail
 refine (za W4 _).mono ?_
 rintro e w14 ⟨rfl,rfl⟩
 go_wp2_with fail
 refine (za FI _ (za B1)).mono ?_
 rintro e w2 ⟨rfl,hb2⟩
 have B2:=hide ((za B1).trans' hb2)
 have d0:=hb2.zb c0 (by simp)
 have d1:=hb2.zb c1 (by simp)
 have d2:=hb2.zb c2 (by simp)
 have d3:=hb2.zb c3 (by simp)
 have d4:=hb2.zb c4 (by simp)
 have d5:=hb2.zb c5 (by simp)
 have d6:=hb2.zb c6 (by simp)
 have d7:=hb2.zb c7 (by simp)
 have d8:=hb2.zb c8 (by simp)
 have d9:=hb2.zb c9 (by simp)
 clear hb2 c0 c1 c2 c3 c4 c5 c6 c7 c8 c9 W1 W2 W3 W4 FI B1
 go_wp2_with fail
 refine (za FO _).mono ?_
 rintro e w3 ⟨rfl,hb3⟩
 have B3:=hide ((za B2).trans' hb3)
 clear hb3 FO B2 d0 d1 d2 d3 d4 d5 d6 d7 d8 d9
 go_wp2_with fail
 refine (za EM _ (za B3)).mono ?_
 rintro e w4 ⟨rfl,hb4⟩
 have B4:=hide ((za B3).trans' hb4)
 clear hb4 EM B3
 go_wp2
 exact bodyPost_ret (v:=.iface 50 (.int .i64 1)) (by simp[results,results23,go_sem]) rfl ⟨rfl,za B4⟩
theorem zhb (s:Bool) (x y:Int) (p:Option Addr) (fr li ti pr:Int) (to:ByteArray) (f:Rat) (w:World) (_hf:zi w (.agg #[.bool s,.int .u64 x,.int .u64 y,.pointer p]) f) (_lf:Len f 1) (hname:kr to) (hr:af fr li ti pr) (h1:¬ 1≤li) :
  Calls prog 23 #[zq 3 s x y p fr li ti pr to] w fun e w'=>e=.returned (.iface 50 (.int .i64 1))∧But [] w w':=by
 obtain⟨r1,r2,r3,r4⟩:=hr
 have NM:=hide (fun W=>qw to W hname)
 have W1:=hide (fun W=>zo fr 1000000000000 W)
 rw[decide_eq_true r1] at W1
 have W2:=hide (fun W=>zo li 1000000000000 W)
 rw[decide_eq_true r2] at W2
 have W3:=hide (fun W=>zo pr 1000000000000 W)
 rw[decide_eq_true r3] at W3
 have W4:=hide (fun W=>zo ti 100 W)
 rw[decide_eq_true r4] at W4
 have FI:=hide (fun W (h:But [] w W)=>zfl s x y p fr li ti pr to W)
 rw[decide_eq_false h1] at FI
 have x1:=hide (bf.new w 3 s x y p fr li ti pr to)
 have bA:=hide ((But.refl [] w).alloc (.cells #[.int .i64 3,.bool s,.int .u64 x,.int .u64 y,.pointer p,.int .i64 fr,.int .i64 li,.int .i64 ti,.int .i64 pr,.string to] 37))
 unfold zq at FI
 clear _hf _lf hname r1 r2 r3 r4 h1
 unfold zq
 go_enter func23,ntmps23
 go_wp2_with fail
 refine (za NM _).mono ?_
 rintro e w1 ⟨rfl,hb1⟩
 have B1:=hide ((za bA).trans' hb1)
 have X1:=(za x1).but hb1 (by simp)
 have c0:=X1.cells 0 _ rfl
 have c1:=X1.cells 1 _ rfl
 have c2:=X1.cells 2 _ rfl
 have c3:=X1.cells 3 _ rfl
 have c4:=X1.cells 4 _ rfl
 have c5:=X1.cells 5 _ rfl
 have c6:=X1.cells 6 _ rfl
 have c7:=X1.cells 7 _ rfl
 have c8:=X1.cells 8 _ rfl
 have c9:=X1.cells 9 _ rfl
 generalize w.heap.size=g1 at c0 c1 c2 c3 c4 c5 c6 c7 c8 c9 ⊢
 clear hb1 NM bA X1 x1
 go_wp2_with fail
 refine (za W1 _).mono ?_
 rintro e w1' ⟨rfl,rfl⟩
 go_wp2_with fail
 refine (za W2 _).mono ?_
 rintro e w1'' ⟨rfl,rfl⟩
 go_wp2_with fail
 refine (za W3 _).mono ?_
 rintro e w13 ⟨rfl,rfl⟩
 go_wp2_with fail
 refine (za W4 _).mono ?_
 rintro e w14 ⟨rfl,rfl⟩
 go_wp2_with fail
 refine (za FI _ (za B1)).mono ?_
 rintro e w2 ⟨rfl,hb2⟩
 have B2:=hide ((za B1).trans' hb2)
 clear hb2 c0 c1 c2 c3 c4 c5 c6 c7 c8 c9 W1 W2 W3 W4 FI B1
 go_wp2
 exact bodyPost_ret (v:=.iface 50 (.int .i64 1)) (by simp[results,results23,go_sem]) rfl ⟨rfl,za B2⟩
theorem ziz (s:Bool) (x y:Int) (p:Option Addr) (fr li ti pr:Int) (to:ByteArray) (f:Rat) (w:World) (hf:zi w (.agg #[.bool s,.int .u64 x,.int .u64 y,.pointer p]) f) (_lf:Len f 1) (hname:kr to) (hr:af fr li ti pr) (h2:¬ (f.num=0∧ti=0∧pr=0)) :
  Calls prog 23 #[zq 4 s x y p fr li ti pr to] w fun e w'=>e=.returned (.iface 50 (.int .i64 1))∧But [] w w':=by
 obtain⟨r1,r2,r3,r4⟩:=hr
 have NM:=hide (fun W=>qw to W hname)
 have W1:=hide (fun W=>zo fr 1000000000000 W)
 rw[decide_eq_true r1] at W1
 have W2:=hide (fun W=>zo li 1000000000000 W)
 rw[decide_eq_true r2] at W2
 have W3:=hide (fun W=>zo pr 1000000000000 W)
 rw[decide_eq_true r3] at W3
 have W4:=hide (fun W=>zo ti 100 W)
 rw[decide_eq_true r4] at W4
 have FI:=hide (fun W (h:But [] w W)=>zpd s x y p fr li ti pr to W)
 have FO:=hide (fun W=>zgh s x y p fr li ti pr to W)
 have EM:=hide (fun W (h:But [] w W)=>oh 4 s x y p 0 0 ti pr to f W (hf.but h) false (decide_eq_false (fun h=>h2 ⟨h.1,h.2.2.2.1,h.2.2.2.2⟩)).symm)
 have x1:=hide (bf.new w 4 s x y p fr li ti pr to)
 have bA:=hide ((But.refl [] w).alloc (.cells #[.int .i64 4,.bool s,.int .u64 x,.int .u64 y,.pointer p,.int .i64 fr,.int .i64 li,.int .i64 ti,.int .i64 pr,.string to] 37))
 unfold zq at FI FO EM
 clear hf _lf hname r1 r2 r3 r4 h2
 unfold zq
 go_enter func23,ntmps23
 go_wp2_with fail
 refine (za NM _).mono ?_
 rintro e w1 ⟨rfl,hb1⟩
 have B1:=hide ((za bA).trans' hb1)
 have X1:=(za x1).but hb1 (by simp)
 have c0:=X1.cells 0 _ rfl
 have c1:=X1.cells 1 _ rfl
 have c2:=X1.cells 2 _ rfl
 have c3:=X1.cells 3 _ rfl
 have c4:=X1.cells 4 _ rfl
 have c5:=X1.cells 5 _ rfl
 have c6:=X1.cells 6 _ rfl
 have c7:=X1.cells 7 _ rfl
 have c8:=X1.cells 8 _ rfl
 have c9:=X1.cells 9 _ rfl
 generalize w.heap.size=g1 at c0 c1 c2 c3 c4 c5 c6 c7 c8 c9 ⊢
 clear hb1 NM bA X1 x1
 go_wp2_with fail
 refine (za W1 _).mono ?_
 rintro e w1' ⟨rfl,rfl⟩
 go_wp2_with fail
 refine (za W2 _).mono ?_
 rintro e w1'' ⟨rfl,rfl⟩
 go_wp2_with fail
 refine (za W3 _).mono ?_
 rintro e w13 ⟨rfl,rfl⟩
 go_wp2_with fail
 refine (za W4 _).mono ?_
 rintro e w14 ⟨rfl,rfl⟩
 go_wp2_with fail
 refine (za FI _ (za B1)).mono ?_
 rintro e w2 ⟨rfl,hb2⟩
 have B2:=hide ((za B1).trans' hb2)
 have d0:=hb2.zb c0 (by simp)
 have d1:=hb2.zb c1 (by simp)
 have d2:=hb2.zb c2 (by simp)
 have d3:=hb2.zb c3 (by simp)
 have d4:=hb2.zb c4 (by simp)
 have d5:=hb2.zb c5 (by simp)
 have d6:=hb2.zb c6 (by simp)
 have d7:=hb2.zb c7 (by simp)
 have d8:=hb2.zb c8 (by simp)
 have d9:=hb2.zb c9 (by simp)
 clear hb2 c0 c1 c2 c3 c4 c5 c6 c7 c8 c9 W1 W2 W3 W4 FI B1
 go_wp2_with fail
 refine (za FO _).mono ?_
 rintro e w3 ⟨rfl,hb3⟩
 have B3:=hide ((za B2).trans' hb3)
 clear hb3 FO B2 d0 d1 d2 d3 d4 d5 d6 d7 d8 d9
 go_wp2_with fail
 refine (za EM _ (za B3)).mono ?_
 rintro e w4 ⟨rfl,hb4⟩
 have B4:=hide ((za B3).trans' hb4)
 clear hb4 EM B3
 go_wp2
 exact bodyPost_ret (v:=.iface 50 (.int .i64 1)) (by simp[results,results23,go_sem]) rfl ⟨rfl,za B4⟩
def qgv (w:World) (v:Value) (cs:List (Int × Int)):Prop:=∃ a cap,v=.slice a cs.length cap∧cs.length≤cap∧∀ i q,cs[i]? = some q→∃ b off,a=some ⟨b,off,none⟩∧w.cell? ⟨b,off+i*2,none⟩=some (.int .i64 q.1)∧w.cell? ⟨b,off+i*2+1,none⟩=some (.int .i64 q.2)
theorem qgv.but {w w':World} {v:Value} {cs:List (Int × Int)} (h:qgv w v cs) (hb:But [] w w'):qgv w' v cs:=by
 obtain⟨a,cap,e,hc,h⟩:=h
 refine⟨a,cap,e,hc,fun i q hq=>?_⟩
 obtain⟨b,off,e1,h1,h2⟩:=h i q hq
 exact⟨b,off,e1,hb.zb h1 (by simp),hb.zb h2 (by simp)⟩
def zrm (q:Int × Int):Prop:=1≤q.1∧q.1≤1000000000000∧0≤q.2∧q.2≤q.1
theorem zjc (v:Value) (cs:List (Int × Int)) (w:World) (hv:qgv w v cs) (hn:cs.length≤100) (r:Value) (hok:(∀ q ∈ cs,zrm q)→r=.nilIface) (hbad:¬ (∀ q ∈ cs,zrm q)→r=.iface 50 (.int .i64 2)) :
  Calls prog 28 #[v] w fun e w'=>e=.returned r∧But [] w w':=by
 obtain⟨a,cap,rfl,hcap,hc⟩:=hv
 have HC:=hide hc
 have HOK:=hide hok
 have HBAD:=hide hbad
 generalize hnn:cs.length=n at *
 have HN:=hide hnn
 clear hc hok hbad hnn
 go_enter func28,ntmps28
 go_wp2
 go_loopw [11] (fun i wr=>∃ k:Nat,k≤n∧i=.int .i64 (k:Int)∧Hid (∀ j q,j<k→cs[j]? = some q→zrm q)∧Hid (But [] w wr)) (fun i _=>n-(intOf i).toNat)
 case atStart=>exact⟨0,Nat.zero_le _,rfl,fun j q hj=>absurd hj (by omega),But.refl _ _⟩
 case round =>
  obtain⟨k,hk,rfl,HO,HB⟩:=hrel
  rename World=>wr
  by_cases hlt:k<n
  ·have hkl:k<cs.length:=by have:=za HN;omega
   obtain⟨b,off,rfl,c0,c1⟩:=za HC k cs[k] (List.getElem?_eq_getElem hkl)
   have d0:=(za HB).zb c0 (by simp)
   have d1:=(za HB).zb c1 (by simp)
   have hge:cs[k]? = some cs[k]:=List.getElem?_eq_getElem hkl
   have hmem:cs[k] ∈ cs:=List.getElem_mem hkl
   obtain⟨q,hq⟩:∃ q,q=cs[k]:=⟨_,rfl⟩
   rw[← hq] at d0 d1 hge hmem
   have HGE:=hide hge
   have HMEM:=hide hmem
   clear c0 c1 hge hmem hq
   have bA:=hide ((za HB).alloc (.cells #[.int .i64 q.1,.int .i64 q.2] 62))
   have WI:=hide (fun W=>zo q.2 q.1 W)
   have HNX:Hid (zrm q→∀ j p,j<k+1→cs[j]? = some p→zrm p):=fun ho j p hj hp=>by
    rcases Nat.lt_or_ge j k with h | h
    ·exact za HO j p h hp
    ·obtain rfl:j=k:=by omega
     rw[za HGE] at hp
     obtain rfl:=Option.some.inj hp
     exact ho
   obtain⟨q1,q2⟩:=q
   simp only at d0 d1 bA WI
   by_cases h1:q1<1
   ·obtain rfl:=za HBAD (fun h=>absurd (h _ (za HMEM)).1 (by show ¬ 1≤q1;omega))
    go_wp2
    go_ret
    exact⟨rfl,za bA⟩
   ·by_cases h2:1000000000000<q1
    ·obtain rfl:=za HBAD (fun h=>absurd (h _ (za HMEM)).2.1 (by show ¬ q1≤1000000000000;omega))
     go_wp2
     go_ret
     exact⟨rfl,za bA⟩
    ·by_cases h3:0≤q2∧q2≤q1
     ·rw[decide_eq_true h3] at WI
      have HN2:=hide (za HNX ⟨by omega,by omega,h3.1,h3.2⟩)
      go_wp2_with fail
      refine (za WI _).mono ?_
      rintro e w1 ⟨rfl,rfl⟩
      go_wp2
      exact⟨⟨k+1,by omega,by go_num,za HN2,za bA⟩,by simp[intOf];omega⟩
     ·rw[decide_eq_false h3] at WI
      obtain rfl:=za HBAD (fun h=>h3 ⟨(h _ (za HMEM)).2.2.1,(h _ (za HMEM)).2.2.2⟩)
      go_wp2_with fail
      refine (za WI _).mono ?_
      rintro e w1 ⟨rfl,rfl⟩
      go_wp2
      go_ret
      exact⟨rfl,za bA⟩
  ·obtain rfl:k=n:=by omega
   obtain rfl:=za HOK (fun q hq=>by
    obtain⟨i,hi,rfl⟩:=List.getElem_of_mem hq
    exact za HO i _ (by have:=za HN;omega) (List.getElem?_eq_getElem hi))
   go_wp2
   go_ret
   exact⟨rfl,za HB⟩
structure Ln where
 kd:Int
 f:Rat
 fr:Int
 li:Int
 ti:Int
 pr:Int
 to:ByteArray
def qtm (l:Ln):Prop:=(l.kd=1→(0≤l.f∧l.f≤1)∧l.fr=0∧l.li=0∧l.ti=0∧l.pr=0)∧(l.kd=2→1≤l.li∧l.f.num=0∧l.fr=0∧l.pr=0)∧(l.kd=3→1≤l.li∧l.f.num=0)∧(l.kd=4→l.f.num=0∧l.ti=0∧l.pr=0)
def di (l:Ln):Prop:=(1≤l.kd∧l.kd≤4)∧kr l.to∧af l.fr l.li l.ti l.pr∧qtm l
theorem zew (l:Ln) (s:Bool) (x y:Int) (p:Option Addr) (w:World) (hf:zi w (.agg #[.bool s,.int .u64 x,.int .u64 y,.pointer p]) l.f) (lf:Len l.f 1) (hbig:l.to.size<9223372036854775808) :
  Calls prog 23 #[zq l.kd s x y p l.fr l.li l.ti l.pr l.to] w fun e w'=>∃ r,e=.returned r∧(di l→r=.nilIface)∧(¬ di l→∃ z,r=.iface 50 (.int .i64 z))∧But [] w w':=by
 have bad:∀ (z:Int),¬ di l→(Calls prog 23 #[zq l.kd s x y p l.fr l.li l.ti l.pr l.to] w fun e w'=>e=.returned (.iface 50 (.int .i64 z))∧But [] w w')→Calls prog 23 #[zq l.kd s x y p l.fr l.li l.ti l.pr l.to] w fun e w'=>∃ r,e=.returned r∧(di l→r=.nilIface)∧(¬ di l→∃ z,r=.iface 50 (.int .i64 z))∧But [] w w':=fun z hn h=>h.mono fun e w' ⟨he,hb⟩=>⟨_,he,fun h=>absurd h hn,fun _=>⟨z,rfl⟩,hb⟩
 have good:di l→(Calls prog 23 #[zq l.kd s x y p l.fr l.li l.ti l.pr l.to] w fun e w'=>e=.returned .nilIface∧But [] w w')→Calls prog 23 #[zq l.kd s x y p l.fr l.li l.ti l.pr l.to] w fun e w'=>∃ r,e=.returned r∧(di l→r=.nilIface)∧(¬ di l→∃ z,r=.iface 50 (.int .i64 z))∧But [] w w':=fun hn h=>h.mono fun e w' ⟨he,hb⟩=>⟨_,he,fun _=>rfl,fun h=>absurd hn h,hb⟩
 obtain⟨kd,f,fr,li,ti,pr,to⟩:=l
 by_cases hk:kd<1∨4<kd
 ·exact bad 1 (fun h=>by obtain⟨⟨a1,a2⟩,-⟩:=h;simp only at a1 a2;omega) (zme kd s x y p fr li ti pr to w hk)
 ·have k1:¬ kd<1:=fun h=>hk (.inl h)
  have k2:¬ 4<kd:=fun h=>hk (.inr h)
  by_cases hn:kr to
  ·by_cases r1:0≤fr∧fr≤1000000000000
   ·by_cases r2:0≤li∧li≤1000000000000
    ·by_cases r3:0≤pr∧pr≤1000000000000
     ·by_cases r4:0≤ti∧ti≤100
      ·have hr:af fr li ti pr:=⟨r1,r2,r3,r4⟩
       have hkk:kd=1∨kd=2∨kd=3∨kd=4:=by omega
       rcases hkk with rfl|rfl|rfl|rfl
       ·by_cases h1:0≤f∧f≤1
        ·by_cases h2:fr=0∧li=0∧ti=0∧pr=0
         ·exact good ⟨⟨by simp,by simp⟩,hn,hr,fun _=>⟨h1,h2⟩,fun h=>absurd h (by simp),fun h=>absurd h (by simp),fun h=>absurd h (by simp)⟩ (znz s x y p fr li ti pr to f w hf lf hn hr h1 h2)
         ·exact bad 1 (fun h=>h2 (h.2.2.2.1 rfl).2) (zmb s x y p fr li ti pr to f w hf lf hn hr h1 h2)
        ·exact bad 1 (fun h=>h1 (h.2.2.2.1 rfl).1) (zmc s x y p fr li ti pr to f w hf lf hn hr h1)
       ·by_cases h1:1≤li
        ·by_cases h2:f.num=0∧fr=0∧pr=0
         ·exact good ⟨⟨by simp,by simp⟩,hn,hr,fun h=>absurd h (by simp),fun _=>⟨h1,h2⟩,fun h=>absurd h (by simp),fun h=>absurd h (by simp)⟩ (zny s x y p fr li ti pr to f w hf lf hn hr h1 h2)
         ·exact bad 1 (fun h=>h2 (h.2.2.2.2.1 rfl).2) (zlz s x y p fr li ti pr to f w hf lf hn hr h1 h2)
        ·exact bad 1 (fun h=>h1 (h.2.2.2.2.1 rfl).1) (zma s x y p fr li ti pr to f w hf lf hn hr h1)
       ·by_cases h1:1≤li
        ·by_cases h2:f.num=0
         ·exact good ⟨⟨by simp,by simp⟩,hn,hr,fun h=>absurd h (by simp),fun h=>absurd h (by simp),fun _=>⟨h1,h2⟩,fun h=>absurd h (by simp)⟩ (ziy s x y p fr li ti pr to f w hf lf hn hr h1 h2)
         ·exact bad 1 (fun h=>h2 (h.2.2.2.2.2.1 rfl).2) (zha s x y p fr li ti pr to f w hf lf hn hr h1 h2)
        ·exact bad 1 (fun h=>h1 (h.2.2.2.2.2.1 rfl).1) (zhb s x y p fr li ti pr to f w hf lf hn hr h1)
       ·by_cases h2:f.num=0∧ti=0∧pr=0
        ·exact good ⟨⟨by simp,by simp⟩,hn,hr,fun h=>absurd h (by simp),fun h=>absurd h (by simp),fun h=>absurd h (by simp),fun _=>h2⟩ (zmf s x y p fr li ti pr to f w hf lf hn hr h2)
        ·exact bad 1 (fun h=>h2 (h.2.2.2.2.2.2 rfl)) (ziz s x y p fr li ti pr to f w hf lf hn hr h2)
      ·exact bad 2 (fun h=>r4 h.2.2.1.2.2.2) (zhc kd s x y p fr li ti pr to w k1 k2 hn r1 r2 r3 r4)
     ·exact bad 2 (fun h=>r3 h.2.2.1.2.2.1) (zhd kd s x y p fr li ti pr to w k1 k2 hn r1 r2 r3)
    ·exact bad 2 (fun h=>r2 h.2.2.1.2.1) (zhe kd s x y p fr li ti pr to w k1 k2 hn r1 r2)
   ·exact bad 2 (fun h=>r1 h.2.2.1.1) (zhf kd s x y p fr li ti pr to w k1 k2 hn r1)
  ·exact bad 5 (fun h=>hn h.2.1) (zmd kd s x y p fr li ti pr to w k1 k2 hn hbig)
def zuj (w:World) (b o:Nat) (l:Ln):Prop:=∃ s x y p,(w.cell? ⟨b,o,none⟩=some (.int .i64 l.kd)∧w.cell? ⟨b,o+1,none⟩=some (.bool s)∧w.cell? ⟨b,o+2,none⟩=some (.int .u64 x)∧w.cell? ⟨b,o+3,none⟩=some (.int .u64 y)∧w.cell? ⟨b,o+4,none⟩=some (.pointer p)∧w.cell? ⟨b,o+5,none⟩=some (.int .i64 l.fr)∧w.cell? ⟨b,o+6,none⟩=some (.int .i64 l.li)∧w.cell? ⟨b,o+7,none⟩=some (.int .i64 l.ti)∧w.cell? ⟨b,o+8,none⟩=some (.int .i64 l.pr)∧w.cell? ⟨b,o+9,none⟩=some (.string l.to))∧zi w (.agg #[.bool s,.int .u64 x,.int .u64 y,.pointer p]) l.f
theorem zuj.but {w w':World} {b o:Nat} {l:Ln} (h:zuj w b o l) (hb:But [] w w'):zuj w' b o l:=by
 obtain⟨s,x,y,p,⟨c0,c1,c2,c3,c4,c5,c6,c7,c8,c9⟩,hf⟩:=h
 exact⟨s,x,y,p,⟨hb.zb c0 (by simp),hb.zb c1 (by simp),hb.zb c2 (by simp),hb.zb c3 (by simp),hb.zb c4 (by simp),hb.zb c5 (by simp),hb.zb c6 (by simp),hb.zb c7 (by simp),hb.zb c8 (by simp),hb.zb c9 (by simp)⟩,hf.but hb⟩
def bn (w:World) (v:Value) (ls:List Ln):Prop:=∃ a cap,v=.slice a ls.length cap∧ls.length≤cap∧∀ i l,ls[i]? = some l→∃ b off,a=some ⟨b,off,none⟩∧zuj w b (off+i*10) l
theorem bn.but {w w':World} {v:Value} {ls:List Ln} (h:bn w v ls) (hb:But [] w w'):bn w' v ls:=by
 obtain⟨a,cap,e,hc,h⟩:=h
 refine⟨a,cap,e,hc,fun i l hl=>?_⟩
 obtain⟨b,off,e1,h1⟩:=h i l hl
 exact⟨b,off,e1,h1.but hb⟩
def zfo (ls:List Ln) (k:Nat):Prop:=∀ i l,i<k→ls[i]? = some l→di l∧∀ j m,j+1=i→ls[j]? = some m→m.kd=4→l.kd=4
theorem zcs (v:Value) (ls:List Ln) (w:World) (hv:bn w v ls) (hn:ls.length≤40) (lf:∀ l ∈ ls,Len l.f 1) (hbig:∀ l ∈ ls,l.to.size<9223372036854775808) :
  Calls prog 10 #[v] w fun e w'=>∃ r,e=.returned r∧(zfo ls ls.length→r=.nilIface)∧(¬ zfo ls ls.length→∃ z,r=.iface 50 (.int .i64 z))∧But [] w w':=by
 obtain⟨a,cap,rfl,hcap,hc⟩:=hv
 have HC:=hide hc
 have HL:=hide lf
 have HG:=hide hbig
 generalize hnn:ls.length=n at *
 have HN:=hide hnn
 clear hc hnn lf hbig
 go_enter func10,ntmps10
 go_wp2
 go_loopw [12] (fun i wr=>∃ k:Nat,k≤n∧i=.int .i64 (k:Int)∧Hid (zfo ls k)∧Hid (But [] w wr)) (fun i _=>n-(intOf i).toNat)
 case atStart=>exact⟨0,Nat.zero_le _,rfl,fun i l hi=>absurd hi (by omega),But.refl _ _⟩
 case round =>
  obtain⟨k,hk,rfl,HO,HB⟩:=hrel
  rename World=>wr
  by_cases hlt:k<n
  ·have hkl:k<ls.length:=by have:=za HN;omega
   have hge:ls[k]? = some ls[k]:=List.getElem?_eq_getElem hkl
   have hmem:ls[k] ∈ ls:=List.getElem_mem hkl
   obtain⟨b,off,rfl,hat⟩:=za HC k _ hge
   have hl1:=za HL _ hmem
   have hg1:=za HG _ hmem
   obtain⟨l,hl⟩:∃ l,l=ls[k]:=⟨_,rfl⟩
   rw[← hl] at hge hat hl1 hg1
   obtain⟨s,x,y,p,⟨c0,c1,c2,c3,c4,c5,c6,c7,c8,c9⟩,hf⟩:=hat.but (za HB)
   have HGE:=hide hge
   have bA:=hide ((za HB).alloc (.cells #[.int .i64 l.kd,.bool s,.int .u64 x,.int .u64 y,.pointer p,.int .i64 l.fr,.int .i64 l.li,.int .i64 l.ti,.int .i64 l.pr,.string l.to] 37))
   have CK:=hide (fun W (h:But [] wr W)=>zew l s x y p W (hf.but h) hl1 hg1)
   unfold zq at CK
   clear hge hmem hat hf hl1 hg1 hl
   go_wp2_with fail
   refine (za CK _ ((But.refl _ _).alloc _)).mono ?_
   rintro e w1 ⟨r,rfl,hr1,hr2,hb1⟩
   have bw1:=((But.refl [] wr).alloc (.cells #[.int .i64 l.kd,.bool s,.int .u64 x,.int .u64 y,.pointer p,.int .i64 l.fr,.int .i64 l.li,.int .i64 l.ti,.int .i64 l.pr,.string l.to] 37)).trans' hb1
   have B1:=hide ((za HB).trans' bw1)
   have d0:w1.cell? ⟨wr.heap.size,0,none⟩=some (.int .i64 l.kd):=hb1.zb (by simp) (by simp)
   generalize wr.heap.size=g4 at d0 ⊢
   have hstep:di l→(∀ j m,j+1=k→ls[j]? = some m→m.kd=4→l.kd=4)→zfo ls (k+1):=fun h1 h2 i l' hi hl'=>by
    rcases Nat.lt_or_ge i k with h | h
    ·exact za HO i l' h hl'
    ·obtain rfl:i=k:=by omega
     rw[za HGE] at hl'
     obtain rfl:=Option.some.inj hl'
     exact⟨h1,h2⟩
   have HST:=hide hstep
   have HLT:Hid (k<ls.length):=by show _<_;have:=za HN;omega
   clear hb1 bw1 CK bA c0 c1 c2 c3 c4 c5 c6 c7 c8 c9 hstep
   by_cases hlo:di l
   ·obtain rfl:=hr1 hlo
    clear hr1 hr2
    by_cases hk0:k=0
    ·have hk0':¬ (0:Int)<(k:Int):=by omega
     have HT:=hide (za HST hlo (fun j m hj=>absurd hj (by omega)))
     go_wp2
     exact⟨⟨k+1,by omega,by go_num,za HT,za B1⟩,by simp[intOf];omega⟩
    ·have hk0':(0:Int)<(k:Int):=by omega
     have hkp:k-1<ls.length:=by have:=za HLT;omega
     obtain⟨b',off',eb,hat'⟩:=za HC (k-1) _ (List.getElem?_eq_getElem hkp)
     simp only[Option.some.injEq,Addr.mk.injEq,and_true] at eb
     obtain⟨rfl,rfl⟩:=eb
     obtain⟨m,hm⟩:∃ m,m=ls[k-1]:=⟨_,rfl⟩
     rw[← hm] at hat'
     obtain⟨-,-,-,-,⟨e0,-⟩,-⟩:=hat'.but (za B1)
     have hmg:ls[k-1]? = some m:=by rw[hm];exact List.getElem?_eq_getElem hkp
     obtain⟨q,hq⟩:∃ q:Nat,(k:Int)-1=(q:Int):=⟨k-1,by omega⟩
     have hqk:k-1=q:=by omega
     rw[hqk] at e0 hmg
     have hqn:q<n:=by omega
     have HMG:=hide hmg
     have HQK:Hid (q+1=k):=by show _=_;omega
     clear hat' hm hmg hqk hkp
     by_cases h4:m.kd=4
     ·by_cases h5:l.kd=4
      ·have HT:=hide (za HST hlo (fun _ _ _ _ _=>h5))
       go_wp2
       exact⟨⟨k+1,by omega,by go_num,za HT,za B1⟩,by simp[intOf];omega⟩
      ·have h4b:(m.kd==4)=true:=by rw[h4];rfl
       have h5b:(l.kd==4)=false:=beq_eq_false_iff_ne.2 h5
       go_wp2
       go_ret
       exact⟨_,rfl,fun h=>absurd ((h k l hlt (za HGE)).2 q m (za HQK) (za HMG) h4) h5,fun _=>⟨12,rfl⟩,za B1⟩
     ·have h4b:(m.kd==4)=false:=beq_eq_false_iff_ne.2 h4
      have HT:=hide (za HST hlo (fun j m' hj hm'=>by
       obtain rfl:j=q:=by have:=za HQK;omega
       rw[za HMG] at hm'
       obtain rfl:=Option.some.inj hm'
       exact fun h=>absurd h h4))
      go_wp2
      exact⟨⟨k+1,by omega,by go_num,za HT,za B1⟩,by simp[intOf];omega⟩
   ·obtain⟨z,rfl⟩:=hr2 hlo
    clear hr1 hr2
    go_wp2
    go_ret
    exact⟨_,rfl,fun h=>absurd (h k l hlt (za HGE)).1 hlo,fun _=>⟨z,rfl⟩,za B1⟩
  ·obtain rfl:k=n:=by omega
   go_wp2
   go_ret
   exact⟨_,rfl,fun _=>rfl,fun h=>absurd (za HO) h,za HB⟩
theorem zky (a:Act) (w:World) (d t:Nat) (u:TypeId) (ps:String) (ed:Array Edge) (gd:Option (Nat × Bool)) (b o o':Nat) (ho:o+3=o') (h1:a.eval (.tmp t)=.pointer (some ⟨b,o,none⟩)) :
  (execOp a.eval { dst:=some d,op:=Op.fieldAddr 58 (.tmp t) 3,type:=u,pos:=ps,after:=ed,guard:=gd }).run prog w=.ok (.value (.pointer (some ⟨b,o',none⟩))) w:=by
 subst ho
 unfold execOp
 simp only[h1]
 go_simp
theorem zgq (a:Act) (w:World) (d t:Nat) (u:TypeId) (ps:String) (ed:Array Edge) (gd:Option (Nat × Bool)) (b o:Nat) (v:Value) (h1:a.eval (.tmp t)=.pointer (some ⟨b,o,none⟩)) (hc:w.cell? ⟨b,o,none⟩=some v) :
  (execOp a.eval { dst:=some d,op:=Op.load 3 (.tmp t),type:=u,pos:=ps,after:=ed,guard:=gd }).run prog w=.ok (.value v) w:=by
 unfold execOp
 simp only[h1]
 go_simp
theorem qpv (a:Act) (w:World) (d t:Nat) (u:TypeId) (ps:String) (ed:Array Edge) (gd:Option (Nat × Bool)) (b o o':Nat) (ho:o+0=o') (h1:a.eval (.tmp t)=.pointer (some ⟨b,o,none⟩)) :
  (execOp a.eval { dst:=some d,op:=Op.fieldAddr 58 (.tmp t) 0,type:=u,pos:=ps,after:=ed,guard:=gd }).run prog w=.ok (.value (.pointer (some ⟨b,o',none⟩))) w:=by
 subst ho
 unfold execOp
 simp only[h1]
 go_simp
theorem qpu (a:Act) (w:World) (d t:Nat) (u:TypeId) (ps:String) (ed:Array Edge) (gd:Option (Nat × Bool)) (b o:Nat) (v:Value) (h1:a.eval (.tmp t)=.pointer (some ⟨b,o,none⟩)) (hc:w.cell? ⟨b,o,none⟩=some v) :
  (execOp a.eval { dst:=some d,op:=Op.load 55 (.tmp t),type:=u,pos:=ps,after:=ed,guard:=gd }).run prog w=.ok (.value v) w:=by
 unfold execOp
 simp only[h1]
 go_simp
theorem qpt (a:Act) (w:World) (d t1 t2:Nat) (u:TypeId) (ps:String) (ed:Array Edge) (gd:Option (Nat × Bool)) (b off n c k o':Nat) (ho:off+k*2=o') (hk:k<n) (_hn:n<1000000) (h1:a.eval (.tmp t1)=.slice (some ⟨b,off,none⟩) n c) (h2:a.eval (.tmp t2)=.int .i64 (k:Int)) :
  (execOp a.eval { dst:=some d,op:=Op.indexAddr 55 (.tmp t1) (.tmp t2),type:=u,pos:=ps,after:=ed,guard:=gd }).run prog w=.ok (.value (.pointer (some ⟨b,o',none⟩))) w:=by
 subst ho
 unfold execOp
 simp only[h1,h2]
 go_simp
theorem qps (a:Act) (w:World) (d t:Nat) (u:TypeId) (ps:String) (ed:Array Edge) (gd:Option (Nat × Bool)) (b o o':Nat) (ho:o+1=o') (h1:a.eval (.tmp t)=.pointer (some ⟨b,o,none⟩)) :
  (execOp a.eval { dst:=some d,op:=Op.fieldAddr 65 (.tmp t) 1,type:=u,pos:=ps,after:=ed,guard:=gd }).run prog w=.ok (.value (.pointer (some ⟨b,o',none⟩))) w:=by
 subst ho
 unfold execOp
 simp only[h1]
 go_simp
theorem qpr (a:Act) (w:World) (d t1 t2:Nat) (u:TypeId) (ps:String) (ed:Array Edge) (gd:Option (Nat × Bool)) (x y z:Int) (hz:x+y=z) (hb:-9223372036854775808≤z∧z<9223372036854775808) (h1:a.eval (.tmp t1)=.int .i64 x) (h2:a.eval (.tmp t2)=.int .i64 y) :
  (execOp a.eval { dst:=some d,op:=Op.binOp BinOp.add 3 (.tmp t1) (.tmp t2) 3,type:=u,pos:=ps,after:=ed,guard:=gd }).run prog w=.ok (.value (.int .i64 z)) w:=by
 unfold execOp
 simp only[h1,h2]
 go_simp
 rw[IntKind.wrap_i64]
 omega
theorem zqg (a:Act) (w:World) (t1 t2:Nat) (u:TypeId) (ps:String) (ed:Array Edge) (b o:Nat) (z:Int) (u0:Value) (h1:a.eval (.tmp t1)=.pointer (some ⟨b,o,none⟩)) (h2:a.eval (.tmp t2)=.int .i64 z) (hc:w.cell? ⟨b,o,none⟩=some u0) (fz:w.frozen? ⟨b,o,none⟩=false) :
  (execOp a.eval { dst:=none,op:=Op.store 3 (.tmp t1) (.tmp t2),type:=u,pos:=ps,after:=ed,guard:=none }).run prog w=.ok .skip (w.setCell ⟨b,o,none⟩ (.int .i64 z)):=by
 unfold execOp
 simp only[h1,h2]
 go_simp
def qoo:Oper:=⟨some 54,.fieldAddr 58 (.tmp 8) 3,0, "apply.go:41",#[],none⟩
def qon:Oper:=⟨some 55,.load 3 (.tmp 54),3, "apply.go:41",#[⟨0,.data⟩],none⟩
def qom:Oper:=⟨some 56,.fieldAddr 58 (.tmp 8) 0,0, "apply.go:41",#[],none⟩
def qol:Oper:=⟨some 57,.load 55 (.tmp 56),55, "apply.go:41",#[⟨2,.data⟩],none⟩
def qok:Oper:=⟨some 58,.move (.tmp 10),3, "apply.go:41",#[],none⟩
def qoj:Oper:=⟨some 59,.indexAddr 55 (.tmp 57) (.tmp 58),0, "apply.go:41",#[⟨3,.data⟩,⟨4,.data⟩],none⟩
def qoi:Oper:=⟨some 60,.fieldAddr 65 (.tmp 59) 1,0, "apply.go:41",#[⟨5,.data⟩],none⟩
def qoh:Oper:=⟨some 61,.load 3 (.tmp 60),3, "apply.go:41",#[⟨6,.data⟩],none⟩
def qog:Oper:=⟨some 62,.binOp .add 3 (.tmp 55) (.tmp 61) 3,3, "apply.go:41",#[⟨1,.data⟩,⟨7,.data⟩],none⟩
def qof:Oper:=⟨some 63,.fieldAddr 58 (.tmp 8) 3,0, "apply.go:41",#[⟨0,.phase⟩,⟨1,.phase⟩,⟨2,.phase⟩,⟨3,.phase⟩,⟨4,.phase⟩,⟨5,.phase⟩,⟨6,.phase⟩,⟨7,.phase⟩,⟨8,.phase⟩],none⟩
def qew:Oper:=⟨none,.store 3 (.tmp 63) (.tmp 62),0, "apply.go:41",#[⟨9,.data⟩,⟨8,.data⟩,⟨0,.phase⟩,⟨1,.phase⟩,⟨2,.phase⟩,⟨3,.phase⟩,⟨4,.phase⟩,⟨5,.phase⟩,⟨6,.phase⟩,⟨7,.phase⟩,⟨8,.phase⟩],none⟩
def zbw:Array Oper:=#[qoo,qon,qom,qol,qok,qoj,qoi,qoh,qog,qof,qew]
structure qoe (W0:World) (g8:Nat) (gC:Nat) (nc:Nat) (k:Nat) (nt:Int) (y:Int) (z:Int)   (w:World):Prop where
 mem:But [] W0 w
def zev (i:Nat):Nat:=match i with
 | 0=>54
 | 1=>55
 | 2=>56
 | 3=>57
 | 4=>58
 | 5=>59
 | 6=>60
 | 7=>61
 | 8=>62
 | 9=>63
 | _=>54
def zly (i:Nat):Bool:=match i with
 | 10=>false
 | _=>true
def qod (g8:Nat) (gC:Nat) (nc:Nat) (k:Nat) (nt:Int) (y:Int) (z:Int)  (i:Nat):Value:=match i with
 | 0=>.pointer (some ⟨g8,3,none⟩)
 | 1=>.int .i64 nt
 | 2=>.pointer (some ⟨g8,0,none⟩)
 | 3=>.slice (some ⟨gC,0,none⟩) nc nc
 | 4=>.int .i64 (k:Int)
 | 5=>.pointer (some ⟨gC,k*2,none⟩)
 | 6=>.pointer (some ⟨gC,k*2+1,none⟩)
 | 7=>.int .i64 y
 | 8=>.int .i64 z
 | 9=>.pointer (some ⟨g8,3,none⟩)
 | _=>undef
theorem zga:wu zbw [(1,0),(3,2),(5,3),(5,4),(6,5),(7,6),(8,1),(8,7),(9,0),(9,1),(9,2),(9,3),(9,4),(9,5),(9,6),(9,7),(9,8),(10,0),(10,1),(10,2),(10,3),(10,4),(10,5),(10,6),(10,7),(10,8),(10,9)]=true:=by kernel_rfl
theorem zzv:∀ i j,i<11→j<11→zly i=true→zly j=true→zev i=zev j→i=j:=fun i j hi hj=>(by decide:∀ i,i<11→∀ j,j<11→zly i=true→zly j=true→zev i=zev j→i=j) i hi j hj
theorem zna (id:Nat) (Q:Exit→Act→World→Prop) (base:Act) (W0:World) (g8:Nat) (gC:Nat) (nc:Nat) (k:Nat) (nt:Int) (y:Int) (z:Int) (hs:63<base.tmps.size) (e8:base.eval (.tmp 8)=.pointer (some ⟨g8,0,none⟩)) (e10:base.eval (.tmp 10)=.int .i64 (k:Int))
  (hk:k<nc) (hn:nc<1000000) (hz:nt+y=z) (hb:-9223372036854775808≤z∧z<9223372036854775808) (c3:W0.cell? ⟨g8,3,none⟩=some (.int .i64 nt)) (c0:W0.cell? ⟨g8,0,none⟩=some (.slice (some ⟨gC,0,none⟩) nc nc)) (cy:W0.cell? ⟨gC,k*2+1,none⟩=some (.int .i64 y)) (fz:W0.frozen? ⟨g8,3,none⟩=false)
  (hQ:∀  w1,qoe W0 g8 gC nc k nt y z  w1→Q .normal (qx base [(54,.pointer (some ⟨g8,3,none⟩)),(55,.int .i64 nt),(56,.pointer (some ⟨g8,0,none⟩)),(57,.slice (some ⟨gC,0,none⟩) nc nc),(58,.int .i64 (k:Int)),(59,.pointer (some ⟨gC,k*2,none⟩)),(60,.pointer (some ⟨gC,k*2+1,none⟩)),(61,.int .i64 y),(62,.int .i64 z),(63,.pointer (some ⟨g8,3,none⟩))]) (w1.setCell ⟨g8,3,none⟩ (.int .i64 z))) :
  (Code.region id zbw true).wp prog Q base W0:=by
 have hT:∀ i,i<11→zly i=true→zev i<base.tmps.size:=fun i hi _=>by
  have h:zev i≤63:=by revert i;decide
  omega
 refine jm (by kernel_rfl) (wh (by kernel_rfl)) (iy (by kernel_rfl)) (fun (N:Unit) d w=>∃ w1,qoe W0 g8 gC nc k nt y z  w1∧(d 10=false→w=w1)∧(d 10=true→w=(w1.setCell ⟨g8,3,none⟩ (.int .i64 z)))) (fun N=>qod g8 gC nc k nt y z ) zev zly 11 (by kernel_rfl) zzv hT () ⟨_,{ mem:=(But.refl _ _).drew },fun _=>rfl,fun h=>by simp at h⟩ ?_ ?_
 ·intro N d i o a w K hi ho hdi hcl hH he hdep hK
  have hD:=pz zga ho (fun j=>d j=true∧(zly j=true→a.eval (.tmp (zev j))=qod g8 gC nc k nt y z  j)) hdep
  have e8':=(he 8 (fun j hj _ _=>(by decide:∀ j,j<11→(8:Nat)≠zev j) j hj)).trans e8
  have e10':=(he 10 (fun j hj _ _=>(by decide:∀ j,j<11→(10:Nat)≠zev j) j hj)).trans e10
  have:i=0∨i=1∨i=2∨i=3∨i=4∨i=5∨i=6∨i=7∨i=8∨i=9∨i=10:=by omega
  rcases this with rfl|rfl|rfl|rfl|rfl|rfl|rfl|rfl|rfl|rfl|rfl
  ·obtain rfl:=so (show zbw[0]? =some qoo from rfl) ho
   exact zh (zky a w _ _ _ _ _ _ g8 (0) (3) rfl e8') (hK N _ _ (fun _=>rfl) (fun _ _ _ _=>rfl) hH)
  ·obtain rfl:=so (show zbw[1]? =some qon from rfl) ho
   have hs0:d 10=false:=(hcl.not zga (i:=10) (j:=1) (by simp) hdi)
   obtain⟨w1,hP,h1,h2⟩:=hH
   obtain rfl:=h1 hs0
   have hW:=hP.mem
   exact zh (zgq a w _ _ _ _ _ _ g8 (3) _ ((hD 0 (by simp)).2 rfl) (hW.zb c3 (by simp))) (hK N _ _ (fun _=>rfl) (fun _ _ _ _=>rfl) ⟨_,hP,h1,h2⟩)
  ·obtain rfl:=so (show zbw[2]? =some qom from rfl) ho
   exact zh (qpv a w _ _ _ _ _ _ g8 (0) (0) rfl e8') (hK N _ _ (fun _=>rfl) (fun _ _ _ _=>rfl) hH)
  ·obtain rfl:=so (show zbw[3]? =some qol from rfl) ho
   have hs0:d 10=false:=(hcl.not zga (i:=10) (j:=3) (by simp) hdi)
   obtain⟨w1,hP,h1,h2⟩:=hH
   obtain rfl:=h1 hs0
   have hW:=hP.mem
   exact zh (qpu a w _ _ _ _ _ _ g8 (0) _ ((hD 2 (by simp)).2 rfl) (hW.zb c0 (by simp))) (hK N _ _ (fun _=>rfl) (fun _ _ _ _=>rfl) ⟨_,hP,h1,h2⟩)
  ·obtain rfl:=so (show zbw[4]? =some qok from rfl) ho
   exact zh (zz a w _ _ _ _ _ _ _ e10') (hK N _ _ (fun _=>rfl) (fun _ _ _ _=>rfl) hH)
  ·obtain rfl:=so (show zbw[5]? =some qoj from rfl) ho
   exact zh (qpt a w _ _ _ _ _ _ _ gC (0) (nc) (nc) (k) (k*2) (by omega) hk hn ((hD 3 (by simp)).2 rfl) ((hD 4 (by simp)).2 rfl)) (hK N _ _ (fun _=>rfl) (fun _ _ _ _=>rfl) hH)
  ·obtain rfl:=so (show zbw[6]? =some qoi from rfl) ho
   exact zh (qps a w _ _ _ _ _ _ gC (k*2) (k*2+1) rfl ((hD 5 (by simp)).2 rfl)) (hK N _ _ (fun _=>rfl) (fun _ _ _ _=>rfl) hH)
  ·obtain rfl:=so (show zbw[7]? =some qoh from rfl) ho
   have hs0:d 10=false:=(hcl.not zga (i:=10) (j:=7) (by simp) hdi)
   obtain⟨w1,hP,h1,h2⟩:=hH
   obtain rfl:=h1 hs0
   have hW:=hP.mem
   exact zh (zgq a w _ _ _ _ _ _ gC (k*2+1) _ ((hD 6 (by simp)).2 rfl) (hW.zb cy (by simp))) (hK N _ _ (fun _=>rfl) (fun _ _ _ _=>rfl) ⟨_,hP,h1,h2⟩)
  ·obtain rfl:=so (show zbw[8]? =some qog from rfl) ho
   exact zh (qpr a w _ _ _ _ _ _ _ _ _ _ hz hb ((hD 1 (by simp)).2 rfl) ((hD 7 (by simp)).2 rfl)) (hK N _ _ (fun _=>rfl) (fun _ _ _ _=>rfl) hH)
  ·obtain rfl:=so (show zbw[9]? =some qof from rfl) ho
   exact zh (zky a w _ _ _ _ _ _ g8 (0) (3) rfl e8') (hK N _ _ (fun _=>rfl) (fun _ _ _ _=>rfl) hH)
  ·obtain rfl:=so (show zbw[10]? =some qew from rfl) ho
   obtain⟨w1,hP,h1,h2⟩:=hH
   obtain rfl:=h1 hdi
   have hW:=hP.mem
   exact xg (zqg a w _ _ _ _ _ g8 (3) _ _ ((hD 9 (by simp)).2 rfl) ((hD 8 (by simp)).2 rfl) (hW.zb c3 (by simp)) ((hW.frozen (p:=⟨g8,3,none⟩) (lt_of_cell c3) (by simp)).trans fz)) (hK N undef _ (fun h=>absurd h (by decide)) (fun _ _ _ _=>rfl) ⟨w,hP,fun h=>absurd h (by rw[q9];simp),fun _=>rfl⟩)
 ·intro N d w hd hH
  obtain⟨w1,hP,h1,h2⟩:=hH
  rw[h2 (hd 10 (by omega))]
  exact hQ  w1 hP
theorem qby (a:Act) (w:World) (d t:Nat) (u:TypeId) (ps:String) (ed:Array Edge) (gd:Option (Nat × Bool)) (b o o':Nat) (ho:o+1=o') (h1:a.eval (.tmp t)=.pointer (some ⟨b,o,none⟩)) :
  (execOp a.eval { dst:=some d,op:=Op.fieldAddr 58 (.tmp t) 1,type:=u,pos:=ps,after:=ed,guard:=gd }).run prog w=.ok (.value (.pointer (some ⟨b,o',none⟩))) w:=by
 subst ho
 unfold execOp
 simp only[h1]
 go_simp
theorem zvc (a:Act) (w:World) (d t:Nat) (u:TypeId) (ps:String) (ed:Array Edge) (gd:Option (Nat × Bool)) (b o:Nat) (v:Value) (h1:a.eval (.tmp t)=.pointer (some ⟨b,o,none⟩)) (hc:w.cell? ⟨b,o,none⟩=some v) :
  (execOp a.eval { dst:=some d,op:=Op.load 56 (.tmp t),type:=u,pos:=ps,after:=ed,guard:=gd }).run prog w=.ok (.value v) w:=by
 unfold execOp
 simp only[h1]
 go_simp
theorem zjn (a:Act) (w:World) (d t1 t2:Nat) (u:TypeId) (ps:String) (ed:Array Edge) (gd:Option (Nat × Bool)) (b off n c k o':Nat) (ho:off+k=o') (hk:k<n) (_hn:n<1000000) (h1:a.eval (.tmp t1)=.slice (some ⟨b,off,none⟩) n c) (h2:a.eval (.tmp t2)=.int .i64 (k:Int)) :
  (execOp a.eval { dst:=some d,op:=Op.indexAddr 56 (.tmp t1) (.tmp t2),type:=u,pos:=ps,after:=ed,guard:=gd }).run prog w=.ok (.value (.pointer (some ⟨b,o',none⟩))) w:=by
 subst ho
 unfold execOp
 simp only[h1,h2]
 go_simp
theorem qij (a:Act) (w:World) (d t1 t2:Nat) (u:TypeId) (ps:String) (ed:Array Edge) (gd:Option (Nat × Bool)) (x y z:Int) (hz:x-y=z) (hb:-9223372036854775808≤z∧z<9223372036854775808) (h1:a.eval (.tmp t1)=.int .i64 x) (h2:a.eval (.tmp t2)=.int .i64 y) :
  (execOp a.eval { dst:=some d,op:=Op.binOp BinOp.sub 3 (.tmp t1) (.tmp t2) 3,type:=u,pos:=ps,after:=ed,guard:=gd }).run prog w=.ok (.value (.int .i64 z)) w:=by
 unfold execOp
 simp only[h1,h2]
 go_simp
 rw[IntKind.wrap_i64]
 omega
def qoc:Oper:=⟨some 96,.fieldAddr 58 (.tmp 8) 3,0, "apply.go:49",#[],none⟩
def qob:Oper:=⟨some 97,.load 3 (.tmp 96),3, "apply.go:49",#[⟨0,.data⟩],none⟩
def qoa:Oper:=⟨some 98,.fieldAddr 58 (.tmp 8) 1,0, "apply.go:49",#[],none⟩
def qnz:Oper:=⟨some 99,.load 56 (.tmp 98),56, "apply.go:49",#[⟨2,.data⟩],none⟩
def qny:Oper:=⟨some 100,.move (.tmp 12),3, "apply.go:49",#[],none⟩
def qnx:Oper:=⟨some 101,.indexAddr 56 (.tmp 99) (.tmp 100),0, "apply.go:49",#[⟨3,.data⟩,⟨4,.data⟩],none⟩
def qnw:Oper:=⟨some 102,.load 3 (.tmp 101),3, "apply.go:49",#[⟨5,.data⟩],none⟩
def qnv:Oper:=⟨some 103,.binOp .sub 3 (.tmp 97) (.tmp 102) 3,3, "apply.go:49",#[⟨1,.data⟩,⟨6,.data⟩],none⟩
def qnu:Oper:=⟨some 104,.fieldAddr 58 (.tmp 8) 3,0, "apply.go:49",#[⟨0,.phase⟩,⟨1,.phase⟩,⟨2,.phase⟩,⟨3,.phase⟩,⟨4,.phase⟩,⟨5,.phase⟩,⟨6,.phase⟩,⟨7,.phase⟩],none⟩
def qnt:Oper:=⟨none,.store 3 (.tmp 104) (.tmp 103),0, "apply.go:49",#[⟨8,.data⟩,⟨7,.data⟩,⟨0,.phase⟩,⟨1,.phase⟩,⟨2,.phase⟩,⟨3,.phase⟩,⟨4,.phase⟩,⟨5,.phase⟩,⟨6,.phase⟩,⟨7,.phase⟩],none⟩
def zcw:Array Oper:=#[qoc,qob,qoa,qnz,qny,qnx,qnw,qnv,qnu,qnt]
structure qns (W0:World) (g8:Nat) (gS:Nat) (n:Nat) (k:Nat) (nt:Int) (y:Int) (z:Int)   (w:World):Prop where
 mem:But [] W0 w
def zeu (i:Nat):Nat:=match i with
 | 0=>96
 | 1=>97
 | 2=>98
 | 3=>99
 | 4=>100
 | 5=>101
 | 6=>102
 | 7=>103
 | 8=>104
 | _=>96
def zlx (i:Nat):Bool:=match i with
 | 9=>false
 | _=>true
def qnr (g8:Nat) (gS:Nat) (n:Nat) (k:Nat) (nt:Int) (y:Int) (z:Int)  (i:Nat):Value:=match i with
 | 0=>.pointer (some ⟨g8,3,none⟩)
 | 1=>.int .i64 nt
 | 2=>.pointer (some ⟨g8,1,none⟩)
 | 3=>.slice (some ⟨gS,0,none⟩) n n
 | 4=>.int .i64 (k:Int)
 | 5=>.pointer (some ⟨gS,k,none⟩)
 | 6=>.int .i64 y
 | 7=>.int .i64 z
 | 8=>.pointer (some ⟨g8,3,none⟩)
 | _=>undef
theorem zfz:wu zcw [(1,0),(3,2),(5,3),(5,4),(6,5),(7,1),(7,6),(8,0),(8,1),(8,2),(8,3),(8,4),(8,5),(8,6),(8,7),(9,0),(9,1),(9,2),(9,3),(9,4),(9,5),(9,6),(9,7),(9,8)]=true:=by kernel_rfl
theorem zzu:∀ i j,i<10→j<10→zlx i=true→zlx j=true→zeu i=zeu j→i=j:=fun i j hi hj=>(by decide:∀ i,i<10→∀ j,j<10→zlx i=true→zlx j=true→zeu i=zeu j→i=j) i hi j hj
theorem zmx (id:Nat) (Q:Exit→Act→World→Prop) (base:Act) (W0:World) (g8:Nat) (gS:Nat) (n:Nat) (k:Nat) (nt:Int) (y:Int) (z:Int) (hs:104<base.tmps.size) (e8:base.eval (.tmp 8)=.pointer (some ⟨g8,0,none⟩)) (e12:base.eval (.tmp 12)=.int .i64 (k:Int))
  (hk:k<n) (hn:n<1000000) (hz:nt-y=z) (hb:-9223372036854775808≤z∧z<9223372036854775808) (c3:W0.cell? ⟨g8,3,none⟩=some (.int .i64 nt)) (c1:W0.cell? ⟨g8,1,none⟩=some (.slice (some ⟨gS,0,none⟩) n n)) (cy:W0.cell? ⟨gS,k,none⟩=some (.int .i64 y)) (fz:W0.frozen? ⟨g8,3,none⟩=false)
  (hQ:∀  w1,qns W0 g8 gS n k nt y z  w1→Q .normal (qx base [(96,.pointer (some ⟨g8,3,none⟩)),(97,.int .i64 nt),(98,.pointer (some ⟨g8,1,none⟩)),(99,.slice (some ⟨gS,0,none⟩) n n),(100,.int .i64 (k:Int)),(101,.pointer (some ⟨gS,k,none⟩)),(102,.int .i64 y),(103,.int .i64 z),(104,.pointer (some ⟨g8,3,none⟩))]) (w1.setCell ⟨g8,3,none⟩ (.int .i64 z))) :
  (Code.region id zcw true).wp prog Q base W0:=by
 have hT:∀ i,i<10→zlx i=true→zeu i<base.tmps.size:=fun i hi _=>by
  have h:zeu i≤104:=by revert i;decide
  omega
 refine jm (by kernel_rfl) (wh (by kernel_rfl)) (iy (by kernel_rfl)) (fun (N:Unit) d w=>∃ w1,qns W0 g8 gS n k nt y z  w1∧(d 9=false→w=w1)∧(d 9=true→w=(w1.setCell ⟨g8,3,none⟩ (.int .i64 z)))) (fun N=>qnr g8 gS n k nt y z ) zeu zlx 10 (by kernel_rfl) zzu hT () ⟨_,{ mem:=(But.refl _ _).drew },fun _=>rfl,fun h=>by simp at h⟩ ?_ ?_
 ·intro N d i o a w K hi ho hdi hcl hH he hdep hK
  have hD:=pz zfz ho (fun j=>d j=true∧(zlx j=true→a.eval (.tmp (zeu j))=qnr g8 gS n k nt y z  j)) hdep
  have e8':=(he 8 (fun j hj _ _=>(by decide:∀ j,j<10→(8:Nat)≠zeu j) j hj)).trans e8
  have e12':=(he 12 (fun j hj _ _=>(by decide:∀ j,j<10→(12:Nat)≠zeu j) j hj)).trans e12
  have:i=0∨i=1∨i=2∨i=3∨i=4∨i=5∨i=6∨i=7∨i=8∨i=9:=by omega
  rcases this with rfl|rfl|rfl|rfl|rfl|rfl|rfl|rfl|rfl|rfl
  ·obtain rfl:=so (show zcw[0]? =some qoc from rfl) ho
   exact zh (zky a w _ _ _ _ _ _ g8 (0) (3) rfl e8') (hK N _ _ (fun _=>rfl) (fun _ _ _ _=>rfl) hH)
  ·obtain rfl:=so (show zcw[1]? =some qob from rfl) ho
   have hs0:d 9=false:=(hcl.not zfz (i:=9) (j:=1) (by simp) hdi)
   obtain⟨w1,hP,h1,h2⟩:=hH
   obtain rfl:=h1 hs0
   have hW:=hP.mem
   exact zh (zgq a w _ _ _ _ _ _ g8 (3) _ ((hD 0 (by simp)).2 rfl) (hW.zb c3 (by simp))) (hK N _ _ (fun _=>rfl) (fun _ _ _ _=>rfl) ⟨_,hP,h1,h2⟩)
  ·obtain rfl:=so (show zcw[2]? =some qoa from rfl) ho
   exact zh (qby a w _ _ _ _ _ _ g8 (0) (1) rfl e8') (hK N _ _ (fun _=>rfl) (fun _ _ _ _=>rfl) hH)
  ·obtain rfl:=so (show zcw[3]? =some qnz from rfl) ho
   have hs0:d 9=false:=(hcl.not zfz (i:=9) (j:=3) (by simp) hdi)
   obtain⟨w1,hP,h1,h2⟩:=hH
   obtain rfl:=h1 hs0
   have hW:=hP.mem
   exact zh (zvc a w _ _ _ _ _ _ g8 (1) _ ((hD 2 (by simp)).2 rfl) (hW.zb c1 (by simp))) (hK N _ _ (fun _=>rfl) (fun _ _ _ _=>rfl) ⟨_,hP,h1,h2⟩)
  ·obtain rfl:=so (show zcw[4]? =some qny from rfl) ho
   exact zh (zz a w _ _ _ _ _ _ _ e12') (hK N _ _ (fun _=>rfl) (fun _ _ _ _=>rfl) hH)
  ·obtain rfl:=so (show zcw[5]? =some qnx from rfl) ho
   exact zh (zjn a w _ _ _ _ _ _ _ gS (0) (n) (n) (k) (k) (by omega) hk hn ((hD 3 (by simp)).2 rfl) ((hD 4 (by simp)).2 rfl)) (hK N _ _ (fun _=>rfl) (fun _ _ _ _=>rfl) hH)
  ·obtain rfl:=so (show zcw[6]? =some qnw from rfl) ho
   have hs0:d 9=false:=(hcl.not zfz (i:=9) (j:=6) (by simp) hdi)
   obtain⟨w1,hP,h1,h2⟩:=hH
   obtain rfl:=h1 hs0
   have hW:=hP.mem
   exact zh (zgq a w _ _ _ _ _ _ gS (k) _ ((hD 5 (by simp)).2 rfl) (hW.zb cy (by simp))) (hK N _ _ (fun _=>rfl) (fun _ _ _ _=>rfl) ⟨_,hP,h1,h2⟩)
  ·obtain rfl:=so (show zcw[7]? =some qnv from rfl) ho
   exact zh (qij a w _ _ _ _ _ _ _ _ _ _ hz hb ((hD 1 (by simp)).2 rfl) ((hD 6 (by simp)).2 rfl)) (hK N _ _ (fun _=>rfl) (fun _ _ _ _=>rfl) hH)
  ·obtain rfl:=so (show zcw[8]? =some qnu from rfl) ho
   exact zh (zky a w _ _ _ _ _ _ g8 (0) (3) rfl e8') (hK N _ _ (fun _=>rfl) (fun _ _ _ _=>rfl) hH)
  ·obtain rfl:=so (show zcw[9]? =some qnt from rfl) ho
   obtain⟨w1,hP,h1,h2⟩:=hH
   obtain rfl:=h1 hdi
   have hW:=hP.mem
   exact xg (zqg a w _ _ _ _ _ g8 (3) _ _ ((hD 8 (by simp)).2 rfl) ((hD 7 (by simp)).2 rfl) (hW.zb c3 (by simp)) ((hW.frozen (p:=⟨g8,3,none⟩) (lt_of_cell c3) (by simp)).trans fz)) (hK N undef _ (fun h=>absurd h (by decide)) (fun _ _ _ _=>rfl) ⟨w,hP,fun h=>absurd h (by rw[q9];simp),fun _=>rfl⟩)
 ·intro N d w hd hH
  obtain⟨w1,hP,h1,h2⟩:=hH
  rw[h2 (hd 9 (by omega))]
  exact hQ  w1 hP
theorem qii (a:Act) (w:World) (d t0 t1:Nat) (u:TypeId) (ps:String) (ed:Array Edge) (gd:Option (Nat × Bool)) (z0 z1:Value) (h0:a.eval (.tmp t0)=z0) (h1:a.eval (.tmp t1)=z1) :
  (execOp a.eval { dst:=some d,op:=Op.call { callee:=Callee.value (Operand.func 31),args:=#[Operand.tmp t0,Operand.tmp t1],argTypes:=#[37,3] },type:=u,pos:=ps,after:=ed,guard:=gd }).run prog w=.ok (.enter 31 #[z0,z1]) w:=by
 unfold execOp
 go_simp
 rw[← h0,← h1]
 simp[Act.eval]
def qnq:Oper:=⟨some 88,.fieldAddr 58 (.tmp 8) 1,0, "apply.go:48",#[],none⟩
def qnp:Oper:=⟨some 89,.load 56 (.tmp 88),56, "apply.go:48",#[⟨0,.data⟩],none⟩
def qno:Oper:=⟨some 90,.move (.tmp 12),3, "apply.go:48",#[],none⟩
def qnn:Oper:=⟨some 91,.load 37 (.tmp 13),37, "apply.go:48",#[],none⟩
def qnm:Oper:=⟨some 92,.fieldAddr 58 (.tmp 8) 3,0, "apply.go:48",#[],none⟩
def qnl:Oper:=⟨some 93,.load 3 (.tmp 92),3, "apply.go:48",#[⟨4,.data⟩],none⟩
def qnk:Oper:=⟨some 94,.call { callee:=.value (.func 31),args:=#[.tmp 91,.tmp 93],argTypes:=#[37,3] },3, "apply.go:48",#[⟨3,.data⟩,⟨5,.data⟩],none⟩
def qnj:Oper:=⟨some 95,.indexAddr 56 (.tmp 89) (.tmp 90),0, "apply.go:48",#[⟨1,.data⟩,⟨2,.data⟩,⟨0,.phase⟩,⟨1,.phase⟩,⟨2,.phase⟩,⟨3,.phase⟩,⟨4,.phase⟩,⟨5,.phase⟩,⟨6,.phase⟩],none⟩
def qni:Oper:=⟨none,.store 3 (.tmp 95) (.tmp 94),0, "apply.go:48",#[⟨7,.data⟩,⟨6,.data⟩,⟨6,.chain⟩,⟨0,.phase⟩,⟨1,.phase⟩,⟨2,.phase⟩,⟨3,.phase⟩,⟨4,.phase⟩,⟨5,.phase⟩,⟨6,.phase⟩],none⟩
def zdn:Array Oper:=#[qnq,qnp,qno,qnn,qnm,qnl,qnk,qnj,qni]
structure zsx (W0:World) (g8:Nat) (g13:Nat) (gS:Nat) (n:Nat) (k:Nat) (kd:Int) (s1:Bool) (x1:Int) (y1:Int) (p1:Option Addr) (fq:Int) (li:Int) (ti:Int) (pq:Int) (tof:ByteArray) (nt:Int) (z:Int) (u0:Value)   (w:World):Prop where
 mem:But [] W0 w
theorem zsx.but {W0:World} {g8:Nat} {g13:Nat} {gS:Nat} {n:Nat} {k:Nat} {kd:Int} {s1:Bool} {x1:Int} {y1:Int} {p1:Option Addr} {fq:Int} {li:Int} {ti:Int} {pq:Int} {tof:ByteArray} {nt:Int} {z:Int} {u0:Value}  {w w':World} (h:zsx W0 g8 g13 gS n k kd s1 x1 y1 p1 fq li ti pq tof nt z u0  w) (hb:But [] w w'):zsx W0 g8 g13 gS n k kd s1 x1 y1 p1 fq li ti pq tof nt z u0  w' :=
 { mem:=h.mem.trans' hb }
def zdp (i:Nat):Nat:=match i with
 | 0=>88
 | 1=>89
 | 2=>90
 | 3=>91
 | 4=>92
 | 5=>93
 | 6=>94
 | 7=>95
 | _=>88
def zlw (i:Nat):Bool:=match i with
 | 8=>false
 | _=>true
def qev (g8:Nat) (_g13:Nat) (gS:Nat) (n:Nat) (k:Nat) (kd:Int) (s1:Bool) (x1:Int) (y1:Int) (p1:Option Addr) (fq:Int) (li:Int) (ti:Int) (pq:Int) (tof:ByteArray) (nt:Int) (z:Int) (_u0:Value)  (i:Nat):Value:=match i with
 | 0=>.pointer (some ⟨g8,1,none⟩)
 | 1=>.slice (some ⟨gS,0,none⟩) n n
 | 2=>.int .i64 (k:Int)
 | 3=>.agg #[.int .i64 kd,.bool s1,.int .u64 x1,.int .u64 y1,.pointer p1,.int .i64 fq,.int .i64 li,.int .i64 ti,.int .i64 pq,.string tof]
 | 4=>.pointer (some ⟨g8,3,none⟩)
 | 5=>.int .i64 nt
 | 6=>.int .i64 z
 | 7=>.pointer (some ⟨gS,k,none⟩)
 | _=>undef
theorem zdo:wu zdn [(1,0),(5,4),(6,3),(6,5),(7,0),(7,1),(7,2),(7,3),(7,4),(7,5),(7,6),(8,0),(8,1),(8,2),(8,3),(8,4),(8,5),(8,6),(8,7)]=true:=by kernel_rfl
theorem zzt:∀ i j,i<9→j<9→zlw i=true→zlw j=true→zdp i=zdp j→i=j:=fun i j hi hj=>(by decide:∀ i,i<9→∀ j,j<9→zlw i=true→zlw j=true→zdp i=zdp j→i=j) i hi j hj
theorem zmy (id:Nat) (Q:Exit→Act→World→Prop) (base:Act) (W0:World) (g8:Nat) (g13:Nat) (gS:Nat) (n:Nat) (k:Nat) (kd:Int) (s1:Bool) (x1:Int) (y1:Int) (p1:Option Addr) (fq:Int) (li:Int) (ti:Int) (pq:Int) (tof:ByteArray) (nt:Int) (z:Int) (u0:Value) (hs:95<base.tmps.size) (e8:base.eval (.tmp 8)=.pointer (some ⟨g8,0,none⟩)) (e12:base.eval (.tmp 12)=.int .i64 (k:Int)) (e13:base.eval (.tmp 13)=.pointer (some ⟨g13,0,none⟩))
  (hk:k<n) (hn:n<1000000) (c3:W0.cell? ⟨g8,3,none⟩=some (.int .i64 nt)) (c1:W0.cell? ⟨g8,1,none⟩=some (.slice (some ⟨gS,0,none⟩) n n)) (x13:bf W0 g13 kd s1 x1 y1 p1 fq li ti pq tof) (cz:W0.cell? ⟨gS,k,none⟩=some u0) (fz:W0.frozen? ⟨gS,k,none⟩=false)
  (AB:∀ w,But [] W0 w→Calls prog 31 #[.agg #[.int .i64 kd,.bool s1,.int .u64 x1,.int .u64 y1,.pointer p1,.int .i64 fq,.int .i64 li,.int .i64 ti,.int .i64 pq,.string tof],.int .i64 nt] w fun e w'=>e=.returned (.int .i64 z)∧But [] w w')
  (hQ:∀  w1,zsx W0 g8 g13 gS n k kd s1 x1 y1 p1 fq li ti pq tof nt z u0  w1→Q .normal (qx base [(88,.pointer (some ⟨g8,1,none⟩)),(89,.slice (some ⟨gS,0,none⟩) n n),(90,.int .i64 (k:Int)),(91,.agg #[.int .i64 kd,.bool s1,.int .u64 x1,.int .u64 y1,.pointer p1,.int .i64 fq,.int .i64 li,.int .i64 ti,.int .i64 pq,.string tof]),(92,.pointer (some ⟨g8,3,none⟩)),(93,.int .i64 nt),(94,.int .i64 z),(95,.pointer (some ⟨gS,k,none⟩))]) (w1.setCell ⟨gS,k,none⟩ (.int .i64 z))) :
  (Code.region id zdn true).wp prog Q base W0:=by
 have hT:∀ i,i<9→zlw i=true→zdp i<base.tmps.size:=fun i hi _=>by
  have h:zdp i≤95:=by revert i;decide
  omega
 refine jm (by kernel_rfl) (wh (by kernel_rfl)) (iy (by kernel_rfl)) (fun (N:Unit) d w=>∃ w1,zsx W0 g8 g13 gS n k kd s1 x1 y1 p1 fq li ti pq tof nt z u0  w1∧(d 8=false→w=w1)∧(d 8=true→w=(w1.setCell ⟨gS,k,none⟩ (.int .i64 z)))) (fun N=>qev g8 g13 gS n k kd s1 x1 y1 p1 fq li ti pq tof nt z u0 ) zdp zlw 9 (by kernel_rfl) zzt hT () ⟨_,{ mem:=(But.refl _ _).drew },fun _=>rfl,fun h=>by simp at h⟩ ?_ ?_
 ·intro N d i o a w K hi ho hdi hcl hH he hdep hK
  have hD:=pz zdo ho (fun j=>d j=true∧(zlw j=true→a.eval (.tmp (zdp j))=qev g8 g13 gS n k kd s1 x1 y1 p1 fq li ti pq tof nt z u0  j)) hdep
  have e8':=(he 8 (fun j hj _ _=>(by decide:∀ j,j<9→(8:Nat)≠zdp j) j hj)).trans e8
  have e12':=(he 12 (fun j hj _ _=>(by decide:∀ j,j<9→(12:Nat)≠zdp j) j hj)).trans e12
  have e13':=(he 13 (fun j hj _ _=>(by decide:∀ j,j<9→(13:Nat)≠zdp j) j hj)).trans e13
  have:i=0∨i=1∨i=2∨i=3∨i=4∨i=5∨i=6∨i=7∨i=8:=by omega
  rcases this with rfl|rfl|rfl|rfl|rfl|rfl|rfl|rfl|rfl
  ·obtain rfl:=so (show zdn[0]? =some qnq from rfl) ho
   exact zh (qby a w _ _ _ _ _ _ g8 (0) (1) rfl e8') (hK N _ _ (fun _=>rfl) (fun _ _ _ _=>rfl) hH)
  ·obtain rfl:=so (show zdn[1]? =some qnp from rfl) ho
   have hs0:d 8=false:=(hcl.not zdo (i:=8) (j:=1) (by simp) hdi)
   obtain⟨w1,hP,h1,h2⟩:=hH
   obtain rfl:=h1 hs0
   have hW:=hP.mem
   exact zh (zvc a w _ _ _ _ _ _ g8 (1) _ ((hD 0 (by simp)).2 rfl) (hW.zb c1 (by simp))) (hK N _ _ (fun _=>rfl) (fun _ _ _ _=>rfl) ⟨_,hP,h1,h2⟩)
  ·obtain rfl:=so (show zdn[2]? =some qno from rfl) ho
   exact zh (zz a w _ _ _ _ _ _ _ e12') (hK N _ _ (fun _=>rfl) (fun _ _ _ _=>rfl) hH)
  ·obtain rfl:=so (show zdn[3]? =some qnn from rfl) ho
   have hs0:d 8=false:=(hcl.not zdo (i:=8) (j:=3) (by simp) hdi)
   obtain⟨w1,hP,h1,h2⟩:=hH
   obtain rfl:=h1 hs0
   have hW:=hP.mem
   exact zh (ni a w _ _ _ _ _ _ g13 _ _ _ _ _ _ _ _ _ _ e13' (x13.but hW (by simp))) (hK N _ _ (fun _=>rfl) (fun _ _ _ _=>rfl) ⟨_,hP,h1,h2⟩)
  ·obtain rfl:=so (show zdn[4]? =some qnm from rfl) ho
   exact zh (zky a w _ _ _ _ _ _ g8 (0) (3) rfl e8') (hK N _ _ (fun _=>rfl) (fun _ _ _ _=>rfl) hH)
  ·obtain rfl:=so (show zdn[5]? =some qnl from rfl) ho
   have hs0:d 8=false:=(hcl.not zdo (i:=8) (j:=5) (by simp) hdi)
   obtain⟨w1,hP,h1,h2⟩:=hH
   obtain rfl:=h1 hs0
   have hW:=hP.mem
   exact zh (zgq a w _ _ _ _ _ _ g8 (3) _ ((hD 4 (by simp)).2 rfl) (hW.zb c3 (by simp))) (hK N _ _ (fun _=>rfl) (fun _ _ _ _=>rfl) ⟨_,hP,h1,h2⟩)
  ·obtain rfl:=so (show zdn[6]? =some qnk from rfl) ho
   have hs0:d 8=false:=(hcl.not zdo (i:=8) (j:=6) (by simp) hdi)
   obtain⟨w1,hP,h1,h2⟩:=hH
   obtain rfl:=h1 hs0
   have hW:=hP.mem
   exact jd (qii a w _ _ _ _ _ _ _ _ _ ((hD 3 (by simp)).2 rfl) ((hD 5 (by simp)).2 rfl)) (R:=fun w' v=>v=qev g8 g13 gS n k kd s1 x1 y1 p1 fq li ti pq tof nt z u0  6∧But [] w w') ((AB w hW).mono fun e w' ⟨he,hb⟩=>⟨_,he,rfl,hb⟩) (fun v w' hv=>hK N _ _ (fun _=>hv.1) (fun _ _ _ _=>rfl) ⟨_,(hP.but hv.2),fun _=>rfl,fun h=>absurd (hs0.symm.trans h) (by simp)⟩)
  ·obtain rfl:=so (show zdn[7]? =some qnj from rfl) ho
   exact zh (zjn a w _ _ _ _ _ _ _ gS (0) (n) (n) (k) (k) (by omega) hk hn ((hD 1 (by simp)).2 rfl) ((hD 2 (by simp)).2 rfl)) (hK N _ _ (fun _=>rfl) (fun _ _ _ _=>rfl) hH)
  ·obtain rfl:=so (show zdn[8]? =some qni from rfl) ho
   obtain⟨w1,hP,h1,h2⟩:=hH
   obtain rfl:=h1 hdi
   have hW:=hP.mem
   exact xg (zqg a w _ _ _ _ _ gS (k) _ _ ((hD 7 (by simp)).2 rfl) ((hD 6 (by simp)).2 rfl) (hW.zb cz (by simp)) ((hW.frozen (p:=⟨gS,k,none⟩) (lt_of_cell cz) (by simp)).trans fz)) (hK N undef _ (fun h=>absurd h (by decide)) (fun _ _ _ _=>rfl) ⟨w,hP,fun h=>absurd h (by rw[q9];simp),fun _=>rfl⟩)
 ·intro N d w hd hH
  obtain⟨w1,hP,h1,h2⟩:=hH
  rw[h2 (hd 8 (by omega))]
  exact hQ  w1 hP
theorem qih (a:Act) (w:World) (d t:Nat) (u:TypeId) (ps:String) (ed:Array Edge) (gd:Option (Nat × Bool)) (b o o':Nat) (ho:o+2=o') (h1:a.eval (.tmp t)=.pointer (some ⟨b,o,none⟩)) :
  (execOp a.eval { dst:=some d,op:=Op.fieldAddr 58 (.tmp t) 2,type:=u,pos:=ps,after:=ed,guard:=gd }).run prog w=.ok (.value (.pointer (some ⟨b,o',none⟩))) w:=by
 subst ho
 unfold execOp
 simp only[h1]
 go_simp
theorem qig (a:Act) (w:World) (d t0 t1:Nat) (u:TypeId) (ps:String) (ed:Array Edge) (gd:Option (Nat × Bool)) (z0 z1:Value) (h0:a.eval (.tmp t0)=z0) (h1:a.eval (.tmp t1)=z1) :
  (execOp a.eval { dst:=some d,op:=Op.call { callee:=Callee.value (Operand.func 30),args:=#[Operand.tmp t0,Operand.tmp t1],argTypes:=#[37,3] },type:=u,pos:=ps,after:=ed,guard:=gd }).run prog w=.ok (.enter 30 #[z0,z1]) w:=by
 unfold execOp
 go_simp
 rw[← h0,← h1]
 simp[Act.eval]
def qnh:Oper:=⟨some 76,.fieldAddr 58 (.tmp 8) 2,0, "apply.go:46",#[],none⟩
def qng:Oper:=⟨some 77,.load 56 (.tmp 76),56, "apply.go:46",#[⟨0,.data⟩],none⟩
def qnf:Oper:=⟨some 78,.move (.tmp 12),3, "apply.go:46",#[],none⟩
def qne:Oper:=⟨some 79,.load 37 (.tmp 13),37, "apply.go:46",#[],none⟩
def qnd:Oper:=⟨some 80,.move (.tmp 9),56, "apply.go:46",#[],none⟩
def qnc:Oper:=⟨some 81,.move (.tmp 12),3, "apply.go:46",#[],none⟩
def qnb:Oper:=⟨some 82,.indexAddr 56 (.tmp 80) (.tmp 81),0, "apply.go:46",#[⟨4,.data⟩,⟨5,.data⟩],none⟩
def qna:Oper:=⟨some 83,.load 3 (.tmp 82),3, "apply.go:46",#[⟨6,.data⟩],none⟩
def qmz:Oper:=⟨some 84,.call { callee:=.value (.func 30),args:=#[.tmp 79,.tmp 83],argTypes:=#[37,3] },3, "apply.go:46",#[⟨3,.data⟩,⟨7,.data⟩],none⟩
def qmy:Oper:=⟨some 85,.indexAddr 56 (.tmp 77) (.tmp 78),0, "apply.go:46",#[⟨1,.data⟩,⟨2,.data⟩,⟨0,.phase⟩,⟨1,.phase⟩,⟨2,.phase⟩,⟨3,.phase⟩,⟨4,.phase⟩,⟨5,.phase⟩,⟨6,.phase⟩,⟨7,.phase⟩,⟨8,.phase⟩],none⟩
def qeu:Oper:=⟨none,.store 3 (.tmp 85) (.tmp 84),0, "apply.go:46",#[⟨9,.data⟩,⟨8,.data⟩,⟨8,.chain⟩,⟨0,.phase⟩,⟨1,.phase⟩,⟨2,.phase⟩,⟨3,.phase⟩,⟨4,.phase⟩,⟨5,.phase⟩,⟨6,.phase⟩,⟨7,.phase⟩,⟨8,.phase⟩],none⟩
def zbv:Array Oper:=#[qnh,qng,qnf,qne,qnd,qnc,qnb,qna,qmz,qmy,qeu]
structure zsw (W0:World) (g8:Nat) (g13:Nat) (gP:Nat) (gb:Nat) (n:Nat) (k:Nat) (kd:Int) (s1:Bool) (x1:Int) (y1:Int) (p1:Option Addr) (fq:Int) (li:Int) (ti:Int) (pq:Int) (tof:ByteArray) (bo:Int) (z:Int) (u0:Value)   (w:World):Prop where
 mem:But [] W0 w
theorem zsw.but {W0:World} {g8:Nat} {g13:Nat} {gP:Nat} {gb:Nat} {n:Nat} {k:Nat} {kd:Int} {s1:Bool} {x1:Int} {y1:Int} {p1:Option Addr} {fq:Int} {li:Int} {ti:Int} {pq:Int} {tof:ByteArray} {bo:Int} {z:Int} {u0:Value}  {w w':World} (h:zsw W0 g8 g13 gP gb n k kd s1 x1 y1 p1 fq li ti pq tof bo z u0  w) (hb:But [] w w'):zsw W0 g8 g13 gP gb n k kd s1 x1 y1 p1 fq li ti pq tof bo z u0  w' :=
 { mem:=h.mem.trans' hb }
def zcv (i:Nat):Nat:=match i with
 | 0=>76
 | 1=>77
 | 2=>78
 | 3=>79
 | 4=>80
 | 5=>81
 | 6=>82
 | 7=>83
 | 8=>84
 | 9=>85
 | _=>76
def zlv (i:Nat):Bool:=match i with
 | 10=>false
 | _=>true
def qet (g8:Nat) (_g13:Nat) (gP:Nat) (gb:Nat) (n:Nat) (k:Nat) (kd:Int) (s1:Bool) (x1:Int) (y1:Int) (p1:Option Addr) (fq:Int) (li:Int) (ti:Int) (pq:Int) (tof:ByteArray) (bo:Int) (z:Int) (_u0:Value)  (i:Nat):Value:=match i with
 | 0=>.pointer (some ⟨g8,2,none⟩)
 | 1=>.slice (some ⟨gP,0,none⟩) n n
 | 2=>.int .i64 (k:Int)
 | 3=>.agg #[.int .i64 kd,.bool s1,.int .u64 x1,.int .u64 y1,.pointer p1,.int .i64 fq,.int .i64 li,.int .i64 ti,.int .i64 pq,.string tof]
 | 4=>.slice (some ⟨gb,0,none⟩) n n
 | 5=>.int .i64 (k:Int)
 | 6=>.pointer (some ⟨gb,k,none⟩)
 | 7=>.int .i64 bo
 | 8=>.int .i64 z
 | 9=>.pointer (some ⟨gP,k,none⟩)
 | _=>undef
theorem zdm:wu zbv [(1,0),(6,4),(6,5),(7,6),(8,3),(8,7),(9,0),(9,1),(9,2),(9,3),(9,4),(9,5),(9,6),(9,7),(9,8),(10,0),(10,1),(10,2),(10,3),(10,4),(10,5),(10,6),(10,7),(10,8),(10,9)]=true:=by kernel_rfl
theorem zzs:∀ i j,i<11→j<11→zlv i=true→zlv j=true→zcv i=zcv j→i=j:=fun i j hi hj=>(by decide:∀ i,i<11→∀ j,j<11→zlv i=true→zlv j=true→zcv i=zcv j→i=j) i hi j hj
theorem zmz (id:Nat) (Q:Exit→Act→World→Prop) (base:Act) (W0:World) (g8:Nat) (g13:Nat) (gP:Nat) (gb:Nat) (n:Nat) (k:Nat) (kd:Int) (s1:Bool) (x1:Int) (y1:Int) (p1:Option Addr) (fq:Int) (li:Int) (ti:Int) (pq:Int) (tof:ByteArray) (bo:Int) (z:Int) (u0:Value) (hs:85<base.tmps.size) (e8:base.eval (.tmp 8)=.pointer (some ⟨g8,0,none⟩)) (e12:base.eval (.tmp 12)=.int .i64 (k:Int)) (e13:base.eval (.tmp 13)=.pointer (some ⟨g13,0,none⟩)) (e9:base.eval (.tmp 9)=.slice (some ⟨gb,0,none⟩) n n)
  (hk:k<n) (hn:n<1000000) (c2:W0.cell? ⟨g8,2,none⟩=some (.slice (some ⟨gP,0,none⟩) n n)) (cb:W0.cell? ⟨gb,k,none⟩=some (.int .i64 bo)) (x13:bf W0 g13 kd s1 x1 y1 p1 fq li ti pq tof) (cz:W0.cell? ⟨gP,k,none⟩=some u0) (fz:W0.frozen? ⟨gP,k,none⟩=false)
  (PR:∀ w,But [] W0 w→Calls prog 30 #[.agg #[.int .i64 kd,.bool s1,.int .u64 x1,.int .u64 y1,.pointer p1,.int .i64 fq,.int .i64 li,.int .i64 ti,.int .i64 pq,.string tof],.int .i64 bo] w fun e w'=>e=.returned (.int .i64 z)∧But [] w w')
  (hQ:∀  w1,zsw W0 g8 g13 gP gb n k kd s1 x1 y1 p1 fq li ti pq tof bo z u0  w1→Q .normal (qx base [(76,.pointer (some ⟨g8,2,none⟩)),(77,.slice (some ⟨gP,0,none⟩) n n),(78,.int .i64 (k:Int)),(79,.agg #[.int .i64 kd,.bool s1,.int .u64 x1,.int .u64 y1,.pointer p1,.int .i64 fq,.int .i64 li,.int .i64 ti,.int .i64 pq,.string tof]),(80,.slice (some ⟨gb,0,none⟩) n n),(81,.int .i64 (k:Int)),(82,.pointer (some ⟨gb,k,none⟩)),(83,.int .i64 bo),(84,.int .i64 z),(85,.pointer (some ⟨gP,k,none⟩))]) (w1.setCell ⟨gP,k,none⟩ (.int .i64 z))) :
  (Code.region id zbv true).wp prog Q base W0:=by
 have hT:∀ i,i<11→zlv i=true→zcv i<base.tmps.size:=fun i hi _=>by
  have h:zcv i≤85:=by revert i;decide
  omega
 refine jm (by kernel_rfl) (wh (by kernel_rfl)) (iy (by kernel_rfl)) (fun (N:Unit) d w=>∃ w1,zsw W0 g8 g13 gP gb n k kd s1 x1 y1 p1 fq li ti pq tof bo z u0  w1∧(d 10=false→w=w1)∧(d 10=true→w=(w1.setCell ⟨gP,k,none⟩ (.int .i64 z)))) (fun N=>qet g8 g13 gP gb n k kd s1 x1 y1 p1 fq li ti pq tof bo z u0 ) zcv zlv 11 (by kernel_rfl) zzs hT () ⟨_,{ mem:=(But.refl _ _).drew },fun _=>rfl,fun h=>by simp at h⟩ ?_ ?_
 ·intro N d i o a w K hi ho hdi hcl hH he hdep hK
  have hD:=pz zdm ho (fun j=>d j=true∧(zlv j=true→a.eval (.tmp (zcv j))=qet g8 g13 gP gb n k kd s1 x1 y1 p1 fq li ti pq tof bo z u0  j)) hdep
  have e8':=(he 8 (fun j hj _ _=>(by decide:∀ j,j<11→(8:Nat)≠zcv j) j hj)).trans e8
  have e12':=(he 12 (fun j hj _ _=>(by decide:∀ j,j<11→(12:Nat)≠zcv j) j hj)).trans e12
  have e13':=(he 13 (fun j hj _ _=>(by decide:∀ j,j<11→(13:Nat)≠zcv j) j hj)).trans e13
  have e9':=(he 9 (fun j hj _ _=>(by decide:∀ j,j<11→(9:Nat)≠zcv j) j hj)).trans e9
  have:i=0∨i=1∨i=2∨i=3∨i=4∨i=5∨i=6∨i=7∨i=8∨i=9∨i=10:=by omega
  rcases this with rfl|rfl|rfl|rfl|rfl|rfl|rfl|rfl|rfl|rfl|rfl
  ·obtain rfl:=so (show zbv[0]? =some qnh from rfl) ho
   exact zh (qih a w _ _ _ _ _ _ g8 (0) (2) rfl e8') (hK N _ _ (fun _=>rfl) (fun _ _ _ _=>rfl) hH)
  ·obtain rfl:=so (show zbv[1]? =some qng from rfl) ho
   have hs0:d 10=false:=(hcl.not zdm (i:=10) (j:=1) (by simp) hdi)
   obtain⟨w1,hP,h1,h2⟩:=hH
   obtain rfl:=h1 hs0
   have hW:=hP.mem
   exact zh (zvc a w _ _ _ _ _ _ g8 (2) _ ((hD 0 (by simp)).2 rfl) (hW.zb c2 (by simp))) (hK N _ _ (fun _=>rfl) (fun _ _ _ _=>rfl) ⟨_,hP,h1,h2⟩)
  ·obtain rfl:=so (show zbv[2]? =some qnf from rfl) ho
   exact zh (zz a w _ _ _ _ _ _ _ e12') (hK N _ _ (fun _=>rfl) (fun _ _ _ _=>rfl) hH)
  ·obtain rfl:=so (show zbv[3]? =some qne from rfl) ho
   have hs0:d 10=false:=(hcl.not zdm (i:=10) (j:=3) (by simp) hdi)
   obtain⟨w1,hP,h1,h2⟩:=hH
   obtain rfl:=h1 hs0
   have hW:=hP.mem
   exact zh (ni a w _ _ _ _ _ _ g13 _ _ _ _ _ _ _ _ _ _ e13' (x13.but hW (by simp))) (hK N _ _ (fun _=>rfl) (fun _ _ _ _=>rfl) ⟨_,hP,h1,h2⟩)
  ·obtain rfl:=so (show zbv[4]? =some qnd from rfl) ho
   exact zh (zz a w _ _ _ _ _ _ _ e9') (hK N _ _ (fun _=>rfl) (fun _ _ _ _=>rfl) hH)
  ·obtain rfl:=so (show zbv[5]? =some qnc from rfl) ho
   exact zh (zz a w _ _ _ _ _ _ _ e12') (hK N _ _ (fun _=>rfl) (fun _ _ _ _=>rfl) hH)
  ·obtain rfl:=so (show zbv[6]? =some qnb from rfl) ho
   exact zh (zjn a w _ _ _ _ _ _ _ gb (0) (n) (n) (k) (k) (by omega) hk hn ((hD 4 (by simp)).2 rfl) ((hD 5 (by simp)).2 rfl)) (hK N _ _ (fun _=>rfl) (fun _ _ _ _=>rfl) hH)
  ·obtain rfl:=so (show zbv[7]? =some qna from rfl) ho
   have hs0:d 10=false:=(hcl.not zdm (i:=10) (j:=7) (by simp) hdi)
   obtain⟨w1,hP,h1,h2⟩:=hH
   obtain rfl:=h1 hs0
   have hW:=hP.mem
   exact zh (zgq a w _ _ _ _ _ _ gb (k) _ ((hD 6 (by simp)).2 rfl) (hW.zb cb (by simp))) (hK N _ _ (fun _=>rfl) (fun _ _ _ _=>rfl) ⟨_,hP,h1,h2⟩)
  ·obtain rfl:=so (show zbv[8]? =some qmz from rfl) ho
   have hs0:d 10=false:=(hcl.not zdm (i:=10) (j:=8) (by simp) hdi)
   obtain⟨w1,hP,h1,h2⟩:=hH
   obtain rfl:=h1 hs0
   have hW:=hP.mem
   exact jd (qig a w _ _ _ _ _ _ _ _ _ ((hD 3 (by simp)).2 rfl) ((hD 7 (by simp)).2 rfl)) (R:=fun w' v=>v=qet g8 g13 gP gb n k kd s1 x1 y1 p1 fq li ti pq tof bo z u0  8∧But [] w w') ((PR w hW).mono fun e w' ⟨he,hb⟩=>⟨_,he,rfl,hb⟩) (fun v w' hv=>hK N _ _ (fun _=>hv.1) (fun _ _ _ _=>rfl) ⟨_,(hP.but hv.2),fun _=>rfl,fun h=>absurd (hs0.symm.trans h) (by simp)⟩)
  ·obtain rfl:=so (show zbv[9]? =some qmy from rfl) ho
   exact zh (zjn a w _ _ _ _ _ _ _ gP (0) (n) (n) (k) (k) (by omega) hk hn ((hD 1 (by simp)).2 rfl) ((hD 2 (by simp)).2 rfl)) (hK N _ _ (fun _=>rfl) (fun _ _ _ _=>rfl) hH)
  ·obtain rfl:=so (show zbv[10]? =some qeu from rfl) ho
   obtain⟨w1,hP,h1,h2⟩:=hH
   obtain rfl:=h1 hdi
   have hW:=hP.mem
   exact xg (zqg a w _ _ _ _ _ gP (k) _ _ ((hD 9 (by simp)).2 rfl) ((hD 8 (by simp)).2 rfl) (hW.zb cz (by simp)) ((hW.frozen (p:=⟨gP,k,none⟩) (lt_of_cell cz) (by simp)).trans fz)) (hK N undef _ (fun h=>absurd h (by decide)) (fun _ _ _ _=>rfl) ⟨w,hP,fun h=>absurd h (by rw[q9];simp),fun _=>rfl⟩)
 ·intro N d w hd hH
  obtain⟨w1,hP,h1,h2⟩:=hH
  rw[h2 (hd 10 (by omega))]
  exact hQ  w1 hP
end Go.Proofs.YtcgecpoedojhjaaGreatDoor
