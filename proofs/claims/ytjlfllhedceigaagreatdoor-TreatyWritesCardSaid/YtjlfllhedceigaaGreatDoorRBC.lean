/- What a line says in the place of each wo -/
import Derived.Deep.QuietTactic
import Derived.Test.YtjlfllhedceigaaGreatDoorRAZd
namespace Go.Proofs.YtjlfllhedceigaaGreatDoor
open Go.Proofs.Tryz
open Go.RowKit Go.Shelf
set_option maxHeartbeats 32000000
set_option maxRecDepth 100000
set_option linter.unusedVariables false
theorem zvw (kd:Int) (s:Bool) (x y:Int) (p:Option Addr) (fr li ti pr:Int) (nm:ByteArray) (w:World):Calls prog 158 #[zh kd s x y p fr li ti pr nm,.string ⟨#[99,101,100,101]⟩] w fun e w'=>e=.returned (.string ⟨#[99,101,100,101]⟩)∧But [] w w':=by(
 unfold zh
 have HB:=af ((But.refl [] w).alloc (.cells #[.int .i64 kd,.bool s,.int .u64 x,.int .u64 y,.pointer p,.int .i64 fr,.int .i64 li,.int .i64 ti,.int .i64 pr,.string nm] 77))
 go_enter func158,ntmps158
 go_wp2
 exact bodyPost_ret (v:=.string ⟨#[99,101,100,101]⟩) (by simp[results,results158,go_sem]) rfl ⟨rfl,ae HB⟩)
theorem zev (kd:Int) (s:Bool) (x y:Int) (p:Option Addr) (fr li ti pr:Int) (nm:ByteArray) (w:World):Calls prog 158 #[zh kd s x y p fr li ti pr nm,.string ⟨#[116,111]⟩] w fun e w'=>e=.returned (.string ⟨#[116,111]⟩)∧But [] w w':=by(
 unfold zh
 have HB:=af ((But.refl [] w).alloc (.cells #[.int .i64 kd,.bool s,.int .u64 x,.int .u64 y,.pointer p,.int .i64 fr,.int .i64 li,.int .i64 ti,.int .i64 pr,.string nm] 77))
 go_enter func158,ntmps158
 go_wp2
 exact bodyPost_ret (v:=.string ⟨#[116,111]⟩) (by simp[results,results158,go_sem]) rfl ⟨rfl,ae HB⟩)
theorem znq (kd:Int) (s:Bool) (x y:Int) (p:Option Addr) (fr li ti pr:Int) (nm:ByteArray) (w:World):Calls prog 158 #[zh kd s x y p fr li ti pr nm,.string ⟨#[115,117,114,112,108,117,115]⟩] w fun e w'=>e=.returned (.string ⟨#[115,117,114,112,108,117,115]⟩)∧But [] w w':=by(
 unfold zh
 have HB:=af ((But.refl [] w).alloc (.cells #[.int .i64 kd,.bool s,.int .u64 x,.int .u64 y,.pointer p,.int .i64 fr,.int .i64 li,.int .i64 ti,.int .i64 pr,.string nm] 77))
 go_enter func158,ntmps158
 go_wp2
 exact bodyPost_ret (v:=.string ⟨#[115,117,114,112,108,117,115]⟩) (by simp[results,results158,go_sem]) rfl ⟨rfl,ae HB⟩)
theorem zrt (kd:Int) (s:Bool) (x y:Int) (p:Option Addr) (fr li ti pr:Int) (nm:ByteArray) (w:World):Calls prog 158 #[zh kd s x y p fr li ti pr nm,.string ⟨#[116,105,109,101,115]⟩] w fun e w'=>e=.returned (.string ⟨#[116,105,109,101,115]⟩)∧But [] w w':=by(
 unfold zh
 have HB:=af ((But.refl [] w).alloc (.cells #[.int .i64 kd,.bool s,.int .u64 x,.int .u64 y,.pointer p,.int .i64 fr,.int .i64 li,.int .i64 ti,.int .i64 pr,.string nm] 77))
 go_enter func158,ntmps158
 go_wp2
 exact bodyPost_ret (v:=.string ⟨#[116,105,109,101,115]⟩) (by simp[results,results158,go_sem]) rfl ⟨rfl,ae HB⟩)
theorem zhd (kd:Int) (s:Bool) (x y:Int) (p:Option Addr) (fr li ti pr:Int) (nm:ByteArray) (w:World):Calls prog 158 #[zh kd s x y p fr li ti pr nm,.string ⟨#[101,120,99,101,115,115]⟩] w fun e w'=>e=.returned (.string ⟨#[101,120,99,101,115,115]⟩)∧But [] w w':=by(
 unfold zh
 have HB:=af ((But.refl [] w).alloc (.cells #[.int .i64 kd,.bool s,.int .u64 x,.int .u64 y,.pointer p,.int .i64 fr,.int .i64 li,.int .i64 ti,.int .i64 pr,.string nm] 77))
 go_enter func158,ntmps158
 go_wp2
 exact bodyPost_ret (v:=.string ⟨#[101,120,99,101,115,115]⟩) (by simp[results,results158,go_sem]) rfl ⟨rfl,ae HB⟩)
theorem zea (kd:Int) (s:Bool) (x y:Int) (p:Option Addr) (fr li ti pr:Int) (nm:ByteArray) (w:World):Calls prog 158 #[zh kd s x y p fr li ti pr nm,.string ⟨#[108,105,109,105,116]⟩] w fun e w'=>e=.returned (.string ⟨#[108,105,109,105,116]⟩)∧But [] w w':=by(
 unfold zh
 have HB:=af ((But.refl [] w).alloc (.cells #[.int .i64 kd,.bool s,.int .u64 x,.int .u64 y,.pointer p,.int .i64 fr,.int .i64 li,.int .i64 ti,.int .i64 pr,.string nm] 77))
 go_enter func158,ntmps158
 go_wp2
 exact bodyPost_ret (v:=.string ⟨#[108,105,109,105,116]⟩) (by simp[results,results158,go_sem]) rfl ⟨rfl,ae HB⟩)
theorem zru (kd:Int) (s:Bool) (x y:Int) (p:Option Addr) (fr li ti pr:Int) (nm:ByteArray) (w:World):Calls prog 158 #[zh kd s x y p fr li ti pr nm,.string ⟨#[97,103,97,105,110]⟩] w fun e w'=>e=.returned (.string ⟨#[97,103,97,105,110]⟩)∧But [] w w':=by(
 unfold zh
 have HB:=af ((But.refl [] w).alloc (.cells #[.int .i64 kd,.bool s,.int .u64 x,.int .u64 y,.pointer p,.int .i64 fr,.int .i64 li,.int .i64 ti,.int .i64 pr,.string nm] 77))
 go_enter func158,ntmps158
 go_wp2
 exact bodyPost_ret (v:=.string ⟨#[97,103,97,105,110]⟩) (by simp[results,results158,go_sem]) rfl ⟨rfl,ae HB⟩)
theorem qey (kd:Int) (s:Bool) (x y:Int) (p:Option Addr) (fr li ti pr:Int) (nm:ByteArray) (w:World):Calls prog 158 #[zh kd s x y p fr li ti pr nm,.string ⟨#[97,116]⟩] w fun e w'=>e=.returned (.string ⟨#[97,116]⟩)∧But [] w w':=by(
 unfold zh
 have HB:=af ((But.refl [] w).alloc (.cells #[.int .i64 kd,.bool s,.int .u64 x,.int .u64 y,.pointer p,.int .i64 fr,.int .i64 li,.int .i64 ti,.int .i64 pr,.string nm] 77))
 go_enter func158,ntmps158
 go_wp2
 exact bodyPost_ret (v:=.string ⟨#[97,116]⟩) (by simp[results,results158,go_sem]) rfl ⟨rfl,ae HB⟩)
theorem zvv (kd:Int) (s:Bool) (x y:Int) (p:Option Addr) (fr li ti pr:Int) (nm:ByteArray) (w:World):Calls prog 158 #[zh kd s x y p fr li ti pr nm,.string ⟨#[115,116,111,112]⟩] w fun e w'=>e=.returned (.string ⟨#[115,116,111,112]⟩)∧But [] w w':=by(
 unfold zh
 have HB:=af ((But.refl [] w).alloc (.cells #[.int .i64 kd,.bool s,.int .u64 x,.int .u64 y,.pointer p,.int .i64 fr,.int .i64 li,.int .i64 ti,.int .i64 pr,.string nm] 77))
 go_enter func158,ntmps158
 go_wp2
 exact bodyPost_ret (v:=.string ⟨#[115,116,111,112]⟩) (by simp[results,results158,go_sem]) rfl ⟨rfl,ae HB⟩)
theorem zbd (kd:Int) (s:Bool) (x y:Int) (p:Option Addr) (fr li ti pr:Int) (nm:ByteArray) (w:World):Calls prog 158 #[zh kd s x y p fr li ti pr nm,.string ⟨#[78,65,77,69]⟩] w fun e w'=>e=.returned (.string nm)∧But [] w w':=by(
 unfold zh
 have HB:=af ((But.refl [] w).alloc (.cells #[.int .i64 kd,.bool s,.int .u64 x,.int .u64 y,.pointer p,.int .i64 fr,.int .i64 li,.int .i64 ti,.int .i64 pr,.string nm] 77))
 go_enter func158,ntmps158
 go_wp2
 exact bodyPost_ret (v:=.string nm) (by simp[results,results158,go_sem]) rfl ⟨rfl,ae HB⟩)
theorem zgf (kd:Int) (s:Bool) (x y:Int) (p:Option Addr) (fr li ti pr:Int) (nm:ByteArray) (h0:0≤fr) (h1:fr≤1000000000000000) (w:World) (htab:Lib.TabIs prog w "internal/strconv.uint64pow10" .u64 Lib.pow10Tab):Calls prog 158 #[zh kd s x y p fr li ti pr nm,.string ⟨#[70,82,79,77]⟩] w fun e w'=>e=.returned (.string ⟨(Lib.itoa fr).toArray⟩)∧But [] w w':=by(
 unfold zh
 have HB:=af ((But.refl [] w).alloc (.cells #[.int .i64 kd,.bool s,.int .u64 x,.int .u64 y,.pointer p,.int .i64 fr,.int .i64 li,.int .i64 ti,.int .i64 pr,.string nm] 77))
 have IT:Hid (∀ W,But [] w W→Calls prog 78 #[.int .i64 fr] W fun e w'=>e=.returned (.string ⟨(Lib.itoa fr).toArray⟩)∧But [] W w'):=fun W hW=>zfl fr h0 h1 W (TabIs.but htab hW)
 clear htab h0 h1
 generalize Lib.itoa fr=t at IT ⊢
 go_enter func158,ntmps158
 go_wp2_with fail
 refine (ae IT _ (ae HB)).mono ?_
 rintro e w1 ⟨rfl,hb⟩
 have B1:=af ((ae HB).trans' hb)
 clear hb IT HB
 go_wp2
 exact bodyPost_ret (v:=.string ⟨t.toArray⟩) (by simp[results,results158,go_sem]) rfl ⟨rfl,ae B1⟩)
theorem zbr (kd:Int) (s:Bool) (x y:Int) (p:Option Addr) (fr li ti pr:Int) (nm:ByteArray) (h0:0≤li) (h1:li≤1000000000000000) (w:World) (htab:Lib.TabIs prog w "internal/strconv.uint64pow10" .u64 Lib.pow10Tab):Calls prog 158 #[zh kd s x y p fr li ti pr nm,.string ⟨#[76,73,77,73,84]⟩] w fun e w'=>e=.returned (.string ⟨(Lib.itoa li).toArray⟩)∧But [] w w':=by(
 unfold zh
 have HB:=af ((But.refl [] w).alloc (.cells #[.int .i64 kd,.bool s,.int .u64 x,.int .u64 y,.pointer p,.int .i64 fr,.int .i64 li,.int .i64 ti,.int .i64 pr,.string nm] 77))
 have IT:Hid (∀ W,But [] w W→Calls prog 78 #[.int .i64 li] W fun e w'=>e=.returned (.string ⟨(Lib.itoa li).toArray⟩)∧But [] W w'):=fun W hW=>zfl li h0 h1 W (TabIs.but htab hW)
 clear htab h0 h1
 generalize Lib.itoa li=t at IT ⊢
 go_enter func158,ntmps158
 go_wp2_with fail
 refine (ae IT _ (ae HB)).mono ?_
 rintro e w1 ⟨rfl,hb⟩
 have B1:=af ((ae HB).trans' hb)
 clear hb IT HB
 go_wp2
 exact bodyPost_ret (v:=.string ⟨t.toArray⟩) (by simp[results,results158,go_sem]) rfl ⟨rfl,ae B1⟩)
theorem zjv (kd:Int) (s:Bool) (x y:Int) (p:Option Addr) (fr li ti pr:Int) (nm:ByteArray) (h0:0≤ti) (h1:ti≤1000000000000000) (w:World) (htab:Lib.TabIs prog w "internal/strconv.uint64pow10" .u64 Lib.pow10Tab):Calls prog 158 #[zh kd s x y p fr li ti pr nm,.string ⟨#[84,73,77,69,83]⟩] w fun e w'=>e=.returned (.string ⟨(Lib.itoa ti).toArray⟩)∧But [] w w':=by(
 unfold zh
 have HB:=af ((But.refl [] w).alloc (.cells #[.int .i64 kd,.bool s,.int .u64 x,.int .u64 y,.pointer p,.int .i64 fr,.int .i64 li,.int .i64 ti,.int .i64 pr,.string nm] 77))
 have IT:Hid (∀ W,But [] w W→Calls prog 78 #[.int .i64 ti] W fun e w'=>e=.returned (.string ⟨(Lib.itoa ti).toArray⟩)∧But [] W w'):=fun W hW=>zfl ti h0 h1 W (TabIs.but htab hW)
 clear htab h0 h1
 generalize Lib.itoa ti=t at IT ⊢
 go_enter func158,ntmps158
 go_wp2_with fail
 refine (ae IT _ (ae HB)).mono ?_
 rintro e w1 ⟨rfl,hb⟩
 have B1:=af ((ae HB).trans' hb)
 clear hb IT HB
 go_wp2
 exact bodyPost_ret (v:=.string ⟨t.toArray⟩) (by simp[results,results158,go_sem]) rfl ⟨rfl,ae B1⟩)
theorem zrw (kd:Int) (s:Bool) (x y:Int) (p:Option Addr) (fr li ti pr:Int) (nm:ByteArray) (h0:0≤pr) (h1:pr≤1000000000000000) (w:World) (htab:Lib.TabIs prog w "internal/strconv.uint64pow10" .u64 Lib.pow10Tab):Calls prog 158 #[zh kd s x y p fr li ti pr nm,.string ⟨#[80,82,73,67,69]⟩] w fun e w'=>e=.returned (.string ⟨(Lib.itoa pr).toArray⟩)∧But [] w w':=by(
 unfold zh
 have HB:=af ((But.refl [] w).alloc (.cells #[.int .i64 kd,.bool s,.int .u64 x,.int .u64 y,.pointer p,.int .i64 fr,.int .i64 li,.int .i64 ti,.int .i64 pr,.string nm] 77))
 have IT:Hid (∀ W,But [] w W→Calls prog 78 #[.int .i64 pr] W fun e w'=>e=.returned (.string ⟨(Lib.itoa pr).toArray⟩)∧But [] W w'):=fun W hW=>zfl pr h0 h1 W (TabIs.but htab hW)
 clear htab h0 h1
 generalize Lib.itoa pr=t at IT ⊢
 go_enter func158,ntmps158
 go_wp2_with fail
 refine (ae IT _ (ae HB)).mono ?_
 rintro e w1 ⟨rfl,hb⟩
 have B1:=af ((ae HB).trans' hb)
 clear hb IT HB
 go_wp2
 exact bodyPost_ret (v:=.string ⟨t.toArray⟩) (by simp[results,results158,go_sem]) rfl ⟨rfl,ae B1⟩)
theorem zrv (kd:Int) (s:Bool) (x y:Int) (p:Option Addr) (fr li ti pr:Int) (nm:ByteArray) (t:ByteArray) (w:World) (TX:∀ W,But [] w W→Calls prog 12 #[.agg #[.bool s,.int .u64 x,.int .u64 y,.pointer p]] W fun e w'=>e=.returned (.string t)∧But [] W w'):Calls prog 158 #[zh kd s x y p fr li ti pr nm,.string ⟨#[83,72,65,82,69]⟩] w fun e w'=>e=.returned (.string t)∧But [] w w':=by(
 unfold zh
 have HB:=af ((But.refl [] w).alloc (.cells #[.int .i64 kd,.bool s,.int .u64 x,.int .u64 y,.pointer p,.int .i64 fr,.int .i64 li,.int .i64 ti,.int .i64 pr,.string nm] 77))
 have IT:=af TX
 clear TX
 go_enter func158,ntmps158
 go_wp2_with fail
 refine (ae IT _ (ae HB)).mono ?_
 rintro e w1 ⟨rfl,hb⟩
 have B1:=af ((ae HB).trans' hb)
 clear hb IT HB
 go_wp2
 exact bodyPost_ret (v:=.string t) (by simp[results,results158,go_sem]) rfl ⟨rfl,ae B1⟩)
def wsF (l:Ln) (t:List UInt8) (j:Nat):List (List UInt8):=match j with
 | 0=>[[99,101,100,101],t,[116,111],l.toB.data.toList]
 | 1=>[[115,117,114,112,108,117,115],Lib.itoa l.li,[116,105,109,101,115],Lib.itoa l.ti,[116,111],l.toB.data.toList]
 | 2=>[[101,120,99,101,115,115],Lib.itoa l.fr,[108,105,109,105,116],Lib.itoa l.li,[116,111],l.toB.data.toList]
 | 3=>[[101,120,99,101,115,115],Lib.itoa l.fr,[108,105,109,105,116],Lib.itoa l.li,[97,103,97,105,110],Lib.itoa l.ti,[97,116],Lib.itoa l.pr,[116,111],l.toB.data.toList]
 | _=>[[115,116,111,112],Lib.itoa l.fr,[108,105,109,105,116],Lib.itoa l.li,[116,111],l.toB.data.toList]
theorem qeo (l:Ln) (t:List UInt8) (j:Nat) (hj:j<5):(wsF l t j).length=(fmW j).length:=by
 have:j=0∨j=1∨j=2∨j=3∨j=4:=by omega
 rcases this with rfl|rfl|rfl|rfl|rfl <;> rfl
theorem strOf (b:ByteArray):(.string ⟨b.data.toList.toArray⟩:Value)=.string b:=by
 cases b
 simp
theorem qkh (l:Ln) (s:Bool) (x y:Int) (p:Option Addr) (t:List UInt8) (r:qg l.fr l.li l.ti l.pr) (fi k:Nat) (hfi:fi<5) (hk:k<(fmW fi).length) (w:World) (htab:Lib.TabIs prog w "internal/strconv.uint64pow10" .u64 Lib.pow10Tab) (TX:∀ W,But [] w W→Calls prog 12 #[.agg #[.bool s,.int .u64 x,.int .u64 y,.pointer p]] W fun e w'=>e=.returned (.string ⟨t.toArray⟩)∧But [] W w') :
   Calls prog 158 #[zh l.kd s x y p l.fr l.li l.ti l.pr l.toB,dm ((fmW fi)[k]?.getD [])] w fun e w'=>e=.returned (dm ((wsF l t fi)[k]?.getD []))∧But [] w w':=by(
 obtain⟨r1,r2,r3,r4⟩:=r
 have:fi=0∨fi=1∨fi=2∨fi=3∨fi=4:=by omega
 rcases this with rfl|rfl|rfl|rfl|rfl
 ·(
 have:k=0∨k=1∨k=2∨k=3:=by simp[fmW] at hk;omega
 rcases this with rfl|rfl|rfl|rfl
 ·exact zvw _ _ _ _ _ _ _ _ _ _ w
 ·exact zrv _ _ _ _ _ _ _ _ _ _ ⟨t.toArray⟩ w TX
 ·exact zev _ _ _ _ _ _ _ _ _ _ w
 ·refine (zbd _ _ _ _ _ _ _ _ _ _ w).mono ?_
  rintro e w' ⟨rfl,hb⟩
  exact⟨congrArg Ending.returned (strOf _).symm,hb⟩)
 ·(
 have:k=0∨k=1∨k=2∨k=3∨k=4∨k=5:=by simp[fmW] at hk;omega
 rcases this with rfl|rfl|rfl|rfl|rfl|rfl
 ·exact znq _ _ _ _ _ _ _ _ _ _ w
 ·exact zbr _ _ _ _ _ _ _ _ _ _ r2.1 (by have:=r2.2;omega) w htab
 ·exact zrt _ _ _ _ _ _ _ _ _ _ w
 ·exact zjv _ _ _ _ _ _ _ _ _ _ r4.1 (by have:=r4.2;omega) w htab
 ·exact zev _ _ _ _ _ _ _ _ _ _ w
 ·refine (zbd _ _ _ _ _ _ _ _ _ _ w).mono ?_
  rintro e w' ⟨rfl,hb⟩
  exact⟨congrArg Ending.returned (strOf _).symm,hb⟩)
 ·(
 have:k=0∨k=1∨k=2∨k=3∨k=4∨k=5:=by simp[fmW] at hk;omega
 rcases this with rfl|rfl|rfl|rfl|rfl|rfl
 ·exact zhd _ _ _ _ _ _ _ _ _ _ w
 ·exact zgf _ _ _ _ _ _ _ _ _ _ r1.1 (by have:=r1.2;omega) w htab
 ·exact zea _ _ _ _ _ _ _ _ _ _ w
 ·exact zbr _ _ _ _ _ _ _ _ _ _ r2.1 (by have:=r2.2;omega) w htab
 ·exact zev _ _ _ _ _ _ _ _ _ _ w
 ·refine (zbd _ _ _ _ _ _ _ _ _ _ w).mono ?_
  rintro e w' ⟨rfl,hb⟩
  exact⟨congrArg Ending.returned (strOf _).symm,hb⟩)
 ·(
 have:k=0∨k=1∨k=2∨k=3∨k=4∨k=5∨k=6∨k=7∨k=8∨k=9:=by simp[fmW] at hk;omega
 rcases this with rfl|rfl|rfl|rfl|rfl|rfl|rfl|rfl|rfl|rfl
 ·exact zhd _ _ _ _ _ _ _ _ _ _ w
 ·exact zgf _ _ _ _ _ _ _ _ _ _ r1.1 (by have:=r1.2;omega) w htab
 ·exact zea _ _ _ _ _ _ _ _ _ _ w
 ·exact zbr _ _ _ _ _ _ _ _ _ _ r2.1 (by have:=r2.2;omega) w htab
 ·exact zru _ _ _ _ _ _ _ _ _ _ w
 ·exact zjv _ _ _ _ _ _ _ _ _ _ r4.1 (by have:=r4.2;omega) w htab
 ·exact qey _ _ _ _ _ _ _ _ _ _ w
 ·exact zrw _ _ _ _ _ _ _ _ _ _ r3.1 (by have:=r3.2;omega) w htab
 ·exact zev _ _ _ _ _ _ _ _ _ _ w
 ·refine (zbd _ _ _ _ _ _ _ _ _ _ w).mono ?_
  rintro e w' ⟨rfl,hb⟩
  exact⟨congrArg Ending.returned (strOf _).symm,hb⟩)
 ·(
 have:k=0∨k=1∨k=2∨k=3∨k=4∨k=5:=by simp[fmW] at hk;omega
 rcases this with rfl|rfl|rfl|rfl|rfl|rfl
 ·exact zvv _ _ _ _ _ _ _ _ _ _ w
 ·exact zgf _ _ _ _ _ _ _ _ _ _ r1.1 (by have:=r1.2;omega) w htab
 ·exact zea _ _ _ _ _ _ _ _ _ _ w
 ·exact zbr _ _ _ _ _ _ _ _ _ _ r2.1 (by have:=r2.2;omega) w htab
 ·exact zev _ _ _ _ _ _ _ _ _ _ w
 ·refine (zbd _ _ _ _ _ _ _ _ _ _ w).mono ?_
  rintro e w' ⟨rfl,hb⟩
  exact⟨congrArg Ending.returned (strOf _).symm,hb⟩))
def zcw (kd ti:Int) (j:Nat):Prop:=fmK j=kd∧fmB j=(kd==3 && !(ti==0))
theorem zoj (kd:Int) (s:Bool) (x y:Int) (p:Option Addr) (fr li ti pr:Int) (nm:ByteArray) (fi:Nat) (hfi:fi<5) (h1:zcw kd ti fi) (h2:∀ j,j<fi→¬ zcw kd ti j) (w:World) (hF:uo w) :
   Calls prog 157 #[zh kd s x y p fr li ti pr nm] w fun e w'=>e=.returned (.string (fmT fi))∧But [] w w':=by(
 unfold zh
 have flt : 1 < w.heap.size:=ai (hF 0 _ rfl)
 have fc0:=hF 0 _ rfl
 have fc1:=hF 1 _ rfl
 have fc2:=hF 2 _ rfl
 have fc3:=hF 3 _ rfl
 have fc4:=hF 4 _ rfl
 have fc5:=hF 5 _ rfl
 have fc6:=hF 6 _ rfl
 have fc7:=hF 7 _ rfl
 have fc8:=hF 8 _ rfl
 have fc9:=hF 9 _ rfl
 have fc10:=hF 10 _ rfl
 have fc11:=hF 11 _ rfl
 have fc12:=hF 12 _ rfl
 have fc13:=hF 13 _ rfl
 have fc14:=hF 14 _ rfl
 have HH1:=af h1
 have HH2:=af h2
 clear hF h1 h2
 have bA:=af ((But.refl [] w).alloc (.cells #[.int .i64 kd,.bool s,.int .u64 x,.int .u64 y,.pointer p,.int .i64 fr,.int .i64 li,.int .i64 ti,.int .i64 pr,.string nm] 77))
 have D1:=af (rf.new w kd s x y p fr li ti pr nm)
 obtain⟨g1,hg1⟩:∃ g1,g1=w.heap.size:=⟨_,rfl⟩
 rw[← hg1] at D1
 go_enter func157,ntmps157
 go_wp2
 rw[← hg1]
 clear hg1
 clear fc0
 clear fc1
 clear fc2
 clear fc3
 clear fc4
 clear fc5
 clear fc6
 clear fc7
 clear fc8
 clear fc9
 clear fc10
 clear fc11
 clear fc12
 clear fc13
 clear fc14
 have hix:=qfz
 generalize (Value.agg #[.int .i64 1,.bool false,.string ⟨#[99,101,100,101,32,83,72,65,82,69,32,116,111,32,78,65,77,69]⟩,.int .i64 2,.bool false,.string ⟨#[115,117,114,112,108,117,115,32,76,73,77,73,84,32,116,105,109,101,115,32,84,73,77,69,83,32,116,111,32,78,65,77,69]⟩,.int .i64 3,.bool false,.string ⟨#[101,120,99,101,115,115,32,70,82,79,77,32,108,105,109,105,116,32,76,73,77,73,84,32,116,111,32,78,65,77,69]⟩,.int .i64 3,.bool true,.string ⟨#[101,120,99,101,115,115,32,70,82,79,77,32,108,105,109,105,116,32,76,73,77,73,84,32,97,103,97,105,110,32,84,73,77,69,83,32,97,116,32,80,82,73,67,69,32,116,111,32,78,65,77,69]⟩,.int .i64 4,.bool false,.string ⟨#[115,116,111,112,32,70,82,79,77,32,108,105,109,105,116,32,76,73,77,73,84,32,116,111,32,78,65,77,69]⟩])=FA at *
 generalize w.alloc (.cells #[.int .i64 kd,.bool s,.int .u64 x,.int .u64 y,.pointer p,.int .i64 fr,.int .i64 li,.int .i64 ti,.int .i64 pr,.string nm] 77)=W0 at *
 go_loopw [6] (fun i wr=>∃ j:Nat,j≤fi∧i=.int .i64 (j:Int)∧Hid (But [] w wr)∧Hid (rf wr g1 kd s x y p fr li ti pr nm)) (fun i _=>5-(intOf i).toNat)
 case atStart=>exact⟨0,Nat.zero_le _,rfl,ae bA,ae D1⟩
 case round =>(
 obtain⟨j,hj,rfl,HB,HD⟩:=hrel
 rename World=>wr
 clear bA D1
 have hj5:j<5:=by omega
 have hix2:=fun W=>hix j hj5 W
 have hjc:((j:Nat):Int)<5:=by omega
 obtain⟨kj,hkj⟩:∃ kj,kj=fmK j:=⟨_,rfl⟩
 obtain⟨bj,hbj⟩:∃ bj,bj=fmB j:=⟨_,rfl⟩
 obtain⟨tj,htj⟩:∃ tj,tj=fmT j:=⟨_,rfl⟩
 rw[← hkj,← hbj,← htj] at hix2
 have HKJ:=af hkj
 have HBJ:=af hbj
 have HTJ:=af htj
 have bF:But [] wr (wr.alloc (.cells #[.int .i64 kj,.bool bj,.string tj] 237)):=(But.refl [] wr).alloc _
 have d4:=p9.made 0 wr [.int .i64 kj,.bool bj,.string tj] 237 (Nat.zero_le _)
 have D4:=af d4
 have HB1:=af ((ae HB).trans' bF)
 have HD1:=af ((ae HD).but bF (by simp))
 have YES:Hid (zcw kd ti j→j=fi):=fun h=>by
  rcases Nat.lt_or_ge j fi with h' | h'
  ·exact absurd h (ae HH2 j h')
  ·omega
 have NO:Hid (¬ zcw kd ti j→j<fi):=fun h=>by
  rcases Nat.lt_or_ge j fi with h' | h'
  ·exact h'
  ·obtain rfl:j=fi:=by omega
   exact absurd (ae HH1) h
 clear hkj hbj htj bF hix HB HD d4 HH1 HH2
 have l0:(wr.alloc (.cells #[.int .i64 kj,.bool bj,.string tj] 237)).cell? ⟨g1,0,none⟩=some (.int .i64 kd):=(ae HD1).cells 0 _ rfl
 have l7:(wr.alloc (.cells #[.int .i64 kj,.bool bj,.string tj] 237)).cell? ⟨g1,7,none⟩=some (.int .i64 ti):=(ae HD1).cells 7 _ rfl
 by_cases hk:kj=kd
 ·(
 have hk2:(kj==kd)=true:=by simpa using hk
 have HK:=af hk
 have HKD:Hid (fmK j=kd):=(ae HKJ).symm.trans hk
 clear hk
 by_cases h3:kd=3
 ·(
 have h32:(kd==3)=true:=by simpa using h3
 clear h3
 by_cases h0:ti=0
 ·(
 have h02:(ti==0)=true:=by simpa using h0
 have h03:(ti != 0)=false:=by simpa using h0
 clear h0
 cases bj
 ·have HJF:Hid (j=fi):=ae YES ⟨ae HKD,by rw[← ae HBJ];simp[h32,h02]⟩
  go_wp2
  exact bodyPost_ret (v:=.string tj) (by simp[results,results157,go_sem]) rfl ⟨by rw[ae HTJ,ae HJF],ae HB1⟩
 ·have hjf:j<fi:=ae NO (fun h=>by have:=h.2;rw[← ae HBJ] at this;simp[h32,h02] at this)
  go_wp2
  exact⟨⟨j+1,by omega,by go_num,ae HB1,ae HD1⟩,by simp[intOf];omega⟩)
 ·(
 have h02:(ti==0)=false:=by simpa using h0
 have h03:(ti != 0)=true:=by simpa using h0
 cases bj
 ·have hjf:j<fi:=ae NO (fun h=>by have:=h.2;rw[← ae HBJ] at this;simp[h32,h02] at this)
  go_wp2
  exact⟨⟨j+1,by omega,by go_num,ae HB1,ae HD1⟩,by simp[intOf];omega⟩
 ·have HJF:Hid (j=fi):=ae YES ⟨ae HKD,by rw[← ae HBJ];simp[h32,h02]⟩
  go_wp2
  exact bodyPost_ret (v:=.string tj) (by simp[results,results157,go_sem]) rfl ⟨by rw[ae HTJ,ae HJF],ae HB1⟩))
 ·(
 have h32:(kd==3)=false:=by simpa using h3
 cases bj
 ·have HJF:Hid (j=fi):=ae YES ⟨ae HKD,by rw[← ae HBJ];simp[h32]⟩
  go_wp2
  exact bodyPost_ret (v:=.string tj) (by simp[results,results157,go_sem]) rfl ⟨by rw[ae HTJ,ae HJF],ae HB1⟩
 ·have hjf:j<fi:=ae NO (fun h=>by have:=h.2;rw[← ae HBJ] at this;simp[h32] at this)
  go_wp2
  exact⟨⟨j+1,by omega,by go_num,ae HB1,ae HD1⟩,by simp[intOf];omega⟩))
 ·(
 have hk2:(kj==kd)=false:=by simpa using hk
 have hjf:j<fi:=ae NO (fun h=>hk ((ae HKJ).trans h.1))
 clear hk
 go_wp2
 exact⟨⟨j+1,by omega,by go_num,ae HB1,ae HD1⟩,by simp[intOf];omega⟩)))
end Go.Proofs.YtjlfllhedceigaaGreatDoor
