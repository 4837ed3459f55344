/- Lines of two kinds, read.  -/
import Derived.Shelf.Strings.OnBuilder
import Derived.Deep.QuietTactic
import Derived.Test.YtcgecpoedojhjaaGreatDoorKPAXd
import Derived.Test.YtcgecpoedojhjaaGreatDoorKPL1
namespace Go.Proofs.YtcgecpoedojhjaaGreatDoor
open Go.Proofs.Tryz
open Go.RowKit Go.Shelf
set_option maxHeartbeats 4000000
set_option linter.unusedVariables false
theorem zas (l:Ln) (s:Bool) (x y:Int) (w:World) (hf:∀ W,zi W (.agg #[.bool s,.int .u64 x,.int .u64 y,.pointer none]) l.f) (lf:Len l.f 1) (hb:l.to.size<9223372036854775808) (hok:di l):∀ W,But [] w W→Calls prog 23 #[zq l.kd s x y none l.fr l.li l.ti l.pr l.to] W fun e w'=>e=.returned .nilIface∧But [] W w':=fun W _=>by
 refine (zew l s x y none W (hf W) lf hb).mono ?_
 rintro e w' ⟨r,rfl,h1,-,hb⟩
 rw[h1 hok]
 exact⟨rfl,hb⟩
def zjy (t nm:List UInt8):List (List UInt8):=[[99,101,100,101],t,[116,111],nm]
theorem zfs (f:Rat) (s:Bool) (x y:Int) (t nm:List UInt8) (hf:∀ W,zi W (.agg #[.bool s,.int .u64 x,.int .u64 y,.pointer none]) f) (lf:Len f 1) (CP:∀ W,Calls prog 66 #[yg t] W fun e w'=>e=.returned (.tuple #[.agg #[.bool s,.int .u64 x,.int .u64 y,.pointer none],.nilIface])∧But [] W w') (hnm:nm.length≤1000000) (hok:di ⟨1,f,0,0,0,0,⟨nm.toArray⟩⟩) (q:Option Addr) (cw:Nat) (mx:Int) (w:World) (hw:lv w (.slice q 4 cw) (zjy t nm)) (hF:xw w) (hm:w.cell? ⟨2,0,none⟩=some (.int .i64 mx)) :
  Calls prog 18 #[.slice q 4 cw] w fun e w'=>e=.returned (.tuple #[.agg #[.int .i64 1,.bool s,.int .u64 x,.int .u64 y,.pointer none,.int .i64 0,.int .i64 0,.int .i64 0,.int .i64 0,.string ⟨nm.toArray⟩],.nilIface])∧But [] w w':=by
 refine dw 0 (by omega) (zjy t nm) q 4 cw rfl rfl (fun k=>match k with
  | 0=>[.int .i64 1,.bool false,.int .u64 0,.int .u64 0,.pointer none,.int .i64 0,.int .i64 0,.int .i64 0,.int .i64 0,.string ⟨#[]⟩]
  | 1=>[.int .i64 1,.bool false,.int .u64 0,.int .u64 0,.pointer none,.int .i64 0,.int .i64 0,.int .i64 0,.int .i64 0,.string ⟨#[]⟩]
  | 2=>[.int .i64 1,.bool s,.int .u64 x,.int .u64 y,.pointer none,.int .i64 0,.int .i64 0,.int .i64 0,.int .i64 0,.string ⟨#[]⟩]
  | 3=>[.int .i64 1,.bool s,.int .u64 x,.int .u64 y,.pointer none,.int .i64 0,.int .i64 0,.int .i64 0,.int .i64 0,.string ⟨#[]⟩]
  | _=>[.int .i64 1,.bool s,.int .u64 x,.int .u64 y,.pointer none,.int .i64 0,.int .i64 0,.int .i64 0,.int .i64 0,.string ⟨nm.toArray⟩]) 1 s x y 0 0 0 0 ⟨nm.toArray⟩ mx w hw rfl rfl (fun j hj=>absurd hj (by omega)) rfl ?_ (zas ⟨1,f,0,0,0,0,⟨nm.toArray⟩⟩ s x y w hf lf (by show nm.toArray.size<_;simp;omega) hok) hF hm
 intro k hk W g hb hN
 have:k=0∨k=1∨k=2∨k=3:=by omega
 rcases this with rfl|rfl|rfl|rfl
 ·refine (qao g W).mono ?_
  rintro e w' ⟨rfl,rfl⟩
  exact⟨rfl,hN,But.refl _ _⟩
 ·exact zwc ⟨t.toArray⟩ s x y g _ _ _ _ _ _ _ _ _ _ W (CP W) hN
 ·refine (zge g W).mono ?_
  rintro e w' ⟨rfl,rfl⟩
  exact⟨rfl,hN,But.refl _ _⟩
 ·refine (zbx ⟨nm.toArray⟩ (by show nm.toArray.size≤_;simp;omega) g _ W (hN.cells 9 _ rfl) hN.loose).mono ?_
  rintro e w' ⟨w1,rfl,hb1,rfl⟩
  have hS:=zy w1 g [.string ⟨nm.toArray⟩] 9
  exact⟨rfl,(hN.but hb1).putAt 9 [.string ⟨nm.toArray⟩] (by simp),(hb1.of_nil (l:=[g])).trans hS (fun x hx=>.inl hx)⟩
def zjx (fr li:Int) (nm:List UInt8):List (List UInt8):=[[101,120,99,101,115,115],Lib.itoa fr,[108,105,109,105,116],Lib.itoa li,[116,111],nm]
theorem zhw (fr li:Int) (nm:List UInt8) (hnm:nm.length≤1000000) (hok:di ⟨3,0,fr,li,0,0,⟨nm.toArray⟩⟩) (q:Option Addr) (cw:Nat) (mx:Int) (w:World) (htab:Lib.TabIs prog w "internal/strconv.uint64pow10" .u64 Lib.pow10Tab) (hw:lv w (.slice q 6 cw) (zjx fr li nm)) (hF:xw w) (hm:w.cell? ⟨2,0,none⟩=some (.int .i64 mx)) :
  Calls prog 18 #[.slice q 6 cw] w fun e w'=>e=.returned (.tuple #[.agg #[.int .i64 3,.bool false,.int .u64 0,.int .u64 0,.pointer none,.int .i64 fr,.int .i64 li,.int .i64 0,.int .i64 0,.string ⟨nm.toArray⟩],.nilIface])∧But [] w w':=by
 obtain⟨-,-,⟨r1,r2,-,-⟩,-⟩:=id hok
 simp only at r1 r2
 refine dw 2 (by omega) (zjx fr li nm) q 6 cw rfl rfl (fun k=>match k with
  | 0=>[.int .i64 3,.bool false,.int .u64 0,.int .u64 0,.pointer none,.int .i64 0,.int .i64 0,.int .i64 0,.int .i64 0,.string ⟨#[]⟩]
  | 1=>[.int .i64 3,.bool false,.int .u64 0,.int .u64 0,.pointer none,.int .i64 0,.int .i64 0,.int .i64 0,.int .i64 0,.string ⟨#[]⟩]
  | 2=>[.int .i64 3,.bool false,.int .u64 0,.int .u64 0,.pointer none,.int .i64 fr,.int .i64 0,.int .i64 0,.int .i64 0,.string ⟨#[]⟩]
  | 3=>[.int .i64 3,.bool false,.int .u64 0,.int .u64 0,.pointer none,.int .i64 fr,.int .i64 0,.int .i64 0,.int .i64 0,.string ⟨#[]⟩]
  | 4=>[.int .i64 3,.bool false,.int .u64 0,.int .u64 0,.pointer none,.int .i64 fr,.int .i64 li,.int .i64 0,.int .i64 0,.string ⟨#[]⟩]
  | 5=>[.int .i64 3,.bool false,.int .u64 0,.int .u64 0,.pointer none,.int .i64 fr,.int .i64 li,.int .i64 0,.int .i64 0,.string ⟨#[]⟩]
  | _=>[.int .i64 3,.bool false,.int .u64 0,.int .u64 0,.pointer none,.int .i64 fr,.int .i64 li,.int .i64 0,.int .i64 0,.string ⟨nm.toArray⟩]) 3 false 0 0 fr li 0 0 ⟨nm.toArray⟩ mx w hw rfl rfl (fun j hj=>?_) rfl ?_ (zas ⟨3,0,fr,li,0,0,⟨nm.toArray⟩⟩ false 0 0 w (fun W=>sw W) (show Len (0:Rat) 1 from mi (m:=1) (n:=1) (by decide) (by decide) 1 (by omega) (by omega)) (by show nm.toArray.size<_;simp;omega) hok) hF hm
 ·have:j=0∨j=1:=by omega
  rcases this with rfl|rfl
  ·exact .inl (by simp[zjx,fmW])
  ·exact .inl (by simp[zjx,fmW])
 intro k hk W g hb hN
 have:k=0∨k=1∨k=2∨k=3∨k=4∨k=5:=by omega
 rcases this with rfl|rfl|rfl|rfl|rfl|rfl
 ·refine (zim g W).mono ?_
  rintro e w' ⟨rfl,rfl⟩
  exact⟨rfl,hN,But.refl _ _⟩
 ·refine (zhh fr r1.1 (by omega) ⟨(Lib.itoa fr).toArray⟩ rfl g _ W (TabIs.but htab hb) (hN.cells 5 _ rfl) hN.loose).mono ?_
  rintro e w' ⟨w1,rfl,hb1,rfl⟩
  have hS:=zy w1 g [.int .i64 fr] 5
  exact⟨rfl,(hN.but hb1).putAt 5 [.int .i64 fr] (by simp),(hb1.of_nil (l:=[g])).trans hS (fun x hx=>.inl hx)⟩
 ·refine (zfj g W).mono ?_
  rintro e w' ⟨rfl,rfl⟩
  exact⟨rfl,hN,But.refl _ _⟩
 ·refine (zcj li r2.1 (by omega) ⟨(Lib.itoa li).toArray⟩ rfl g _ W (TabIs.but htab hb) (hN.cells 6 _ rfl) hN.loose).mono ?_
  rintro e w' ⟨w1,rfl,hb1,rfl⟩
  have hS:=zy w1 g [.int .i64 li] 6
  exact⟨rfl,(hN.but hb1).putAt 6 [.int .i64 li] (by simp),(hb1.of_nil (l:=[g])).trans hS (fun x hx=>.inl hx)⟩
 ·refine (zge g W).mono ?_
  rintro e w' ⟨rfl,rfl⟩
  exact⟨rfl,hN,But.refl _ _⟩
 ·refine (zbx ⟨nm.toArray⟩ (by show nm.toArray.size≤_;simp;omega) g _ W (hN.cells 9 _ rfl) hN.loose).mono ?_
  rintro e w' ⟨w1,rfl,hb1,rfl⟩
  have hS:=zy w1 g [.string ⟨nm.toArray⟩] 9
  exact⟨rfl,(hN.but hb1).putAt 9 [.string ⟨nm.toArray⟩] (by simp),(hb1.of_nil (l:=[g])).trans hS (fun x hx=>.inl hx)⟩
theorem zoc (z:Int) (h0:0≤z) (h1:z≤1000000000000000) (t:ByteArray) (ht:t=⟨(Lib.itoa z).toArray⟩) (g:Nat) (kd u0:Int) (k1 k2 k3 k4 k5 k6 k8 k9:Value) (w:World) (htab:Lib.TabIs prog w "internal/strconv.uint64pow10" .u64 Lib.pow10Tab) (hN:jy 0 w g [.int .i64 kd,k1,k2,k3,k4,k5,k6,.int .i64 u0,k8,k9]) (hne:¬ (kd=3∧z=0)) :
  Calls prog 68 #[.pointer (some ⟨g,0,none⟩),.string t] w fun e w'=>∃ w1,e=.returned .nilIface∧But [] w w1∧w'=w1.setCell ⟨g,7,none⟩ (.int .i64 z):=by
 have NU:=hide (ic z h0 h1 t ht g 7 u0 w htab (hN.cells 7 _ rfl) hN.loose)
 have HN:=hide hN
 clear ht htab hN
 go_enter func68,ntmps68
 go_wp2_with fail
 refine (za NU).mono ?_
 rintro e w1 ⟨w2,rfl,hb,hw1⟩
 have d:jy 0 w1 g [.int .i64 kd,k1,k2,k3,k4,k5,k6,.int .i64 z,k8,k9]:=by
  rw[hw1]
  exact ((za HN).but hb).putAt 7 [.int .i64 z] (by simp)
 have c0:=d.cells 0 _ rfl
 have c7:=d.cells 7 _ rfl
 have B1:=hide hb
 have HW:=hide hw1
 clear hb NU HN d hw1
 by_cases hk:kd=3
 ·have hz:¬ z=0:=fun h=>hne ⟨hk,h⟩
  have hz2:(z==0)=false:=by simpa using hz
  have hk2:(kd==3)=true:=by simpa using hk
  clear hne hk
  go_wp2
  exact bodyPost_ret (v:=.nilIface) (by simp[results,results68,go_sem]) rfl ⟨w2,rfl,za B1,za HW⟩
 ·have hk2:(kd==3)=false:=by simpa using hk
  clear hne
  go_wp2
  exact bodyPost_ret (v:=.nilIface) (by simp[results,results68,go_sem]) rfl ⟨w2,rfl,za B1,za HW⟩
theorem zmk (z:Int) (h0:0≤z) (h1:z≤1000000000000000) (t:ByteArray) (ht:t=⟨(Lib.itoa z).toArray⟩) (g:Nat) (kd u0:Int) (k1 k2 k3 k4 k5 k6 k8 k9:Value) (w:World) (htab:Lib.TabIs prog w "internal/strconv.uint64pow10" .u64 Lib.pow10Tab) (hN:jy 0 w g [.int .i64 kd,k1,k2,k3,k4,k5,k6,.int .i64 u0,k8,k9]) (hne:¬ (kd=3∧z=0)) :
  Calls prog 36 #[.pointer (some ⟨g,0,none⟩),.string ⟨#[84,73,77,69,83]⟩,.string t] w fun e w'=>∃ w1,e=.returned .nilIface∧But [] w w1∧w'=w1.setCell ⟨g,7,none⟩ (.int .i64 z):=by
 have NU:=hide (zoc z h0 h1 t ht g kd u0 k1 k2 k3 k4 k5 k6 k8 k9 w htab hN hne)
 clear ht htab hN hne
 go_enter func36,ntmps36
 go_wp2_with fail
 refine (za NU).mono ?_
 rintro e w1 ⟨w2,rfl,hb,hw1⟩
 have B1:=hide hb
 have HW:=hide hw1
 clear hb NU hw1
 go_wp2
 exact bodyPost_ret (v:=.nilIface) (by simp[results,results36,go_sem]) rfl ⟨w2,rfl,za B1,za HW⟩
def zrn (li ti:Int) (nm:List UInt8):List (List UInt8):=[[115,117,114,112,108,117,115],Lib.itoa li,[116,105,109,101,115],Lib.itoa ti,[116,111],nm]
theorem zsj (li ti:Int) (nm:List UInt8) (hnm:nm.length≤1000000) (hok:di ⟨2,0,0,li,ti,0,⟨nm.toArray⟩⟩) (q:Option Addr) (cw:Nat) (mx:Int) (w:World) (htab:Lib.TabIs prog w "internal/strconv.uint64pow10" .u64 Lib.pow10Tab) (hw:lv w (.slice q 6 cw) (zrn li ti nm)) (hF:xw w) (hm:w.cell? ⟨2,0,none⟩=some (.int .i64 mx)) :
  Calls prog 18 #[.slice q 6 cw] w fun e w'=>e=.returned (.tuple #[.agg #[.int .i64 2,.bool false,.int .u64 0,.int .u64 0,.pointer none,.int .i64 0,.int .i64 li,.int .i64 ti,.int .i64 0,.string ⟨nm.toArray⟩],.nilIface])∧But [] w w':=by
 obtain⟨-,-,⟨r1,r2,r3,r4⟩,-⟩:=id hok
 simp only at r1 r2 r3 r4
 refine dw 1 (by omega) (zrn li ti nm) q 6 cw rfl rfl (fun k=>match k with
  | 0=>[.int .i64 2,.bool false,.int .u64 0,.int .u64 0,.pointer none,.int .i64 0,.int .i64 0,.int .i64 0,.int .i64 0,.string ⟨#[]⟩]
  | 1=>[.int .i64 2,.bool false,.int .u64 0,.int .u64 0,.pointer none,.int .i64 0,.int .i64 0,.int .i64 0,.int .i64 0,.string ⟨#[]⟩]
  | 2=>[.int .i64 2,.bool false,.int .u64 0,.int .u64 0,.pointer none,.int .i64 0,.int .i64 li,.int .i64 0,.int .i64 0,.string ⟨#[]⟩]
  | 3=>[.int .i64 2,.bool false,.int .u64 0,.int .u64 0,.pointer none,.int .i64 0,.int .i64 li,.int .i64 0,.int .i64 0,.string ⟨#[]⟩]
  | 4=>[.int .i64 2,.bool false,.int .u64 0,.int .u64 0,.pointer none,.int .i64 0,.int .i64 li,.int .i64 ti,.int .i64 0,.string ⟨#[]⟩]
  | 5=>[.int .i64 2,.bool false,.int .u64 0,.int .u64 0,.pointer none,.int .i64 0,.int .i64 li,.int .i64 ti,.int .i64 0,.string ⟨#[]⟩]
  | _=>[.int .i64 2,.bool false,.int .u64 0,.int .u64 0,.pointer none,.int .i64 0,.int .i64 li,.int .i64 ti,.int .i64 0,.string ⟨nm.toArray⟩]) 2 false 0 0 0 li ti 0 ⟨nm.toArray⟩ mx w hw rfl rfl (fun j hj=>?_) rfl ?_ (zas ⟨2,0,0,li,ti,0,⟨nm.toArray⟩⟩ false 0 0 w (fun W=>sw W) (show Len (0:Rat) 1 from mi (m:=1) (n:=1) (by decide) (by decide) 1 (by omega) (by omega)) (by show nm.toArray.size<_;simp;omega) hok) hF hm
 ·have:j=0:=by omega
  subst this
  exact .inl (by simp[zrn,fmW])
 intro k hk W g hb hN
 have:k=0∨k=1∨k=2∨k=3∨k=4∨k=5:=by omega
 rcases this with rfl|rfl|rfl|rfl|rfl|rfl
 ·refine (zqv g W).mono ?_
  rintro e w' ⟨rfl,rfl⟩
  exact⟨rfl,hN,But.refl _ _⟩
 ·refine (zcj li r2.1 (by omega) ⟨(Lib.itoa li).toArray⟩ rfl g _ W (TabIs.but htab hb) (hN.cells 6 _ rfl) hN.loose).mono ?_
  rintro e w' ⟨w1,rfl,hb1,rfl⟩
  have hS:=zy w1 g [.int .i64 li] 6
  exact⟨rfl,(hN.but hb1).putAt 6 [.int .i64 li] (by simp),(hb1.of_nil (l:=[g])).trans hS (fun x hx=>.inl hx)⟩
 ·refine (zwa g W).mono ?_
  rintro e w' ⟨rfl,rfl⟩
  exact⟨rfl,hN,But.refl _ _⟩
 ·refine (zmk ti r4.1 (by omega) ⟨(Lib.itoa ti).toArray⟩ rfl g _ _ _ _ _ _ _ _ _ _ W (TabIs.but htab hb) hN (fun h=>by have:=h.1;omega)).mono ?_
  rintro e w' ⟨w1,rfl,hb1,rfl⟩
  have hS:=zy w1 g [.int .i64 ti] 7
  exact⟨rfl,(hN.but hb1).putAt 7 [.int .i64 ti] (by simp),(hb1.of_nil (l:=[g])).trans hS (fun x hx=>.inl hx)⟩
 ·refine (zge g W).mono ?_
  rintro e w' ⟨rfl,rfl⟩
  exact⟨rfl,hN,But.refl _ _⟩
 ·refine (zbx ⟨nm.toArray⟩ (by show nm.toArray.size≤_;simp;omega) g _ W (hN.cells 9 _ rfl) hN.loose).mono ?_
  rintro e w' ⟨w1,rfl,hb1,rfl⟩
  have hS:=zy w1 g [.string ⟨nm.toArray⟩] 9
  exact⟨rfl,(hN.but hb1).putAt 9 [.string ⟨nm.toArray⟩] (by simp),(hb1.of_nil (l:=[g])).trans hS (fun x hx=>.inl hx)⟩
def zol (fr li ti pr:Int) (nm:List UInt8):List (List UInt8):=[[101,120,99,101,115,115],Lib.itoa fr,[108,105,109,105,116],Lib.itoa li,[97,103,97,105,110],Lib.itoa ti,[97,116],Lib.itoa pr,[116,111],nm]
theorem zsl (fr li ti pr:Int) (nm:List UInt8) (hnm:nm.length≤1000000) (hok:di ⟨3,0,fr,li,ti,pr,⟨nm.toArray⟩⟩) (hti:¬ ti=0) (q:Option Addr) (cw:Nat) (mx:Int) (w:World) (htab:Lib.TabIs prog w "internal/strconv.uint64pow10" .u64 Lib.pow10Tab) (hw:lv w (.slice q 10 cw) (zol fr li ti pr nm)) (hF:xw w) (hm:w.cell? ⟨2,0,none⟩=some (.int .i64 mx)) :
  Calls prog 18 #[.slice q 10 cw] w fun e w'=>e=.returned (.tuple #[.agg #[.int .i64 3,.bool false,.int .u64 0,.int .u64 0,.pointer none,.int .i64 fr,.int .i64 li,.int .i64 ti,.int .i64 pr,.string ⟨nm.toArray⟩],.nilIface])∧But [] w w':=by
 obtain⟨-,-,⟨r1,r2,r3,r4⟩,-⟩:=id hok
 simp only at r1 r2 r3 r4
 refine dw 3 (by omega) (zol fr li ti pr nm) q 10 cw rfl rfl (fun k=>match k with
  | 0=>[.int .i64 3,.bool false,.int .u64 0,.int .u64 0,.pointer none,.int .i64 0,.int .i64 0,.int .i64 0,.int .i64 0,.string ⟨#[]⟩]
  | 1=>[.int .i64 3,.bool false,.int .u64 0,.int .u64 0,.pointer none,.int .i64 0,.int .i64 0,.int .i64 0,.int .i64 0,.string ⟨#[]⟩]
  | 2=>[.int .i64 3,.bool false,.int .u64 0,.int .u64 0,.pointer none,.int .i64 fr,.int .i64 0,.int .i64 0,.int .i64 0,.string ⟨#[]⟩]
  | 3=>[.int .i64 3,.bool false,.int .u64 0,.int .u64 0,.pointer none,.int .i64 fr,.int .i64 0,.int .i64 0,.int .i64 0,.string ⟨#[]⟩]
  | 4=>[.int .i64 3,.bool false,.int .u64 0,.int .u64 0,.pointer none,.int .i64 fr,.int .i64 li,.int .i64 0,.int .i64 0,.string ⟨#[]⟩]
  | 5=>[.int .i64 3,.bool false,.int .u64 0,.int .u64 0,.pointer none,.int .i64 fr,.int .i64 li,.int .i64 0,.int .i64 0,.string ⟨#[]⟩]
  | 6=>[.int .i64 3,.bool false,.int .u64 0,.int .u64 0,.pointer none,.int .i64 fr,.int .i64 li,.int .i64 ti,.int .i64 0,.string ⟨#[]⟩]
  | 7=>[.int .i64 3,.bool false,.int .u64 0,.int .u64 0,.pointer none,.int .i64 fr,.int .i64 li,.int .i64 ti,.int .i64 0,.string ⟨#[]⟩]
  | 8=>[.int .i64 3,.bool false,.int .u64 0,.int .u64 0,.pointer none,.int .i64 fr,.int .i64 li,.int .i64 ti,.int .i64 pr,.string ⟨#[]⟩]
  | 9=>[.int .i64 3,.bool false,.int .u64 0,.int .u64 0,.pointer none,.int .i64 fr,.int .i64 li,.int .i64 ti,.int .i64 pr,.string ⟨#[]⟩]
  | _=>[.int .i64 3,.bool false,.int .u64 0,.int .u64 0,.pointer none,.int .i64 fr,.int .i64 li,.int .i64 ti,.int .i64 pr,.string ⟨nm.toArray⟩]) 3 false 0 0 fr li ti pr ⟨nm.toArray⟩ mx w hw rfl rfl (fun j hj=>?_) rfl ?_ (zas ⟨3,0,fr,li,ti,pr,⟨nm.toArray⟩⟩ false 0 0 w (fun W=>sw W) (show Len (0:Rat) 1 from mi (m:=1) (n:=1) (by decide) (by decide) 1 (by omega) (by omega)) (by show nm.toArray.size<_;simp;omega) hok) hF hm
 ·have:j=0∨j=1∨j=2:=by omega
  rcases this with rfl|rfl|rfl
  ·exact .inl (by simp[zol,fmW])
  ·exact .inl (by simp[zol,fmW])
  ·exact .inr (by simp[fmW])
 intro k hk W g hb hN
 have:k=0∨k=1∨k=2∨k=3∨k=4∨k=5∨k=6∨k=7∨k=8∨k=9:=by omega
 rcases this with rfl|rfl|rfl|rfl|rfl|rfl|rfl|rfl|rfl|rfl
 ·refine (zim g W).mono ?_
  rintro e w' ⟨rfl,rfl⟩
  exact⟨rfl,hN,But.refl _ _⟩
 ·refine (zhh fr r1.1 (by omega) ⟨(Lib.itoa fr).toArray⟩ rfl g _ W (TabIs.but htab hb) (hN.cells 5 _ rfl) hN.loose).mono ?_
  rintro e w' ⟨w1,rfl,hb1,rfl⟩
  have hS:=zy w1 g [.int .i64 fr] 5
  exact⟨rfl,(hN.but hb1).putAt 5 [.int .i64 fr] (by simp),(hb1.of_nil (l:=[g])).trans hS (fun x hx=>.inl hx)⟩
 ·refine (zfj g W).mono ?_
  rintro e w' ⟨rfl,rfl⟩
  exact⟨rfl,hN,But.refl _ _⟩
 ·refine (zcj li r2.1 (by omega) ⟨(Lib.itoa li).toArray⟩ rfl g _ W (TabIs.but htab hb) (hN.cells 6 _ rfl) hN.loose).mono ?_
  rintro e w' ⟨w1,rfl,hb1,rfl⟩
  have hS:=zy w1 g [.int .i64 li] 6
  exact⟨rfl,(hN.but hb1).putAt 6 [.int .i64 li] (by simp),(hb1.of_nil (l:=[g])).trans hS (fun x hx=>.inl hx)⟩
 ·refine (zwb g W).mono ?_
  rintro e w' ⟨rfl,rfl⟩
  exact⟨rfl,hN,But.refl _ _⟩
 ·refine (zmk ti r4.1 (by omega) ⟨(Lib.itoa ti).toArray⟩ rfl g _ _ _ _ _ _ _ _ _ _ W (TabIs.but htab hb) hN (fun h=>hti h.2)).mono ?_
  rintro e w' ⟨w1,rfl,hb1,rfl⟩
  have hS:=zy w1 g [.int .i64 ti] 7
  exact⟨rfl,(hN.but hb1).putAt 7 [.int .i64 ti] (by simp),(hb1.of_nil (l:=[g])).trans hS (fun x hx=>.inl hx)⟩
 ·refine (qis g W).mono ?_
  rintro e w' ⟨rfl,rfl⟩
  exact⟨rfl,hN,But.refl _ _⟩
 ·refine (zwd pr r3.1 (by omega) ⟨(Lib.itoa pr).toArray⟩ rfl g _ W (TabIs.but htab hb) (hN.cells 8 _ rfl) hN.loose).mono ?_
  rintro e w' ⟨w1,rfl,hb1,rfl⟩
  have hS:=zy w1 g [.int .i64 pr] 8
  exact⟨rfl,(hN.but hb1).putAt 8 [.int .i64 pr] (by simp),(hb1.of_nil (l:=[g])).trans hS (fun x hx=>.inl hx)⟩
 ·refine (zge g W).mono ?_
  rintro e w' ⟨rfl,rfl⟩
  exact⟨rfl,hN,But.refl _ _⟩
 ·refine (zbx ⟨nm.toArray⟩ (by show nm.toArray.size≤_;simp;omega) g _ W (hN.cells 9 _ rfl) hN.loose).mono ?_
  rintro e w' ⟨w1,rfl,hb1,rfl⟩
  have hS:=zy w1 g [.string ⟨nm.toArray⟩] 9
  exact⟨rfl,(hN.but hb1).putAt 9 [.string ⟨nm.toArray⟩] (by simp),(hb1.of_nil (l:=[g])).trans hS (fun x hx=>.inl hx)⟩
def zro (fr li:Int) (nm:List UInt8):List (List UInt8):=[[115,116,111,112],Lib.itoa fr,[108,105,109,105,116],Lib.itoa li,[116,111],nm]
theorem zsk (fr li:Int) (nm:List UInt8) (hnm:nm.length≤1000000) (hok:di ⟨4,0,fr,li,0,0,⟨nm.toArray⟩⟩) (q:Option Addr) (cw:Nat) (mx:Int) (w:World) (htab:Lib.TabIs prog w "internal/strconv.uint64pow10" .u64 Lib.pow10Tab) (hw:lv w (.slice q 6 cw) (zro fr li nm)) (hF:xw w) (hm:w.cell? ⟨2,0,none⟩=some (.int .i64 mx)) :
  Calls prog 18 #[.slice q 6 cw] w fun e w'=>e=.returned (.tuple #[.agg #[.int .i64 4,.bool false,.int .u64 0,.int .u64 0,.pointer none,.int .i64 fr,.int .i64 li,.int .i64 0,.int .i64 0,.string ⟨nm.toArray⟩],.nilIface])∧But [] w w':=by
 obtain⟨-,-,⟨r1,r2,r3,r4⟩,-⟩:=id hok
 simp only at r1 r2 r3 r4
 refine dw 4 (by omega) (zro fr li nm) q 6 cw rfl rfl (fun k=>match k with
  | 0=>[.int .i64 4,.bool false,.int .u64 0,.int .u64 0,.pointer none,.int .i64 0,.int .i64 0,.int .i64 0,.int .i64 0,.string ⟨#[]⟩]
  | 1=>[.int .i64 4,.bool false,.int .u64 0,.int .u64 0,.pointer none,.int .i64 0,.int .i64 0,.int .i64 0,.int .i64 0,.string ⟨#[]⟩]
  | 2=>[.int .i64 4,.bool false,.int .u64 0,.int .u64 0,.pointer none,.int .i64 fr,.int .i64 0,.int .i64 0,.int .i64 0,.string ⟨#[]⟩]
  | 3=>[.int .i64 4,.bool false,.int .u64 0,.int .u64 0,.pointer none,.int .i64 fr,.int .i64 0,.int .i64 0,.int .i64 0,.string ⟨#[]⟩]
  | 4=>[.int .i64 4,.bool false,.int .u64 0,.int .u64 0,.pointer none,.int .i64 fr,.int .i64 li,.int .i64 0,.int .i64 0,.string ⟨#[]⟩]
  | 5=>[.int .i64 4,.bool false,.int .u64 0,.int .u64 0,.pointer none,.int .i64 fr,.int .i64 li,.int .i64 0,.int .i64 0,.string ⟨#[]⟩]
  | _=>[.int .i64 4,.bool false,.int .u64 0,.int .u64 0,.pointer none,.int .i64 fr,.int .i64 li,.int .i64 0,.int .i64 0,.string ⟨nm.toArray⟩]) 4 false 0 0 fr li 0 0 ⟨nm.toArray⟩ mx w hw rfl rfl (fun j hj=>?_) rfl ?_ (zas ⟨4,0,fr,li,0,0,⟨nm.toArray⟩⟩ false 0 0 w (fun W=>sw W) (show Len (0:Rat) 1 from mi (m:=1) (n:=1) (by decide) (by decide) 1 (by omega) (by omega)) (by show nm.toArray.size<_;simp;omega) hok) hF hm
 ·have:j=0∨j=1∨j=2∨j=3:=by omega
  rcases this with rfl|rfl|rfl|rfl
  all_goals exact .inl (by simp[zro,fmW])
 intro k hk W g hb hN
 have:k=0∨k=1∨k=2∨k=3∨k=4∨k=5:=by omega
 rcases this with rfl|rfl|rfl|rfl|rfl|rfl
 ·refine (qan g W).mono ?_
  rintro e w' ⟨rfl,rfl⟩
  exact⟨rfl,hN,But.refl _ _⟩
 ·refine (zhh fr r1.1 (by omega) ⟨(Lib.itoa fr).toArray⟩ rfl g _ W (TabIs.but htab hb) (hN.cells 5 _ rfl) hN.loose).mono ?_
  rintro e w' ⟨w1,rfl,hb1,rfl⟩
  have hS:=zy w1 g [.int .i64 fr] 5
  exact⟨rfl,(hN.but hb1).putAt 5 [.int .i64 fr] (by simp),(hb1.of_nil (l:=[g])).trans hS (fun x hx=>.inl hx)⟩
 ·refine (zfj g W).mono ?_
  rintro e w' ⟨rfl,rfl⟩
  exact⟨rfl,hN,But.refl _ _⟩
 ·refine (zcj li r2.1 (by omega) ⟨(Lib.itoa li).toArray⟩ rfl g _ W (TabIs.but htab hb) (hN.cells 6 _ rfl) hN.loose).mono ?_
  rintro e w' ⟨w1,rfl,hb1,rfl⟩
  have hS:=zy w1 g [.int .i64 li] 6
  exact⟨rfl,(hN.but hb1).putAt 6 [.int .i64 li] (by simp),(hb1.of_nil (l:=[g])).trans hS (fun x hx=>.inl hx)⟩
 ·refine (zge g W).mono ?_
  rintro e w' ⟨rfl,rfl⟩
  exact⟨rfl,hN,But.refl _ _⟩
 ·refine (zbx ⟨nm.toArray⟩ (by show nm.toArray.size≤_;simp;omega) g _ W (hN.cells 9 _ rfl) hN.loose).mono ?_
  rintro e w' ⟨w1,rfl,hb1,rfl⟩
  have hS:=zy w1 g [.string ⟨nm.toArray⟩] 9
  exact⟨rfl,(hN.but hb1).putAt 9 [.string ⟨nm.toArray⟩] (by simp),(hb1.of_nil (l:=[g])).trans hS (fun x hx=>.inl hx)⟩
end Go.Proofs.YtcgecpoedojhjaaGreatDoor
namespace Go.Proofs
open Go.Proofs.Tryz
open Go.Shelf Go.RowKit
def Tryz.lays156_ren : Go.Shelf.Ren := ⟨fun | 156 => 27 | 165 => 54 | 166 => 11 | 169 => 14 | 240 => 24 | 241 => 86 | 276 => 52 | 277 => 118 | n => n, fun | 0 => 0 | 3 => 3 | 4 => 4 | 5 => 5 | 9 => 9 | 20 => 20 | 31 => 69 | 37 => 47 | 70 => 46 | 72 => 49 | 75 => 26 | 76 => 51 | 80 => 53 | 127 => 83 | 164 => 110 | n => n, fun | n => n⟩
theorem Tryz.lays156 : Go.Proofs.Lays.n156 Tryz.prog Tryz.lays156_ren := {
  mixed := by kernel_rfl
  f156 := Tryz.func27.trans (congrArg some (by kernel_rfl))
  f165 := Tryz.func54.trans (congrArg some (by kernel_rfl))
  f166 := Tryz.func11.trans (congrArg some (by kernel_rfl))
  f169 := Tryz.func14.trans (congrArg some (by kernel_rfl))
  f240 := Tryz.func24.trans (congrArg some (by kernel_rfl))
  f241 := Tryz.func86.trans (congrArg some (by kernel_rfl))
  f276 := Tryz.func52.trans (congrArg some (by kernel_rfl))
  f277 := Tryz.func118.trans (congrArg some (by kernel_rfl))
  t0 := Tryz.underlying0
  a0 := Tryz.isAgg0
  z0 := Tryz.sizeOf0
  v0 := Tryz.zeroValue0
  t3 := Tryz.underlying3
  a3 := Tryz.isAgg3
  z3 := Tryz.sizeOf3
  v3 := Tryz.zeroValue3
  t4 := Tryz.underlying4
  a4 := Tryz.isAgg4
  z4 := Tryz.sizeOf4
  v4 := Tryz.zeroValue4
  t9 := Tryz.underlying9
  a9 := Tryz.isAgg9
  z9 := Tryz.sizeOf9
  v9 := Tryz.zeroValue9
  t20 := Tryz.underlying20
  a20 := Tryz.isAgg20
  z20 := Tryz.sizeOf20
  v20 := Tryz.zeroValue20
  t31 := Tryz.underlying69
  a31 := Tryz.isAgg69
  z31 := Tryz.sizeOf69
  v31 := Tryz.zeroValue69
  t37 := Tryz.underlying47
  a37 := Tryz.isAgg47
  z37 := Tryz.sizeOf47
  v37 := Tryz.zeroValue47
  t70 := Tryz.underlying46
  a70 := Tryz.isAgg46
  z70 := Tryz.sizeOf46
  v70 := Tryz.zeroValue46
  t72 := Tryz.underlying49
  a72 := Tryz.isAgg49
  z72 := Tryz.sizeOf49
  v72 := Tryz.zeroValue49
  t75 := Tryz.underlying26
  a75 := Tryz.isAgg26
  z75 := Tryz.sizeOf26
  v75 := Tryz.zeroValue26
  t76 := Tryz.underlying51
  a76 := Tryz.isAgg51
  z76 := Tryz.sizeOf51
  v76 := Tryz.zeroValue51
  t127 := Tryz.underlying83
  a127 := Tryz.isAgg83
  z127 := Tryz.sizeOf83
  v127 := Tryz.zeroValue83
  t164 := Tryz.underlying110
  a164 := Tryz.isAgg110
  z164 := Tryz.sizeOf110
  v164 := Tryz.zeroValue110 }
theorem Tryz.zjg:Builder.Extra prog Tryz.lays156_ren where
 sizeBuilder:=by kernel_rfl
 liesBuilder:=by kernel_rfl
 t5:=underlying5
 a5:=isAgg5
 z5:=sizeOf5
 v5:=zeroValue5
 infoByte:=by kernel_rfl
 cellsByte:=by kernel_rfl
 sizeByte:=by kernel_rfl
 neB5:=by decide
end Go.Proofs
namespace Go.Proofs.YtcgecpoedojhjaaGreatDoor
open Go.Proofs.Tryz
open Go.RowKit Go.Shelf
set_option maxHeartbeats 32000000
set_option maxRecDepth 100000
set_option linter.unusedVariables false
theorem zqr (d:UInt8):∀ xs:List (List UInt8),Lib.join xs [d]=jn d xs
 | []=>rfl
 | [x]=>Lib.join_one x [d]
 | x::y::l=>by
  have ih:=zqr d (y::l)
  rw[Lib.join_cons] at ih ⊢
  show x++Lib.joinTail [d] (y::l)=x++d::jn d (y::l)
  rw[← ih]
  simp[Lib.joinTail]
theorem zrx (b o c:Nat) (xs:List (List UInt8)) (w:World) (hw:lv w (.slice (some ⟨b,o,none⟩) xs.length c) xs) (hN:xs.length≤1000) (hcap:xs.length≤c) (hbk:b<w.heap.size) (hlen:(jn 32 xs).length≤1000000) :
  Calls prog 27 #[.slice (some ⟨b,o,none⟩) xs.length c,.string ⟨#[32]⟩] w fun e w'=>e=.returned (yg (jn 32 xs))∧But [] w w':=by
 have hx:=Any.strings_Join Tryz.lays156 Tryz.zjg b o c (xs.map fun x=>⟨x.toArray⟩) ⟨#[32]⟩ w (fun j x hj=>by
  rw[List.getElem?_map] at hj
  cases e:xs[j]? with
  | none=>rw[e] at hj;simp at hj
  | some y =>
   rw[e] at hj
   simp only[Option.map_some,Option.some.injEq] at hj
   subst hj
   obtain⟨a,cap,ha,hw⟩:=hw
   simp only[Value.slice.injEq] at ha
   obtain⟨b',o',e1,h1⟩:=hw j y e
   rw[← ha.1] at e1
   simp only[Option.some.injEq,Addr.mk.injEq,and_true] at e1
   rw[e1.1,e1.2]
   exact h1) hbk (by rw[List.length_map];omega) (by rw[List.length_map];omega) (by
    rw[List.map_map]
    have e:((fun x:ByteArray=>x.data.toList) ∘ fun x:List UInt8=>(⟨x.toArray⟩:ByteArray))=id:=by funext x;simp
    rw[e,List.map_id]
    show (Lib.join xs [32]).length≤_
    rw[zqr]
    omega)
 rw[List.length_map] at hx
 refine hx.mono ?_
 rintro e w' ⟨rfl,h2⟩
 refine⟨?_,But.of_below h2⟩
 rw[List.map_map]
 have e:((fun x:ByteArray=>x.data.toList) ∘ fun x:List UInt8=>(⟨x.toArray⟩:ByteArray))=id:=by funext x;simp
 rw[e,List.map_id]
 show Ending.returned (.string ⟨(Lib.join xs [32]).toArray⟩)=_
 rw[zqr]
 rfl
theorem zju (z:Int) (h0:0≤z) (h1:z≤1000000000000000) (w:World) (htab:Lib.TabIs prog w "internal/strconv.uint64pow10" .u64 Lib.pow10Tab):Calls prog 53 #[.int .i64 z] w fun e w'=>e=.returned (.string ⟨(Lib.itoa z).toArray⟩)∧But [] w w' :=
 (Any.strconv_Itoa Tryz.laysM171 z (by omega) (by omega) w htab).mono (by rintro e w' ⟨rfl,k,os,rfl⟩;exact⟨rfl,zpj _ _ _⟩)
theorem zyn (kd:Int) (s:Bool) (x y:Int) (p:Option Addr) (fr li ti pr:Int) (nm:ByteArray) (w:World):Calls prog 26 #[zq kd s x y p fr li ti pr nm,.string ⟨#[99,101,100,101]⟩] w fun e w'=>e=.returned (.string ⟨#[99,101,100,101]⟩)∧But [] w w':=by
 unfold zq
 have HB:=hide ((But.refl [] w).alloc (.cells #[.int .i64 kd,.bool s,.int .u64 x,.int .u64 y,.pointer p,.int .i64 fr,.int .i64 li,.int .i64 ti,.int .i64 pr,.string nm] 37))
 go_enter func26,ntmps26
 go_wp2
 exact bodyPost_ret (v:=.string ⟨#[99,101,100,101]⟩) (by simp[results,results26,go_sem]) rfl ⟨rfl,za HB⟩
theorem zfr (kd:Int) (s:Bool) (x y:Int) (p:Option Addr) (fr li ti pr:Int) (nm:ByteArray) (w:World):Calls prog 26 #[zq kd s x y p fr li ti pr nm,.string ⟨#[116,111]⟩] w fun e w'=>e=.returned (.string ⟨#[116,111]⟩)∧But [] w w':=by
 unfold zq
 have HB:=hide ((But.refl [] w).alloc (.cells #[.int .i64 kd,.bool s,.int .u64 x,.int .u64 y,.pointer p,.int .i64 fr,.int .i64 li,.int .i64 ti,.int .i64 pr,.string nm] 37))
 go_enter func26,ntmps26
 go_wp2
 exact bodyPost_ret (v:=.string ⟨#[116,111]⟩) (by simp[results,results26,go_sem]) rfl ⟨rfl,za HB⟩
theorem zqc (kd:Int) (s:Bool) (x y:Int) (p:Option Addr) (fr li ti pr:Int) (nm:ByteArray) (w:World):Calls prog 26 #[zq kd s x y p fr li ti pr nm,.string ⟨#[115,117,114,112,108,117,115]⟩] w fun e w'=>e=.returned (.string ⟨#[115,117,114,112,108,117,115]⟩)∧But [] w w':=by
 unfold zq
 have HB:=hide ((But.refl [] w).alloc (.cells #[.int .i64 kd,.bool s,.int .u64 x,.int .u64 y,.pointer p,.int .i64 fr,.int .i64 li,.int .i64 ti,.int .i64 pr,.string nm] 37))
 go_enter func26,ntmps26
 go_wp2
 exact bodyPost_ret (v:=.string ⟨#[115,117,114,112,108,117,115]⟩) (by simp[results,results26,go_sem]) rfl ⟨rfl,za HB⟩
theorem zur (kd:Int) (s:Bool) (x y:Int) (p:Option Addr) (fr li ti pr:Int) (nm:ByteArray) (w:World):Calls prog 26 #[zq kd s x y p fr li ti pr nm,.string ⟨#[116,105,109,101,115]⟩] w fun e w'=>e=.returned (.string ⟨#[116,105,109,101,115]⟩)∧But [] w w':=by
 unfold zq
 have HB:=hide ((But.refl [] w).alloc (.cells #[.int .i64 kd,.bool s,.int .u64 x,.int .u64 y,.pointer p,.int .i64 fr,.int .i64 li,.int .i64 ti,.int .i64 pr,.string nm] 37))
 go_enter func26,ntmps26
 go_wp2
 exact bodyPost_ret (v:=.string ⟨#[116,105,109,101,115]⟩) (by simp[results,results26,go_sem]) rfl ⟨rfl,za HB⟩
theorem zht (kd:Int) (s:Bool) (x y:Int) (p:Option Addr) (fr li ti pr:Int) (nm:ByteArray) (w:World):Calls prog 26 #[zq kd s x y p fr li ti pr nm,.string ⟨#[101,120,99,101,115,115]⟩] w fun e w'=>e=.returned (.string ⟨#[101,120,99,101,115,115]⟩)∧But [] w w':=by
 unfold zq
 have HB:=hide ((But.refl [] w).alloc (.cells #[.int .i64 kd,.bool s,.int .u64 x,.int .u64 y,.pointer p,.int .i64 fr,.int .i64 li,.int .i64 ti,.int .i64 pr,.string nm] 37))
 go_enter func26,ntmps26
 go_wp2
 exact bodyPost_ret (v:=.string ⟨#[101,120,99,101,115,115]⟩) (by simp[results,results26,go_sem]) rfl ⟨rfl,za HB⟩
theorem zfe (kd:Int) (s:Bool) (x y:Int) (p:Option Addr) (fr li ti pr:Int) (nm:ByteArray) (w:World):Calls prog 26 #[zq kd s x y p fr li ti pr nm,.string ⟨#[108,105,109,105,116]⟩] w fun e w'=>e=.returned (.string ⟨#[108,105,109,105,116]⟩)∧But [] w w':=by
 unfold zq
 have HB:=hide ((But.refl [] w).alloc (.cells #[.int .i64 kd,.bool s,.int .u64 x,.int .u64 y,.pointer p,.int .i64 fr,.int .i64 li,.int .i64 ti,.int .i64 pr,.string nm] 37))
 go_enter func26,ntmps26
 go_wp2
 exact bodyPost_ret (v:=.string ⟨#[108,105,109,105,116]⟩) (by simp[results,results26,go_sem]) rfl ⟨rfl,za HB⟩
theorem zus (kd:Int) (s:Bool) (x y:Int) (p:Option Addr) (fr li ti pr:Int) (nm:ByteArray) (w:World):Calls prog 26 #[zq kd s x y p fr li ti pr nm,.string ⟨#[97,103,97,105,110]⟩] w fun e w'=>e=.returned (.string ⟨#[97,103,97,105,110]⟩)∧But [] w w':=by
 unfold zq
 have HB:=hide ((But.refl [] w).alloc (.cells #[.int .i64 kd,.bool s,.int .u64 x,.int .u64 y,.pointer p,.int .i64 fr,.int .i64 li,.int .i64 ti,.int .i64 pr,.string nm] 37))
 go_enter func26,ntmps26
 go_wp2
 exact bodyPost_ret (v:=.string ⟨#[97,103,97,105,110]⟩) (by simp[results,results26,go_sem]) rfl ⟨rfl,za HB⟩
theorem qhe (kd:Int) (s:Bool) (x y:Int) (p:Option Addr) (fr li ti pr:Int) (nm:ByteArray) (w:World):Calls prog 26 #[zq kd s x y p fr li ti pr nm,.string ⟨#[97,116]⟩] w fun e w'=>e=.returned (.string ⟨#[97,116]⟩)∧But [] w w':=by
 unfold zq
 have HB:=hide ((But.refl [] w).alloc (.cells #[.int .i64 kd,.bool s,.int .u64 x,.int .u64 y,.pointer p,.int .i64 fr,.int .i64 li,.int .i64 ti,.int .i64 pr,.string nm] 37))
 go_enter func26,ntmps26
 go_wp2
 exact bodyPost_ret (v:=.string ⟨#[97,116]⟩) (by simp[results,results26,go_sem]) rfl ⟨rfl,za HB⟩
theorem zym (kd:Int) (s:Bool) (x y:Int) (p:Option Addr) (fr li ti pr:Int) (nm:ByteArray) (w:World):Calls prog 26 #[zq kd s x y p fr li ti pr nm,.string ⟨#[115,116,111,112]⟩] w fun e w'=>e=.returned (.string ⟨#[115,116,111,112]⟩)∧But [] w w':=by
 unfold zq
 have HB:=hide ((But.refl [] w).alloc (.cells #[.int .i64 kd,.bool s,.int .u64 x,.int .u64 y,.pointer p,.int .i64 fr,.int .i64 li,.int .i64 ti,.int .i64 pr,.string nm] 37))
 go_enter func26,ntmps26
 go_wp2
 exact bodyPost_ret (v:=.string ⟨#[115,116,111,112]⟩) (by simp[results,results26,go_sem]) rfl ⟨rfl,za HB⟩
theorem zbp (kd:Int) (s:Bool) (x y:Int) (p:Option Addr) (fr li ti pr:Int) (nm:ByteArray) (w:World):Calls prog 26 #[zq kd s x y p fr li ti pr nm,.string ⟨#[78,65,77,69]⟩] w fun e w'=>e=.returned (.string nm)∧But [] w w':=by
 unfold zq
 have HB:=hide ((But.refl [] w).alloc (.cells #[.int .i64 kd,.bool s,.int .u64 x,.int .u64 y,.pointer p,.int .i64 fr,.int .i64 li,.int .i64 ti,.int .i64 pr,.string nm] 37))
 go_enter func26,ntmps26
 go_wp2
 exact bodyPost_ret (v:=.string nm) (by simp[results,results26,go_sem]) rfl ⟨rfl,za HB⟩
theorem zgp (kd:Int) (s:Bool) (x y:Int) (p:Option Addr) (fr li ti pr:Int) (nm:ByteArray) (h0:0≤fr) (h1:fr≤1000000000000000) (w:World) (htab:Lib.TabIs prog w "internal/strconv.uint64pow10" .u64 Lib.pow10Tab):Calls prog 26 #[zq kd s x y p fr li ti pr nm,.string ⟨#[70,82,79,77]⟩] w fun e w'=>e=.returned (.string ⟨(Lib.itoa fr).toArray⟩)∧But [] w w':=by
 unfold zq
 have HB:=hide ((But.refl [] w).alloc (.cells #[.int .i64 kd,.bool s,.int .u64 x,.int .u64 y,.pointer p,.int .i64 fr,.int .i64 li,.int .i64 ti,.int .i64 pr,.string nm] 37))
 have IT:Hid (∀ W,But [] w W→Calls prog 53 #[.int .i64 fr] W fun e w'=>e=.returned (.string ⟨(Lib.itoa fr).toArray⟩)∧But [] W w'):=fun W hW=>zju fr h0 h1 W (TabIs.but htab hW)
 clear htab h0 h1
 generalize Lib.itoa fr=t at IT ⊢
 go_enter func26,ntmps26
 go_wp2_with fail
 refine (za IT _ (za HB)).mono ?_
 rintro e w1 ⟨rfl,hb⟩
 have B1:=hide ((za HB).trans' hb)
 clear hb IT HB
 go_wp2
 exact bodyPost_ret (v:=.string ⟨t.toArray⟩) (by simp[results,results26,go_sem]) rfl ⟨rfl,za B1⟩
theorem zcf (kd:Int) (s:Bool) (x y:Int) (p:Option Addr) (fr li ti pr:Int) (nm:ByteArray) (h0:0≤li) (h1:li≤1000000000000000) (w:World) (htab:Lib.TabIs prog w "internal/strconv.uint64pow10" .u64 Lib.pow10Tab):Calls prog 26 #[zq kd s x y p fr li ti pr nm,.string ⟨#[76,73,77,73,84]⟩] w fun e w'=>e=.returned (.string ⟨(Lib.itoa li).toArray⟩)∧But [] w w':=by
 unfold zq
 have HB:=hide ((But.refl [] w).alloc (.cells #[.int .i64 kd,.bool s,.int .u64 x,.int .u64 y,.pointer p,.int .i64 fr,.int .i64 li,.int .i64 ti,.int .i64 pr,.string nm] 37))
 have IT:Hid (∀ W,But [] w W→Calls prog 53 #[.int .i64 li] W fun e w'=>e=.returned (.string ⟨(Lib.itoa li).toArray⟩)∧But [] W w'):=fun W hW=>zju li h0 h1 W (TabIs.but htab hW)
 clear htab h0 h1
 generalize Lib.itoa li=t at IT ⊢
 go_enter func26,ntmps26
 go_wp2_with fail
 refine (za IT _ (za HB)).mono ?_
 rintro e w1 ⟨rfl,hb⟩
 have B1:=hide ((za HB).trans' hb)
 clear hb IT HB
 go_wp2
 exact bodyPost_ret (v:=.string ⟨t.toArray⟩) (by simp[results,results26,go_sem]) rfl ⟨rfl,za B1⟩
theorem zkp (kd:Int) (s:Bool) (x y:Int) (p:Option Addr) (fr li ti pr:Int) (nm:ByteArray) (h0:0≤ti) (h1:ti≤1000000000000000) (w:World) (htab:Lib.TabIs prog w "internal/strconv.uint64pow10" .u64 Lib.pow10Tab):Calls prog 26 #[zq kd s x y p fr li ti pr nm,.string ⟨#[84,73,77,69,83]⟩] w fun e w'=>e=.returned (.string ⟨(Lib.itoa ti).toArray⟩)∧But [] w w':=by
 unfold zq
 have HB:=hide ((But.refl [] w).alloc (.cells #[.int .i64 kd,.bool s,.int .u64 x,.int .u64 y,.pointer p,.int .i64 fr,.int .i64 li,.int .i64 ti,.int .i64 pr,.string nm] 37))
 have IT:Hid (∀ W,But [] w W→Calls prog 53 #[.int .i64 ti] W fun e w'=>e=.returned (.string ⟨(Lib.itoa ti).toArray⟩)∧But [] W w'):=fun W hW=>zju ti h0 h1 W (TabIs.but htab hW)
 clear htab h0 h1
 generalize Lib.itoa ti=t at IT ⊢
 go_enter func26,ntmps26
 go_wp2_with fail
 refine (za IT _ (za HB)).mono ?_
 rintro e w1 ⟨rfl,hb⟩
 have B1:=hide ((za HB).trans' hb)
 clear hb IT HB
 go_wp2
 exact bodyPost_ret (v:=.string ⟨t.toArray⟩) (by simp[results,results26,go_sem]) rfl ⟨rfl,za B1⟩
theorem zuu (kd:Int) (s:Bool) (x y:Int) (p:Option Addr) (fr li ti pr:Int) (nm:ByteArray) (h0:0≤pr) (h1:pr≤1000000000000000) (w:World) (htab:Lib.TabIs prog w "internal/strconv.uint64pow10" .u64 Lib.pow10Tab):Calls prog 26 #[zq kd s x y p fr li ti pr nm,.string ⟨#[80,82,73,67,69]⟩] w fun e w'=>e=.returned (.string ⟨(Lib.itoa pr).toArray⟩)∧But [] w w':=by
 unfold zq
 have HB:=hide ((But.refl [] w).alloc (.cells #[.int .i64 kd,.bool s,.int .u64 x,.int .u64 y,.pointer p,.int .i64 fr,.int .i64 li,.int .i64 ti,.int .i64 pr,.string nm] 37))
 have IT:Hid (∀ W,But [] w W→Calls prog 53 #[.int .i64 pr] W fun e w'=>e=.returned (.string ⟨(Lib.itoa pr).toArray⟩)∧But [] W w'):=fun W hW=>zju pr h0 h1 W (TabIs.but htab hW)
 clear htab h0 h1
 generalize Lib.itoa pr=t at IT ⊢
 go_enter func26,ntmps26
 go_wp2_with fail
 refine (za IT _ (za HB)).mono ?_
 rintro e w1 ⟨rfl,hb⟩
 have B1:=hide ((za HB).trans' hb)
 clear hb IT HB
 go_wp2
 exact bodyPost_ret (v:=.string ⟨t.toArray⟩) (by simp[results,results26,go_sem]) rfl ⟨rfl,za B1⟩
theorem zut (kd:Int) (s:Bool) (x y:Int) (p:Option Addr) (fr li ti pr:Int) (nm:ByteArray) (t:ByteArray) (w:World) (TX:∀ W,But [] w W→Calls prog 21 #[.agg #[.bool s,.int .u64 x,.int .u64 y,.pointer p]] W fun e w'=>e=.returned (.string t)∧But [] W w'):Calls prog 26 #[zq kd s x y p fr li ti pr nm,.string ⟨#[83,72,65,82,69]⟩] w fun e w'=>e=.returned (.string t)∧But [] w w':=by
 unfold zq
 have HB:=hide ((But.refl [] w).alloc (.cells #[.int .i64 kd,.bool s,.int .u64 x,.int .u64 y,.pointer p,.int .i64 fr,.int .i64 li,.int .i64 ti,.int .i64 pr,.string nm] 37))
 have IT:=hide TX
 clear TX
 go_enter func26,ntmps26
 go_wp2_with fail
 refine (za IT _ (za HB)).mono ?_
 rintro e w1 ⟨rfl,hb⟩
 have B1:=hide ((za HB).trans' hb)
 clear hb IT HB
 go_wp2
 exact bodyPost_ret (v:=.string t) (by simp[results,results26,go_sem]) rfl ⟨rfl,za B1⟩
def wsF (l:Ln) (t:List UInt8) (j:Nat):List (List UInt8):=match j with
 | 0=>[[99,101,100,101],t,[116,111],l.to.data.toList]
 | 1=>[[115,117,114,112,108,117,115],Lib.itoa l.li,[116,105,109,101,115],Lib.itoa l.ti,[116,111],l.to.data.toList]
 | 2=>[[101,120,99,101,115,115],Lib.itoa l.fr,[108,105,109,105,116],Lib.itoa l.li,[116,111],l.to.data.toList]
 | 3=>[[101,120,99,101,115,115],Lib.itoa l.fr,[108,105,109,105,116],Lib.itoa l.li,[97,103,97,105,110],Lib.itoa l.ti,[97,116],Lib.itoa l.pr,[116,111],l.to.data.toList]
 | _=>[[115,116,111,112],Lib.itoa l.fr,[108,105,109,105,116],Lib.itoa l.li,[116,111],l.to.data.toList]
theorem qgw (l:Ln) (t:List UInt8) (j:Nat) (hj:j<5):(wsF l t j).length=(fmW j).length:=by
 have:j=0∨j=1∨j=2∨j=3∨j=4:=by omega
 rcases this with rfl|rfl|rfl|rfl|rfl <;> rfl
theorem strOf (b:ByteArray):(.string ⟨b.data.toList.toArray⟩:Value)=.string b:=by
 cases b
 simp
theorem qtn (l:Ln) (s:Bool) (x y:Int) (p:Option Addr) (t:List UInt8) (r:af l.fr l.li l.ti l.pr) (fi k:Nat) (hfi:fi<5) (hk:k<(fmW fi).length) (w:World) (htab:Lib.TabIs prog w "internal/strconv.uint64pow10" .u64 Lib.pow10Tab) (TX:∀ W,But [] w W→Calls prog 21 #[.agg #[.bool s,.int .u64 x,.int .u64 y,.pointer p]] W fun e w'=>e=.returned (.string ⟨t.toArray⟩)∧But [] W w') :
  Calls prog 26 #[zq l.kd s x y p l.fr l.li l.ti l.pr l.to,yg ((fmW fi)[k]?.getD [])] w fun e w'=>e=.returned (yg ((wsF l t fi)[k]?.getD []))∧But [] w w':=by
 obtain⟨r1,r2,r3,r4⟩:=r
 have:fi=0∨fi=1∨fi=2∨fi=3∨fi=4:=by omega
 rcases this with rfl|rfl|rfl|rfl|rfl
 ·have:k=0∨k=1∨k=2∨k=3:=by simp[fmW] at hk;omega
  rcases this with rfl|rfl|rfl|rfl
  ·exact zyn _ _ _ _ _ _ _ _ _ _ w
  ·exact zut _ _ _ _ _ _ _ _ _ _ ⟨t.toArray⟩ w TX
  ·exact zfr _ _ _ _ _ _ _ _ _ _ w
  ·refine (zbp _ _ _ _ _ _ _ _ _ _ w).mono ?_
   rintro e w' ⟨rfl,hb⟩
   exact⟨congrArg Ending.returned (strOf _).symm,hb⟩
 ·have:k=0∨k=1∨k=2∨k=3∨k=4∨k=5:=by simp[fmW] at hk;omega
  rcases this with rfl|rfl|rfl|rfl|rfl|rfl
  ·exact zqc _ _ _ _ _ _ _ _ _ _ w
  ·exact zcf _ _ _ _ _ _ _ _ _ _ r2.1 (by have:=r2.2;omega) w htab
  ·exact zur _ _ _ _ _ _ _ _ _ _ w
  ·exact zkp _ _ _ _ _ _ _ _ _ _ r4.1 (by have:=r4.2;omega) w htab
  ·exact zfr _ _ _ _ _ _ _ _ _ _ w
  ·refine (zbp _ _ _ _ _ _ _ _ _ _ w).mono ?_
   rintro e w' ⟨rfl,hb⟩
   exact⟨congrArg Ending.returned (strOf _).symm,hb⟩
 ·have:k=0∨k=1∨k=2∨k=3∨k=4∨k=5:=by simp[fmW] at hk;omega
  rcases this with rfl|rfl|rfl|rfl|rfl|rfl
  ·exact zht _ _ _ _ _ _ _ _ _ _ w
  ·exact zgp _ _ _ _ _ _ _ _ _ _ r1.1 (by have:=r1.2;omega) w htab
  ·exact zfe _ _ _ _ _ _ _ _ _ _ w
  ·exact zcf _ _ _ _ _ _ _ _ _ _ r2.1 (by have:=r2.2;omega) w htab
  ·exact zfr _ _ _ _ _ _ _ _ _ _ w
  ·refine (zbp _ _ _ _ _ _ _ _ _ _ w).mono ?_
   rintro e w' ⟨rfl,hb⟩
   exact⟨congrArg Ending.returned (strOf _).symm,hb⟩
 ·have:k=0∨k=1∨k=2∨k=3∨k=4∨k=5∨k=6∨k=7∨k=8∨k=9:=by simp[fmW] at hk;omega
  rcases this with rfl|rfl|rfl|rfl|rfl|rfl|rfl|rfl|rfl|rfl
  ·exact zht _ _ _ _ _ _ _ _ _ _ w
  ·exact zgp _ _ _ _ _ _ _ _ _ _ r1.1 (by have:=r1.2;omega) w htab
  ·exact zfe _ _ _ _ _ _ _ _ _ _ w
  ·exact zcf _ _ _ _ _ _ _ _ _ _ r2.1 (by have:=r2.2;omega) w htab
  ·exact zus _ _ _ _ _ _ _ _ _ _ w
  ·exact zkp _ _ _ _ _ _ _ _ _ _ r4.1 (by have:=r4.2;omega) w htab
  ·exact qhe _ _ _ _ _ _ _ _ _ _ w
  ·exact zuu _ _ _ _ _ _ _ _ _ _ r3.1 (by have:=r3.2;omega) w htab
  ·exact zfr _ _ _ _ _ _ _ _ _ _ w
  ·refine (zbp _ _ _ _ _ _ _ _ _ _ w).mono ?_
   rintro e w' ⟨rfl,hb⟩
   exact⟨congrArg Ending.returned (strOf _).symm,hb⟩
 ·have:k=0∨k=1∨k=2∨k=3∨k=4∨k=5:=by simp[fmW] at hk;omega
  rcases this with rfl|rfl|rfl|rfl|rfl|rfl
  ·exact zym _ _ _ _ _ _ _ _ _ _ w
  ·exact zgp _ _ _ _ _ _ _ _ _ _ r1.1 (by have:=r1.2;omega) w htab
  ·exact zfe _ _ _ _ _ _ _ _ _ _ w
  ·exact zcf _ _ _ _ _ _ _ _ _ _ r2.1 (by have:=r2.2;omega) w htab
  ·exact zfr _ _ _ _ _ _ _ _ _ _ w
  ·refine (zbp _ _ _ _ _ _ _ _ _ _ w).mono ?_
   rintro e w' ⟨rfl,hb⟩
   exact⟨congrArg Ending.returned (strOf _).symm,hb⟩
def zdu (kd ti:Int) (j:Nat):Prop:=fmK j=kd∧fmB j=(kd==3 && !(ti==0))
theorem zqp (kd:Int) (s:Bool) (x y:Int) (p:Option Addr) (fr li ti pr:Int) (nm:ByteArray) (fi:Nat) (hfi:fi<5) (h1:zdu kd ti fi) (h2:∀ j,j<fi→¬ zdu kd ti j) (w:World) (hF:xw w) :
  Calls prog 25 #[zq kd s x y p fr li ti pr nm] w fun e w'=>e=.returned (.string (fmT fi))∧But [] w w':=by
 unfold zq
 have flt : 0 < w.heap.size:=lt_of_cell (hF 0 _ rfl)
 have fc0:=hF 0 _ rfl
 have fc1:=hF 1 _ rfl
 have fc2:=hF 2 _ rfl
 have fc3:=hF 3 _ rfl
 have fc4:=hF 4 _ rfl
 have fc5:=hF 5 _ rfl
 have fc6:=hF 6 _ rfl
 have fc7:=hF 7 _ rfl
 have fc8:=hF 8 _ rfl
 have fc9:=hF 9 _ rfl
 have fc10:=hF 10 _ rfl
 have fc11:=hF 11 _ rfl
 have fc12:=hF 12 _ rfl
 have fc13:=hF 13 _ rfl
 have fc14:=hF 14 _ rfl
 have HH1:=hide h1
 have HH2:=hide h2
 clear hF h1 h2
 have bA:=hide ((But.refl [] w).alloc (.cells #[.int .i64 kd,.bool s,.int .u64 x,.int .u64 y,.pointer p,.int .i64 fr,.int .i64 li,.int .i64 ti,.int .i64 pr,.string nm] 37))
 have D1:=hide (bf.new w kd s x y p fr li ti pr nm)
 obtain⟨g1,hg1⟩:∃ g1,g1=w.heap.size:=⟨_,rfl⟩
 rw[← hg1] at D1
 go_enter func25,ntmps25
 go_wp2
 rw[← hg1]
 clear hg1
 clear fc0
 clear fc1
 clear fc2
 clear fc3
 clear fc4
 clear fc5
 clear fc6
 clear fc7
 clear fc8
 clear fc9
 clear fc10
 clear fc11
 clear fc12
 clear fc13
 clear fc14
 have hix:=zxq
 generalize (Value.agg #[.int .i64 1,.bool false,.string ⟨#[99,101,100,101,32,83,72,65,82,69,32,116,111,32,78,65,77,69]⟩,.int .i64 2,.bool false,.string ⟨#[115,117,114,112,108,117,115,32,76,73,77,73,84,32,116,105,109,101,115,32,84,73,77,69,83,32,116,111,32,78,65,77,69]⟩,.int .i64 3,.bool false,.string ⟨#[101,120,99,101,115,115,32,70,82,79,77,32,108,105,109,105,116,32,76,73,77,73,84,32,116,111,32,78,65,77,69]⟩,.int .i64 3,.bool true,.string ⟨#[101,120,99,101,115,115,32,70,82,79,77,32,108,105,109,105,116,32,76,73,77,73,84,32,97,103,97,105,110,32,84,73,77,69,83,32,97,116,32,80,82,73,67,69,32,116,111,32,78,65,77,69]⟩,.int .i64 4,.bool false,.string ⟨#[115,116,111,112,32,70,82,79,77,32,108,105,109,105,116,32,76,73,77,73,84,32,116,111,32,78,65,77,69]⟩])=FA at *
 generalize w.alloc (.cells #[.int .i64 kd,.bool s,.int .u64 x,.int .u64 y,.pointer p,.int .i64 fr,.int .i64 li,.int .i64 ti,.int .i64 pr,.string nm] 37)=W0 at *
 go_loopw [6] (fun i wr=>∃ j:Nat,j≤fi∧i=.int .i64 (j:Int)∧Hid (But [] w wr)∧Hid (bf wr g1 kd s x y p fr li ti pr nm)) (fun i _=>5-(intOf i).toNat)
 case atStart=>exact⟨0,Nat.zero_le _,rfl,za bA,za D1⟩
 case round =>
  obtain⟨j,hj,rfl,HB,HD⟩:=hrel
  rename World=>wr
  clear bA D1
  have hj5:j<5:=by omega
  have hix2:=fun W=>hix j hj5 W
  have hjc:((j:Nat):Int)<5:=by omega
  obtain⟨kj,hkj⟩:∃ kj,kj=fmK j:=⟨_,rfl⟩
  obtain⟨bj,hbj⟩:∃ bj,bj=fmB j:=⟨_,rfl⟩
  obtain⟨tj,htj⟩:∃ tj,tj=fmT j:=⟨_,rfl⟩
  rw[← hkj,← hbj,← htj] at hix2
  have HKJ:=hide hkj
  have HBJ:=hide hbj
  have HTJ:=hide htj
  have bF:But [] wr (wr.alloc (.cells #[.int .i64 kj,.bool bj,.string tj] 92)):=(But.refl [] wr).alloc _
  have d4:=jy.made 0 wr [.int .i64 kj,.bool bj,.string tj] 92 (Nat.zero_le _)
  have D4:=hide d4
  have HB1:=hide ((za HB).trans' bF)
  have HD1:=hide ((za HD).but bF (by simp))
  have YES:Hid (zdu kd ti j→j=fi):=fun h=>by
   rcases Nat.lt_or_ge j fi with h' | h'
   ·exact absurd h (za HH2 j h')
   ·omega
  have NO:Hid (¬ zdu kd ti j→j<fi):=fun h=>by
   rcases Nat.lt_or_ge j fi with h' | h'
   ·exact h'
   ·obtain rfl:j=fi:=by omega
    exact absurd (za HH1) h
  clear hkj hbj htj bF hix HB HD d4 HH1 HH2
  have l0:(wr.alloc (.cells #[.int .i64 kj,.bool bj,.string tj] 92)).cell? ⟨g1,0,none⟩=some (.int .i64 kd):=(za HD1).cells 0 _ rfl
  have l7:(wr.alloc (.cells #[.int .i64 kj,.bool bj,.string tj] 92)).cell? ⟨g1,7,none⟩=some (.int .i64 ti):=(za HD1).cells 7 _ rfl
  by_cases hk:kj=kd
  ·have hk2:(kj==kd)=true:=by simpa using hk
   have HK:=hide hk
   have HKD:Hid (fmK j=kd):=(za HKJ).symm.trans hk
   clear hk
   by_cases h3:kd=3
   ·have h32:(kd==3)=true:=by simpa using h3
    clear h3
    by_cases h0:ti=0
    ·have h02:(ti==0)=true:=by simpa using h0
     have h03:(ti != 0)=false:=by simpa using h0
     clear h0
     cases bj
     ·have HJF:Hid (j=fi):=za YES ⟨za HKD,by rw[← za HBJ];simp[h32,h02]⟩
      go_wp2
      exact bodyPost_ret (v:=.string tj) (by simp[results,results25,go_sem]) rfl ⟨by rw[za HTJ,za HJF],za HB1⟩
     ·have hjf:j<fi:=za NO (fun h=>by have:=h.2;rw[← za HBJ] at this;simp[h32,h02] at this)
      go_wp2
      exact⟨⟨j+1,by omega,by go_num,za HB1,za HD1⟩,by simp[intOf];omega⟩
    ·have h02:(ti==0)=false:=by simpa using h0
     have h03:(ti != 0)=true:=by simpa using h0
     cases bj
     ·have hjf:j<fi:=za NO (fun h=>by have:=h.2;rw[← za HBJ] at this;simp[h32,h02] at this)
      go_wp2
      exact⟨⟨j+1,by omega,by go_num,za HB1,za HD1⟩,by simp[intOf];omega⟩
     ·have HJF:Hid (j=fi):=za YES ⟨za HKD,by rw[← za HBJ];simp[h32,h02]⟩
      go_wp2
      exact bodyPost_ret (v:=.string tj) (by simp[results,results25,go_sem]) rfl ⟨by rw[za HTJ,za HJF],za HB1⟩
   ·have h32:(kd==3)=false:=by simpa using h3
    cases bj
    ·have HJF:Hid (j=fi):=za YES ⟨za HKD,by rw[← za HBJ];simp[h32]⟩
     go_wp2
     exact bodyPost_ret (v:=.string tj) (by simp[results,results25,go_sem]) rfl ⟨by rw[za HTJ,za HJF],za HB1⟩
    ·have hjf:j<fi:=za NO (fun h=>by have:=h.2;rw[← za HBJ] at this;simp[h32] at this)
     go_wp2
     exact⟨⟨j+1,by omega,by go_num,za HB1,za HD1⟩,by simp[intOf];omega⟩
  ·have hk2:(kj==kd)=false:=by simpa using hk
   have hjf:j<fi:=za NO (fun h=>hk ((za HKJ).trans h.1))
   clear hk
   go_wp2
   exact⟨⟨j+1,by omega,by go_num,za HB1,za HD1⟩,by simp[intOf];omega⟩
end Go.Proofs.YtcgecpoedojhjaaGreatDoor
