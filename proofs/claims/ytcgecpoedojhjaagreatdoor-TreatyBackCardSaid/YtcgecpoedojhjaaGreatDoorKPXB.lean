/- A line without what its kind has, as the -/
import Derived.Lib.ConvBytes
import Derived.Test.YtcgecpoedojhjaaGreatDoorKPF8
namespace Go.Proofs.YtcgecpoedojhjaaGreatDoor
open Go.Proofs.Tryz
open Go.RowKit
set_option maxHeartbeats 8000000
set_option maxRecDepth 100000
theorem ziq (s:Bool) (x y:Int) (p:Option Addr) (fr li ti pr:Int) (to:ByteArray) (w:World) :
  Calls prog 50 #[zq 1 s x y p fr li ti pr to] w fun e w'=>e=.returned (zq 1 false 0 0 none fr li ti pr to)∧But [] w w':=by
 unfold zq
 go_enter func50,ntmps50
 go_wp2
 exact bodyPost_ret (v:=zq 1 false 0 0 none fr li ti pr to) (by simp[results,results50,go_sem,zq]) rfl ⟨rfl,((But.refl _ _).alloc _).alloc _⟩
theorem zio (s:Bool) (x y:Int) (p:Option Addr) (fr li ti pr:Int) (to:ByteArray) (w:World) :
  Calls prog 50 #[zq 2 s x y p fr li ti pr to] w fun e w'=>e=.returned (zq 2 s x y p fr 0 0 pr to)∧But [] w w':=by
 unfold zq
 go_enter func50,ntmps50
 go_wp2
 exact bodyPost_ret (v:=zq 2 s x y p fr 0 0 pr to) (by simp[results,results50,go_sem,zq]) rfl ⟨rfl,((But.refl _ _).alloc _).alloc _⟩
theorem zfb (s:Bool) (x y:Int) (p:Option Addr) (fr li ti pr:Int) (to:ByteArray) (w:World) :
  Calls prog 50 #[zq 3 s x y p fr li ti pr to] w fun e w'=>e=.returned (zq 3 s x y p 0 0 0 0 to)∧But [] w w':=by
 unfold zq
 go_enter func50,ntmps50
 go_wp2
 exact bodyPost_ret (v:=zq 3 s x y p 0 0 0 0 to) (by simp[results,results50,go_sem,zq]) rfl ⟨rfl,((But.refl _ _).alloc _).alloc _⟩
theorem zgh (s:Bool) (x y:Int) (p:Option Addr) (fr li ti pr:Int) (to:ByteArray) (w:World) :
  Calls prog 50 #[zq 4 s x y p fr li ti pr to] w fun e w'=>e=.returned (zq 4 s x y p 0 0 ti pr to)∧But [] w w':=by
 unfold zq
 go_enter func50,ntmps50
 go_wp2
 exact bodyPost_ret (v:=zq 4 s x y p 0 0 ti pr to) (by simp[results,results50,go_sem,zq]) rfl ⟨rfl,((But.refl _ _).alloc _).alloc _⟩
theorem oh (kd:Int) (s:Bool) (x y:Int) (p:Option Addr) (fr li ti pr:Int) (to:ByteArray) (f:Rat) (w:World) (hf:zi w (.agg #[.bool s,.int .u64 x,.int .u64 y,.pointer p]) f) (b:Bool) (hb:b=decide (f.num=0∧fr=0∧li=0∧ti=0∧pr=0)) :
  Calls prog 51 #[zq kd s x y p fr li ti pr to] w fun e w'=>e=.returned (.bool b)∧But [] w w':=by
 have SG:=hide (fun W (h:But [] w W)=>iw _ f W (hf.but h))
 have HBB:=hide hb
 clear hf hb
 unfold zq
 go_enter func51,ntmps51
 go_wp2_with fail
 refine (za SG _ ((But.refl _ _).alloc _)).mono ?_
 rintro e w1 ⟨rfl,hb1⟩
 have B1:=hide (((But.refl [] w).alloc (.cells #[.int .i64 kd,.bool s,.int .u64 x,.int .u64 y,.pointer p,.int .i64 fr,.int .i64 li,.int .i64 ti,.int .i64 pr,.string to] 37)).trans' hb1)
 have c5:w1.cell? ⟨w.heap.size,5,none⟩=some (.int .i64 fr):=hb1.zb (by simp) (by simp)
 have c6:w1.cell? ⟨w.heap.size,6,none⟩=some (.int .i64 li):=hb1.zb (by simp) (by simp)
 have c7:w1.cell? ⟨w.heap.size,7,none⟩=some (.int .i64 ti):=hb1.zb (by simp) (by simp)
 have c8:w1.cell? ⟨w.heap.size,8,none⟩=some (.int .i64 pr):=hb1.zb (by simp) (by simp)
 generalize w.heap.size=g at c5 c6 c7 c8 ⊢
 clear hb1 SG
 by_cases h0:f.num=0
 ·have hs:f.num.sign=0:=by rw[h0];rfl
  rw[hs]
  by_cases h1:fr=0∧li=0∧ti=0∧pr=0
  ·obtain⟨rfl,rfl,rfl,rfl⟩:=h1
   obtain rfl:b=true:=by rw[za HBB];exact decide_eq_true ⟨h0,rfl,rfl,rfl,rfl⟩
   go_wp2
   all_goals exact bodyPost_ret (v:=.bool true) (by simp[results,results51,go_sem]) rfl ⟨rfl,za B1⟩
  ·obtain rfl:b=false:=by rw[za HBB];exact decide_eq_false (fun h=>h1 h.2)
   go_wp2
   all_goals exact bodyPost_ret (v:=.bool false) (by simp[results,results51,go_sem];try omega) rfl ⟨rfl,za B1⟩
 ·have hs:(f.num.sign==0)=false:=beq_eq_false_iff_ne.2 (fun h=>h0 (Int.sign_eq_zero_iff_zero.1 h))
  obtain rfl:b=false:=by rw[za HBB];exact decide_eq_false (fun h=>h0 h.1)
  generalize f.num.sign=sg at *
  go_wp2
  all_goals exact bodyPost_ret (v:=.bool false) (by simp[results,results51,go_sem]) rfl ⟨rfl,za B1⟩
def okB (b:Nat):Prop:=(97≤b∧b≤122)∨(48≤b∧b≤57)∨b=45
def kr (s:ByteArray):Prop:=(∀ j,j<s.size→okB (s.data.toList.getD j 0).toNat)∧1≤s.size∧s.size≤20
theorem zpk (w:World) (e:TypeId) (s:ByteArray):But [] w (Lib.bytesWorld w e s) :=
 ⟨rfl,rfl,rfl,by rw[Lib.bytesWorld_size];omega,fun k hk _=>Lib.bytesWorld_at_old w e s k hk⟩
theorem qw (s:ByteArray) (w:World) (hs:kr s) :
  Calls prog 47 #[.string s] w fun e w'=>e=.returned (.bool true)∧But [] w w':=by
 obtain⟨hall,h1,h2⟩:=hs
 have hcv:=Lib.run_convert_string_bytes (P:=prog) w 9 47 5 s underlying9 underlying47 underlying5
 have HC:Hid (∀ j,j<s.size→(Lib.bytesWorld w 5 s).cell? ⟨w.heap.size,j,none⟩=some (.int .u8 (s.data.toList.getD j 0).toNat)):=fun j hj=>Lib.bytesWorld_cell w 5 s j hj
 have HB:=hide (zpk w 5 s)
 have HA:=hide hall
 generalize Lib.bytesWorld w 5 s=V at *
 generalize grownCap w s.size 0 5 = gc at *
 generalize hn:s.size=n at *
 generalize w.heap.size=g at HC hcv
 clear hall
 go_enter func47,ntmps47
 go_wp2
 go_loopw [8] (fun i wr=>∃ k:Nat,k≤n∧i=.int .i64 (k:Int)∧wr=V) (fun i _=>n-(intOf i).toNat)
 case atStart=>exact⟨0,Nat.zero_le _,rfl,rfl⟩
 case round =>
  obtain⟨k,hk,rfl,rfl⟩:=hrel
  by_cases hlt:k<n
  ·have c0:=za HC k hlt
   have ho:=za HA k hlt
   generalize (s.data.toList.getD k 0).toNat=b at *
   unfold okB at ho
   rcases ho with ⟨o1,o2⟩|⟨o1,o2⟩|rfl
   ·go_wp2
    all_goals exact⟨⟨k+1,by omega,by go_num,by first | trivial|rfl⟩,by simp[intOf];omega⟩
   ·go_wp2
    all_goals exact⟨⟨k+1,by omega,by go_num,by first | trivial|rfl⟩,by simp[intOf];omega⟩
   ·go_wp2
    all_goals exact⟨⟨k+1,by omega,by go_num,by first | trivial|rfl⟩,by simp[intOf];omega⟩
  ·obtain rfl:k=n:=by omega
   have hsz:(s.size:Int)=(k:Int):=by omega
   go_wp2
   all_goals exact bodyPost_ret (v:=.bool true) (by simp[results,results47,go_sem];omega) rfl ⟨rfl,za HB⟩
theorem zpu (s:ByteArray) (w:World) (hs:¬ kr s) (hbig:s.size<9223372036854775808) :
  Calls prog 47 #[.string s] w fun e w'=>e=.returned (.bool false)∧But [] w w':=by
 have hcv:=Lib.run_convert_string_bytes (P:=prog) w 9 47 5 s underlying9 underlying47 underlying5
 have HC:Hid (∀ j,j<s.size→(Lib.bytesWorld w 5 s).cell? ⟨w.heap.size,j,none⟩=some (.int .u8 (s.data.toList.getD j 0).toNat)):=fun j hj=>Lib.bytesWorld_cell w 5 s j hj
 have HB:=hide (zpk w 5 s)
 have HS:=hide hs
 generalize Lib.bytesWorld w 5 s=V at *
 generalize grownCap w s.size 0 5 = gc at *
 generalize hn:s.size=n at *
 generalize w.heap.size=g at HC hcv
 clear hs
 go_enter func47,ntmps47
 go_wp2
 go_loopw [8] (fun i wr=>∃ k:Nat,k≤n∧i=.int .i64 (k:Int)∧Hid (∀ j,j<k→okB (s.data.toList.getD j 0).toNat)∧wr=V) (fun i _=>n-(intOf i).toNat)
 case atStart=>exact⟨0,Nat.zero_le _,rfl,fun j hj=>absurd hj (by omega),rfl⟩
 case round =>
  obtain⟨k,hk,rfl,HO,rfl⟩:=hrel
  by_cases hlt:k<n
  ·have c0:=za HC k hlt
   have HN:okB (s.data.toList.getD k 0).toNat→Hid (∀ j,j<k+1→okB (s.data.toList.getD j 0).toNat):=fun hk1 j hj=>by
    rcases Nat.lt_or_ge j k with h | h
    ·exact za HO j h
    ·obtain rfl:j=k:=by omega
     exact hk1
   have HNN:=hide HN
   clear HN
   have hb256:(s.data.toList.getD k 0).toNat<256:=(s.data.toList.getD k 0).toNat_lt
   generalize (s.data.toList.getD k 0).toNat=b at *
   by_cases ho:okB b
   ·have HN:=za HNN ho
    clear HNN
    unfold okB at ho
    rcases ho with ⟨o1,o2⟩|⟨o1,o2⟩|rfl
    ·go_wp2
     all_goals exact⟨⟨k+1,by omega,by go_num,za HN,by first | trivial|rfl⟩,by simp[intOf];omega⟩
    ·go_wp2
     all_goals exact⟨⟨k+1,by omega,by go_num,za HN,by first | trivial|rfl⟩,by simp[intOf];omega⟩
    ·go_wp2
     all_goals exact⟨⟨k+1,by omega,by go_num,za HN,by first | trivial|rfl⟩,by simp[intOf];omega⟩
   ·clear HNN
    unfold okB at ho
    have hc:b<45∨(45<b∧b<48)∨(57<b∧b<97)∨122<b:=by omega
    rcases hc with c|⟨c,c'⟩|⟨c,c'⟩ | c
    ·clear ho
     have h45:((b:Int)==45)=false:=beq_eq_false_iff_ne.2 (by omega)
     go_wp2
     all_goals first | (go_ret;exact⟨rfl,za HB⟩) | (exfalso;omega)
    ·clear ho
     have h45:((b:Int)==45)=false:=beq_eq_false_iff_ne.2 (by omega)
     go_wp2
     all_goals first | (go_ret;exact⟨rfl,za HB⟩) | (exfalso;omega)
    ·clear ho
     have h45:((b:Int)==45)=false:=beq_eq_false_iff_ne.2 (by omega)
     have f57:¬ (b:Int)≤57:=by omega
     have f97:¬ (97:Int)≤(b:Int):=by omega
     have f48:(48:Int)≤(b:Int):=by omega
     go_wp2
     all_goals first | (go_ret;exact⟨rfl,za HB⟩) | (exfalso;omega)
    ·clear ho
     have h45:((b:Int)==45)=false:=beq_eq_false_iff_ne.2 (by omega)
     have f57:¬ (b:Int)≤57:=by omega
     have f122:¬ (b:Int)≤122:=by omega
     have f97:(97:Int)≤(b:Int):=by omega
     have f48:(48:Int)≤(b:Int):=by omega
     go_wp2
     all_goals first | (go_ret;exact⟨rfl,za HB⟩) | (exfalso;omega)
  ·obtain rfl:k=n:=by omega
   have hbad:k<1∨20<k:=by
    rcases Nat.lt_or_ge k 1 with h | h
    ·exact .inl h
    ·rcases Nat.lt_or_ge 20 k with h2 | h2
     ·exact .inr h2
     ·exact absurd ⟨by rw[hn];exact za HO,by omega,by omega⟩ (za HS)
   have hsz:(s.size:Int)=(k:Int):=by omega
   rcases hbad with h | h
   ·go_wp2
    all_goals exact bodyPost_ret (v:=.bool false) (by simp[results,results47,go_sem];try omega) rfl ⟨rfl,za HB⟩
   ·go_wp2
    all_goals exact bodyPost_ret (v:=.bool false) (by simp[results,results47,go_sem];try omega) rfl ⟨rfl,za HB⟩
end Go.Proofs.YtcgecpoedojhjaaGreatDoor
