/- Sums, rows and matrices of chances looke -/
import Derived.Test.YthlnhheblhapgaaGreatDoorKMODs
import Derived.Test.YthlnhheblhapgaaGreatDoorKMOGr
namespace Go.Proofs.YthlnhheblhapgaaGreatDoor
open Go.RowKit
set_option maxHeartbeats 16000000
set_option maxRecDepth 100000
theorem chainSum_any (v:Value) (fs:List Rat) (w:World) (hv:FracsAt w v fs) (hn:fs.length≤1000) (lf:∀ k:Nat,Len (fs[k]?.getD 0) 400000) (ls:∀ k,k≤fs.length→Len (sgR (atR fs) k) 400000) :
  Calls Tryz.prog 33 #[v] w fun e w'=>∃ s x y p,e=.returned (.agg #[.bool s,.int .u64 x,.int .u64 y,.pointer p])∧FracAt w' (.agg #[.bool s,.int .u64 x,.int .u64 y,.pointer p]) (sgR (atR fs) fs.length)∧But [] w w':=by
 obtain ⟨q,cap,rfl,hcap,-⟩:=id hv
 obtain ⟨n,hN⟩:∃ n,n=fs.length:=⟨_,rfl⟩
 rw [← hN] at hn hcap ls ⊢
 rw [← hN] at hv
 have HV:=hide hv
 have LA:=hide lf
 have LS:=hide ls
 have HN:=hide hN
 obtain ⟨V1,hV1⟩:∃ V1,V1=w.alloc (.cells #[.bool false,.int .u64 0,.int .u64 0,.pointer none] 41):=⟨_,rfl⟩
 obtain ⟨V2,hV2⟩:∃ V2,V2=V1.alloc (.cells #[.bool false,.int .u64 0,.int .u64 0,.pointer none] 41):=⟨_,rfl⟩
 have b1:But [] w V1:=by rw [hV1];exact (But.refl _ _).alloc _
 have b2:But [] V1 V2:=by rw [hV2];exact (But.refl _ _).alloc _
 have e1:V1.heap.size=w.heap.size+1:=by rw [hV1];simp
 have x2:BoxAt V2 w.heap.size 0:=by
  have h:BoxAt V1 w.heap.size 0:=by rw [hV1];exact BoxAt.new w false 0 0 none 0 41 (zero_at _)
  exact h.but b2
 have x3:BoxAt V2 (w.heap.size+1) 0:=by
  have h:BoxAt V2 V1.heap.size 0:=by rw [hV2];exact BoxAt.new V1 false 0 0 none 0 41 (zero_at _)
  rw [e1] at h
  exact h
 have X2:=hide x2
 have X3:=hide x3
 have B0:=hide (b1.trans' b2)
 have HV2:=hide (hV2.trans (by rw [hV1]))
 clear hv lf ls hN b1 b2 e1 x2 x3 hV1 hV2 hcap
 go_enter Tryz.func33,Tryz.ntmps33
 go_wp2
 rw [← unhide HV2]
 generalize hg2:w.heap.size=g2 at *
 have Q2:Hid (w.heap.size≤g2):=by show _≤_;omega
 obtain ⟨g3,hg3⟩:∃ g3,g3=g2+1:=⟨_,rfl⟩
 rw [← hg3] at X3 ⊢
 have hne:g2<g3:=by omega
 clear HV2 hg2 hg3
 go_loopw [8] (fun iv wr=>∃ k:Nat,k≤n∧iv=.int .i64 (k:Int)∧Hid (BoxAt wr g3 (sgR (atR fs) k)∧BoxAt wr g2 0∧But [] w wr)) (fun iv _=>n-(intOf iv).toNat)
 case atStart=>exact ⟨0,Nat.zero_le _,rfl,unhide X3,unhide X2,unhide B0⟩
 case round =>
  obtain ⟨k,hk,rfl,HI⟩:=hrel
  rename World=>wr
  clear X3 X2 B0
  by_cases hlt:k<n
  ·have hfx:=(unhide HV).but (unhide HI).2.2
   rcases hfx.open with ⟨er,-⟩ | ⟨-,rb,roff,rcap2,er,-,-⟩
   ·exfalso
    have:=unhide HN
    rw [er] at this
    simp at this
    omega
   simp only [Value.slice.injEq] at er
   obtain ⟨rfl,-,rfl⟩:=er
   obtain ⟨sr,xr,yr,pr,⟨r0,r1,r2,r3⟩,hfr⟩:=hfx.get k hlt
   have bA:But [] wr (wr.alloc (.cells #[.bool sr,.int .u64 xr,.int .u64 yr,.pointer pr] 41)):=(But.refl _ _).alloc _
   have x5:=BoxAt.new wr sr xr yr pr _ 41 hfr
   obtain ⟨h3,h2,hbw⟩:=unhide HI
   obtain ⟨⟨t3,a3,b3,q3,⟨c0,c1,c2,c3⟩,hf3⟩,z3⟩:=h3
   have AD:=hide (in_parts (fracAdd_any _ _ _ _ _ (hf3.but bA) (hfr.but bA) ((unhide LS k hk).mono (by omega)) ((unhide LA k).mono (by omega))))
   have X3:=hide (((unhide HI).1).but bA)
   have X2:=hide (h2.but bA)
   have BW:=hide (hbw.trans' bA)
   have l5:g3<wr.heap.size:=lt_of_cell c0
   replace c0:=bA.cell_some c0 (by simp)
   replace c1:=bA.cell_some c1 (by simp)
   replace c2:=bA.cell_some c2 (by simp)
   replace c3:=bA.cell_some c3 (by simp)
   clear hfx hfr h2 hbw hf3 bA HI x5 z3
   go_wp2_with fail
   refine (unhide AD).mono ?_
   rintro e w2 ⟨s7,x7,y7,p7,rfl,hf7,hb7⟩
   obtain ⟨⟨t3,a3,b3,q3,⟨c0,c1,c2,c3⟩,-⟩,z3⟩:=(unhide X3).but hb7
   have Y3:=hide ((unhide X3).but hb7)
   have Y2:=hide ((unhide X2).but hb7)
   have YB:=hide ((unhide BW).trans' hb7)
   have HF7:=hide hf7
   clear hf7 hb7 AD X3 X2 BW r0 r1 r2 r3
   generalize wr.heap.size=g5 at *
   go_wp2
   have hP:=put4_but w2 g3 s7 x7 y7 p7
   refine ⟨⟨k+1,by omega,by go_num,(unhide Y3).put (unhide HF7),(unhide Y2).beside hP (by simp;omega) (fun g hg=>by simp at hg;subst hg;exact (unhide Y3).bool),(unhide YB).trans hP (fun x hx=>by simp at hx;subst hx;exact .inr (by have:=unhide Q2;omega))⟩,by simp [intOf];omega⟩
  ·obtain rfl:k=n:=by omega
   obtain ⟨⟨⟨t6,a6,b6,q6',⟨d0,d1,d2,d3⟩,hf6⟩,z6⟩,⟨⟨t2,a2,b2,q2,⟨c0,c1,c2,c3⟩,-⟩,z2⟩,hbw⟩:=unhide HI
   have HF6:=hide hf6
   have HBW:=hide hbw
   have P2:Hid (P4 wr g2 t2 a2 b2 q2):=⟨c0,c1,c2,c3⟩
   clear HI hf6 hbw
   go_wp2
   have hP:=put4_but wr g2 t6 a6 b6 q6'
   obtain ⟨m0,m1,m2,m3⟩:=put4_p4 wr g2 t6 a6 b6 q6' (unhide P2)
   have hF:But [] w (put4 wr g2 t6 a6 b6 q6'):=(unhide HBW).trans hP (fun x hx=>by simp at hx;subst hx;exact .inr (unhide Q2))
   have hff:=(unhide HF6).over (unhide P2).1 hP
   change bodyPost _ _ _ _ _ (put4 wr g2 t6 a6 b6 q6')
   generalize put4 wr g2 t6 a6 b6 q6'=F at *
   exact bodyPost_ret (v:=.agg #[.bool t6,.int .u64 a6,.int .u64 b6,.pointer q6']) (by simp [results,Tryz.results33,go_sem,m0,m1,m2,m3]) rfl ⟨_,_,_,_,rfl,hff,hF⟩
end Go.Proofs.YthlnhheblhapgaaGreatDoor
