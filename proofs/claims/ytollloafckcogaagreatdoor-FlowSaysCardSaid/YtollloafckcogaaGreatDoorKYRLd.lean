/- The reference's sum of a list.  -/
import Derived.Laws.IdiomCopy
import Derived.Test.YtollloafckcogaaGreatDoorKYHPb
import Derived.Test.YtollloafckcogaaGreatDoorKYRLq
import Derived.Test.YtollloafckcogaaGreatDoorKYU2
namespace Go.Proofs.YtollloafckcogaaGreatDoor
open Go.RowKit
set_option linter.unusedVariables false
def SumAt (w:World) (b:Nat) (f:Rat):Prop:=RatIs w b f∨(f=0∧BlankAt w b)
theorem SumAt.but {w w':World} {b:Nat} {f:Rat} (h:SumAt w b f) (hb:But [] w w'):SumAt w' b f:=h.elim (fun h=>.inl (h.but hb)) (fun ⟨e,h⟩=>.inr ⟨e,h.but hb⟩)
theorem refAddS (xb yb:Nat) (f g:Rat) (w:World) (hx:SumAt w xb f) (hy:RatIs w yb g) (lf:LenU f 2000000) (lg:LenU g 2000000) :
  Calls Tryz.prog 53 #[.pointer (some ⟨xb,0,none⟩),.pointer (some ⟨yb,0,none⟩)] w fun e w'=>∃ zb,e=.returned (.pointer (some ⟨zb,0,none⟩))∧RatIs w' zb (f+g)∧But [] w w':=by
 rcases hx with h | ⟨h0,h⟩
 ·exact refAddQ xb yb f g w h hy lf lg
 ·exact (refAdd_blank xb yb f g w h0 h hy lf lg).mono fun e w' ⟨zb,he,hb,hr,_⟩=>⟨zb,he,hr,hb⟩
end Go.Proofs.YtollloafckcogaaGreatDoor

namespace Go.Proofs.YtollloafckcogaaGreatDoor
open Go.RowKit
set_option linter.unusedVariables false
theorem lenU_sg {F:Nat→Rat} {c:Nat}:∀ n,(∀ i,i<n→LenU (F i) c)→LenU (sgR F n) (n*(c+1)+1)
 | 0,_=>by
  have:=LenU.int (z:=0) (by decide)
  exact ⟨by show (wd 4294967296 0).length≤_;rw [wd_zero];simp,by show (wd 4294967296 1).length≤_;exact Nat.le_trans (wd_length_le (B:=4294967296) (by omega) 1 1 (by omega)) (by omega)⟩
 | n+1,h=>((lenU_sg n (fun i hi=>h i (by omega))).add (h n (by omega))).mono (by rw [Nat.succ_mul];omega)
end Go.Proofs.YtollloafckcogaaGreatDoor

namespace Go.Proofs.YtollloafckcogaaGreatDoor
def vsR (P R:Nat→Rat) (k:Nat):Rat:=sgR (fun i=>P i*discR R i) k
theorem vsR_next (P R:Nat→Rat) (k:Nat):vsR P R (k+1)=vsR P R k+P k*discR R k:=rfl
theorem disc_next (R:Nat→Rat) (k:Nat):discR R (k+1)=discR R k/(1+R k):=rfl
theorem disc_back (R:Nat→Rat) (k:Nat) (h:0<1+R k):discR R (k+1)*(1+R k)=discR R k:=by
 rw [disc_next]
 exact Rat.div_mul_cancel (fun e=>by rw [e] at h;exact absurd h (by decide))
theorem wf_is (P R:Nat→Rat) (n:Nat) (hg:∀ i,i+1<n→0<1+R i):∀ j,j<n→wfold P R ((downs n (n-(j+1))).map (·.1))*discR R (n-(j+1)-1)=vsR P R n-vsR P R (n-(j+1)):=by
 have step:∀ k,k<n→∀ W:Rat,W*discR R k=vsR P R n-vsR P R (k+1)→wstep P R W k*discR R (k-1)=vsR P R n-vsR P R k:=fun k hk W hW=>by
  unfold wstep
  have hn:=vsR_next P R k
  by_cases h0:k=0
  ·subst h0
   rw [if_pos rfl]
   show (W+P 0)*discR R 0=_
   grind
  ·rw [if_neg h0]
   obtain ⟨m,rfl⟩:∃ m,k=m+1:=⟨k-1,by omega⟩
   rw [Nat.add_sub_cancel]
   have hb:=disc_back R m (hg m hk)
   have hne:1+R m≠0:=fun e=>by have h:=hg m hk;rw [e] at h;exact absurd h (by decide)
   have hd:(W+P (m+1))/(1+R m)*(1+R m)=W+P (m+1):=Rat.div_mul_cancel hne
   generalize (W+P (m+1))/(1+R m)=V at *
   grind
 intro j
 induction j with
 | zero =>
  intro hj
  rw [downs_next n (n-1) (by omega),show n-1+1=n from by omega,downs_end,List.nil_append,List.map_singleton,← List.nil_append [(n-1:Nat)],wfold_snoc]
  refine step (n-1) (by omega) _ ?_
  rw [show n-1+1=n from by omega]
  show (0:Rat)*_=_
  grind
 | succ j ih =>
  intro hj
  have h:=ih (by omega)
  rw [downs_next n (n-(j+1+1)) (by omega),show n-(j+1+1)+1=n-(j+1) from by omega,List.map_append,List.map_cons,List.map_nil,wfold_snoc]
  refine step (n-(j+1+1)) (by omega) _ ?_
  rw [show n-(j+1+1)+1=n-(j+1) from by omega]
  rw [show n-(j+1)-1=n-(j+1+1) from by omega] at h
  exact h
theorem worth_is (P R:Nat→Rat) (n:Nat) (hn:0<n) (hg:∀ i,i+1<n→0<1+R i):wfold P R ((downs n 0).map (·.1))=vsR P R n:=by
 have h:=wf_is P R n hg (n-1) (by omega)
 rw [show n-(n-1+1)=0 from by omega] at h
 have h1:discR R (0-1)=1:=rfl
 have h2:vsR P R 0=0:=rfl
 rw [h1,h2] at h
 grind
theorem wfold_lenG (P R:Nat→Rat) (n:Nat) (hP:∀ t,t<n→Len (P t) 1) (hR:∀ t,t+1<n→Len (R t) 1) (hg:∀ t,t+1<n→0<1+R t) (l:List Nat) (hl:∀ t ∈ l,t<n):Len (wfold P R l) (5*l.length+1):=by
 obtain ⟨m,hm⟩:∃ m,m=l.length:=⟨_,rfl⟩
 induction m generalizing l with
 | zero =>
  have:l=[]:=List.length_eq_zero_iff.1 hm.symm
  subst this
  exact len_int 0 (by decide)
 | succ m ih =>
  obtain ⟨l',t,rfl⟩:∃ l' t,l=l'++[t]:=⟨l.dropLast,l.getLast (by intro e;rw [e] at hm;simp at hm),(List.dropLast_concat_getLast _).symm⟩
  have hm':m=l'.length:=by simp at hm;omega
  have ih':=ih l' (fun x hx=>hl x (by simp [hx])) hm'
  rw [wfold_snoc,List.length_append,List.length_singleton]
  have ht:=hl t (by simp)
  have ha:=len_add ih' (hP t ht) (5*l'.length+3) (by omega)
  unfold wstep
  split
  ·exact ha.mono (by omega)
  ·rename_i ht0
   have hpos:=hg (t-1) (by omega)
   exact len_div ha (len_add (len_int 1 (by decide)) (hR (t-1) (by omega)) 3 (by omega)) (Int.ne_of_gt (numPosL.2 hpos)) _ (by omega)
def grR (P R:Nat→Rat) (np:Nat):Nat→Rat
 | 0=>0
 | k+1=>(if k=0 then grR P R np k else grR P R np k*(1+R (k-1)))+(if k<np then P k else 0)
theorem gr_is (P R:Nat→Rat) (np:Nat):∀ k,(∀ i,i<k→0<1+R i)→grR P R np (k+1)*discR R k=vsR P R (min (k+1) np)
 | 0,_=>by
  show ((0:Rat)+(if 0<np then P 0 else 0))*discR R 0=_
  by_cases h:0<np
  ·rw [if_pos h,show min (0+1) np=0+1 from by omega,vsR_next]
   show _=(0:Rat)+_
   grind
  ·rw [if_neg h,show min (0+1) np=0 from by omega]
   show _=(0:Rat)
   grind
 | k+1,hg=>by
  have ih:=gr_is P R np k (fun i hi=>hg i (by omega))
  have hb:=disc_back R k (hg k (by omega))
  have e:grR P R np (k+1+1)=grR P R np (k+1)*(1+R k)+(if k+1<np then P (k+1) else 0):=rfl
  rw [e]
  by_cases h:k+1<np
  ·rw [if_pos h,show min (k+1+1) np=(k+1)+1 from by omega,vsR_next]
   rw [show min (k+1) np=k+1 from by omega] at ih
   grind
  ·rw [if_neg h,show min (k+1+1) np=min (k+1) np from by omega]
   grind
theorem gr_len (P R:Nat→Rat) (np n:Nat) (hP:∀ t,t<np→Len (P t) 1) (hR:∀ t,t<n→Len (R t) 1):∀ k,k≤n+1→Len (grR P R np k) (6*k+1)
 | 0,_=>len_int 0 (by decide)
 | k+1,hk=>by
  have ih:=gr_len P R np n hP hR k (by omega)
  have hp:Len (if k<np then P k else 0) 1:=by
   split
   ·exact hP k (by assumption)
   ·exact len_int 0 (by decide)
  show Len ((if k=0 then grR P R np k else grR P R np k*(1+R (k-1)))+_) _
  split
  ·exact len_add ih hp _ (by omega)
  ·exact len_add (len_mul ih (len_add (len_int 1 (by decide)) (hR (k-1) (by omega)) 3 (by omega)) (6*k+1+3) (by omega)) hp _ (by omega)
end Go.Proofs.YtollloafckcogaaGreatDoor
