/- A law is nowhere more likely above just if both stand beside each other, the first never above the second: the law, at every two rows of pairs. -/
import Derived.Test.YtikgmhpbdcdogaaGreatDoorYKX
import Derived.Test.YtikgmhpbdcdogaaGreatDoorYOG
namespace Go.Proofs.YtikgmhpbdcdogaaGreatDoor
open Go.RowKit

theorem besideLaw_many (a : Option Addr) (n c : Nat) (b : Option Addr) (m d : Nat) (w : World) (hn : 20 < n ∨ 20 < m) :
  Calls Tryz.prog 5 #[.slice a n c,.slice b m d] w fun e w' => e = .returned (.bool true)∧But [] w w':=by
 go_enter Tryz.func5,Tryz.ntmps5
 by_cases h : 20 < n
 ·go_wp2
  go_ret
  exact ⟨rfl,But.refl _ _⟩
 ·have h2 : 20 < m:=by omega
  go_wp2
  go_ret
  exact ⟨rfl,But.refl _ _⟩
/-- what the matrix of two laws is, and how their means stand -/
theorem beside_facts (fs gs : List Rat) (N : Nat) (hN : N = max fs.length gs.length) (hbe : bothE fs gs = 0) (h : ∀ j,j < N→¬ 0 < upS (moreR fs gs) N j) : Beside (atR fs) (atR gs) fs.length gs.length∧meanR fs (fun k => (k : Int)) fs.length ≤ meanR gs (fun k => (k : Int)) gs.length:=by
 have hca : chkE fs = 0:=by
  unfold bothE at hbe
  by_cases h : chkE fs = 0
  ·exact h
  ·rw [if_pos h] at hbe; exact hbe
 have hcb : chkE gs = 0:=by
  unfold bothE at hbe
  rw [if_neg (by rw [hca]; simp)] at hbe
  exact hbe
 obtain ⟨a0,a1,apos,aone⟩:=chk_some hca
 obtain ⟨b0,b1,bpos,bone⟩:=chk_some hcb
 have out : ∀ (l : List Rat) k,l.length ≤ k→atR l k = 0:=fun l k hk => by unfold atR; rw [List.getElem?_eq_none hk]; rfl
 have pos : ∀ (l : List Rat),(∀ f ∈ l,0 ≤ f)→∀ i,0 ≤ atR l i:=fun l hl i => by
  by_cases h : i < l.length
  ·exact nonneg_at hl i h
  ·rw [out l i (by omega)]; decide
 have ext : ∀ (l : List Rat) (g : Nat→Rat),l.length ≤ N→sgR (fun k => atR l k * g k) N = sgR (fun k => atR l k * g k) l.length:=fun l g hl => by
  have:=sgR_more (fun k => atR l k * g k) l.length (N - l.length) (fun k hk => by
   show atR l k * g k = 0
   rw [out l k hk,Rat.zero_mul])
  rw [show l.length + (N - l.length) = N from by omega] at this
  exact this
 have ext1 : ∀ (l : List Rat),l.length ≤ N→sgR (atR l) N = sgR (atR l) l.length:=fun l hl => by
  have:=sgR_more (atR l) l.length (N - l.length) (out l)
  rw [show l.length + (N - l.length) = N from by omega] at this
  exact this
 have sa : sgR (atR fs) fs.length = 1:=by rw [← aone,sumR_all]; rfl
 have sb : sgR (atR gs) gs.length = 1:=by rw [← bone,sumR_all]; rfl
 have sa' : sgR (atR fs) N = 1:=by rw [ext1 fs (by omega),sa]
 have sb' : sgR (atR gs) N = 1:=by rw [ext1 gs (by omega),sb]
 have hle:=always_le (atR fs) (atR gs) N sa' sb' (fun k hk => out fs k (by omega)) (fun k hk => out gs k (by omega)) h
 refine ⟨beside_all (atR fs) (atR gs) fs.length gs.length (pos fs apos) (pos gs bpos) sa sb hle,?_⟩
 have hm:=mean_le (atR fs) (atR gs) N sa' sb' hle
 rw [ext fs (fun k => ((k : Int) : Rat)) (by omega),ext gs (fun k => ((k : Int) : Rat)) (by omega)] at hm
 rw [meanR_is,meanR_is]
 exact hm
theorem matF_at (a b : Nat→Rat) (n m i k : Nat) (hi : i < n) (hk : k < m) : matF a b m n (i * m + k) = besM a b i k:=by
 have hkm : i * m + m ≤ n * m:=by
  have:=Nat.mul_le_mul_right m (show i + 1 ≤ n by omega)
  rw [Nat.succ_mul] at this
  exact this
 unfold matF
 rw [if_pos (by omega)]
 have h1 : (i * m + k) / m = i:=by
  rw [Nat.div_eq_iff (by omega)]
  constructor
  ·omega
  ·omega
 have h2 : (i * m + k) % m = k:=by
  have:=Nat.div_add_mod (i * m + k) m
  rw [h1,Nat.mul_comm m i] at this
  omega
 rw [h1,h2]
set_option maxHeartbeats 32000000 in
set_option maxRecDepth 100000 in
theorem besideLaw_few (va vb : Value) (ps qs : List (Int × Int)) (mx : Int) (w : World) (ha : QsAt w va ps) (hb : QsAt w vb qs) (hf : ∀ q ∈ ps,Fits q) (hg : ∀ q ∈ qs,Fits q) (hn : ps.length ≤ 20) (hm : qs.length ≤ 20)
  (htab : Lib.TabIs Tryz.prog w "internal/strconv.uint64pow10" .u64 Lib.pow10Tab) (hmx : w.cell? ⟨4,0,none⟩ = some (.int .i64 mx)) (hgE : w.cell? ⟨0,0,none⟩ = some (.iface 178 (.agg #[.pointer (some ⟨7,35,none⟩)]))) :
  Calls Tryz.prog 5 #[va,vb] w fun e w' => e = .returned (.bool true)∧But [] w w':=by
 have LA:=hide (fun W (h : But [] w W) => plainLaw_any va ps W (ha.but h) hf (by omega))
 have LB:=hide (fun W (h : But [] w W) => plainLaw_any vb qs W (hb.but h) hg (by omega))
 have lf:=fits_lenK hf
 have lg:=fits_lenK hg
 have DI:=hide (fun W (h : But [] w W) => dice_any mx W (TabIs.but htab h) (h.cell_some hmx (by simp)))
 have TE:=hide (fun W (h : But [] w W) => tell_errno 8 W (h.cell_some hgE (by simp)))
 have HT:=hide htab
 obtain ⟨fs,hfs⟩ : ∃ fs,fs = ps.map qf:=⟨_,rfl⟩
 obtain ⟨gs,hgs⟩ : ∃ gs,gs = qs.map qf:=⟨_,rfl⟩
 have hln : fs.length = ps.length:=by rw [hfs]; simp
 have hlm : gs.length = qs.length:=by rw [hgs]; simp
 rw [← hfs] at lf LA
 rw [← hgs] at lg LB
 obtain ⟨sl,cap,rfl,-,-⟩:=id ha
 obtain ⟨sl2,cap2,rfl,-,-⟩:=id hb
 obtain ⟨n,hnq⟩ : ∃ n,n = ps.length:=⟨_,rfl⟩
 obtain ⟨m,hmq⟩ : ∃ m,m = qs.length:=⟨_,rfl⟩
 rw [← hnq] at hn hln LA
 rw [← hmq] at hm hlm LB
 rw [← hnq,← hmq]
 clear ha hb hf hg htab hmx hgE hfs hgs hnq hmq
 go_enter Tryz.func5,Tryz.ntmps5
 go_wp2_with fail
 refine (unhide LA _ (But.refl _ _)).mono ?_
 rintro e w1 ⟨x,rfl,hx,hb1⟩
 have B1:=hide hb1
 have HX1:=hide hx
 clear hb1 hx LA
 go_wp2_with fail
 refine (unhide LB _ (unhide B1)).mono ?_
 rintro e w2 ⟨y,rfl,hy,hb2⟩
 have B2:=hide ((unhide B1).trans' hb2)
 have HX:=hide ((unhide HX1).but hb2)
 have HY:=hide hy
 obtain ⟨N,hN⟩ : ∃ N,N = max fs.length gs.length:=⟨_,rfl⟩
 have AL:=hide (fun W (h : But [] w2 W) => always_any x y fs gs N W ((unhide HX).but h) (hy.but h) (by omega) (by omega) lf lg hN)
 clear hb2 hy LB HX1 B1
 by_cases hbe : bothE fs gs = 0
 ·have hca : chkE fs = 0:=by
   by_cases h : chkE fs = 0
   ·exact h
   ·unfold bothE at hbe; rw [if_pos h] at hbe; exact hbe
  have hcb : chkE gs = 0:=by
   unfold bothE at hbe
   rw [if_neg (by rw [hca]; simp)] at hbe
   exact hbe
  rcases (unhide HX).open with ⟨e0,-⟩ | ⟨hpos,ba,oa,ca,rfl,hcap,-⟩
  ·rw [e0] at hca
   exact absurd hca (by decide)
  rcases (unhide HY).open with ⟨e0,-⟩ | ⟨hpos2,bb,ob,cb,rfl,hcap2,-⟩
  ·rw [e0] at hcb
   exact absurd hcb (by decide)
  have BO:=hide (fun W (h : But [] w2 W) => beside_ok ba oa ca fs.length bb ob cb gs.length fs gs N W ((unhide HX).but h) ((unhide HY).but h) rfl rfl (by omega) (by omega) lf lg hN hbe)
  have MX:=hide (fun W (h : But [] w2 W) => lawMean_any _ fs 1 W ((unhide HX).but h) (by omega) lf (by omega))
  have MY:=hide (fun W (h : But [] w2 W) => lawMean_any _ gs 1 W ((unhide HY).but h) (by omega) lg (by omega))
  rw [hca] at MX
  rw [hcb] at MY
  have BF:=hide (beside_facts fs gs N hN hbe)
  have LMX : Hid (Len (meanR fs (fun k => (k : Int)) fs.length) 1000):=(len_meanR 1 fs (fun k => (k : Int)) lf (fun k hk => by omega) fs.length (Nat.le_refl _)).mono (by omega)
  have LMY : Hid (Len (meanR gs (fun k => (k : Int)) gs.length) 1000):=(len_meanR 1 gs (fun k => (k : Int)) lg (fun k hk => by omega) gs.length (Nat.le_refl _)).mono (by omega)
  have BL:=hide (bes_len (atR fs) (atR gs) fs.length gs.length (fun k => len_at lf (Nat.le_refl _) k) (fun k => len_at lg (Nat.le_refl _) k))
  obtain ⟨-,-,apos,-⟩:=chk_some hca
  obtain ⟨-,-,bpos,-⟩:=chk_some hcb
  have APOS:=hide apos
  have BPOS:=hide bpos
  have HLF:=hide lf
  have HLG:=hide lg
  rw [hbe] at AL
  clear hca hcb hbe apos bpos hN lf lg
  rw [hln] at HX BO MX hcap hpos BF LMX BL
  rw [hlm] at HY BO MY hcap2 hpos2 BF LMY BL
  rw [hln,hlm] at AL
  have HLN:=hide hln
  have HLM:=hide hlm
  rw [hln,hlm]
  clear hln hlm
  go_wp2_with fail
  refine (unhide AL _ (But.refl _ _)).mono ?_
  rintro e w3 ⟨bl,f,rfl,hbl,hb3⟩
  have HBL:=hide (hbl (by first | rfl | trivial))
  have T3:=hide hb3
  clear hb3 hbl AL
  rw [show errV 0 = .nilIface from rfl]
  go_wp2_with fail
  refine (unhide BO _ (unhide T3)).mono ?_
  rintro e w4 ⟨hb4,hbo⟩
  have T4:=hide ((unhide T3).trans' hb4)
  clear hb4 T3 BO
  rcases hbo with ⟨hno,rfl⟩ | ⟨hyes,go,ga,rfl,hmat⟩
  ·obtain rfl : bl = false:=by
    cases bl with
    | false => rfl
    | true => exact absurd ((unhide HBL).1 rfl) hno
   clear hno HBL
   go_wp2_with fail
   refine (unhide DI _ ((unhide B2).trans' (unhide T4))).mono ?_
   rintro e w5 ⟨rfl,hb5⟩
   have T5:=hide ((unhide T4).trans' hb5)
   clear hb5 T4
   go_wp2_with fail
   refine (unhide TE _ ((unhide B2).trans' (unhide T5))).mono ?_
   rintro e w6 ⟨rfl,hb6⟩
   have T6:=hide ((unhide T5).trans' hb6)
   clear hb6 T5
   go_wp2
   go_ret
   exact ⟨rfl,(unhide B2).trans' (unhide T6)⟩
  ·obtain rfl : bl = true:=(unhide HBL).2 hyes
   obtain ⟨hbs,hmean⟩:=unhide BF hyes
   have gal : ga < w4.heap.size:=by
    obtain ⟨s,hs⟩:=hmat.all.bool (Nat.mul_pos hpos hpos2)
    exact lt_of_cell hs
   have MT:=hide hmat
   have HBS:=hide hbs
   have HMEAN:=hide hmean
   have hnm : n * m ≤ 20 * 20:=Nat.mul_le_mul hn hm
   have MG : Hid (∀ W,But [] w4 W→Calls Tryz.prog 27 #[.slice (some ⟨go,0,none⟩) n n,.slice (some ⟨ba,oa,none⟩) n ca,.slice (some ⟨bb,ob,none⟩) m cb] W fun e w' => e = .returned (.bool true)∧But [] W w'):=fun W hb => by
    have pA : ∀ i,0 ≤ atR fs i:=fun i => by
     by_cases h : i < fs.length
     ·exact nonneg_at (unhide APOS) i h
     ·unfold atR; rw [List.getElem?_eq_none (by omega)]; decide
    have pB : ∀ i,0 ≤ atR gs i:=fun i => by
     by_cases h : i < gs.length
     ·exact nonneg_at (unhide BPOS) i h
     ·unfold atR; rw [List.getElem?_eq_none (by omega)]; decide
    refine marginals_ok go ga n m ba oa ca bb ob cb _ fs gs W (hmat.but hb gal) (Nat.lt_of_lt_of_le gal hb.size) ((unhide HX).but ((unhide T4).trans' hb)) ((unhide HY).but ((unhide T4).trans' hb)) (unhide HLM).symm (by omega) (by omega) hpos2 (fun j hj => ?_) (unhide HLF) (unhide HLG) (fun i hi k hk => ?_) (fun i hi => ?_) (fun k hk => ?_) (TabIs.but (unhide HT) (((unhide B2).trans' (unhide T4)).trans' hb))
    ·have hjm : j / m < n:=(Nat.div_lt_iff_lt_mul hpos2).2 hj
     have hjr : j % m < m:=Nat.mod_lt _ hpos2
     unfold matF
     rw [if_pos hj]
     have hl:=unhide BL pA pB (by omega) (by omega) (j / m) hjm
     exact len_least (hl.2 (j % m) (by omega)) (hl.1 (j % m) hjr)
    ·rw [matF_at _ _ n m i k hi hk]
     exact hbs.pos i hi k hk
    ·rw [sgR_congr _ (besM (atR fs) (atR gs) i) m (fun k hk => matF_at _ _ n m i k hi hk)]
     exact hbs.row i hi
    ·rw [sgR_congr _ (fun i => besM (atR fs) (atR gs) i k) n (fun i hi => matF_at _ _ n m i k hi hk)]
     exact hbs.col k hk
   clear hyes HBL hbs hmean BF BL APOS BPOS HLF HLG hmat
   go_wp2_with fail
   refine (unhide DI _ ((unhide B2).trans' (unhide T4))).mono ?_
   rintro e w5 ⟨rfl,hb5⟩
   have T5:=hide hb5
   clear hb5
   go_wp2_with fail
   refine (unhide MG _ (unhide T5)).mono ?_
   rintro e w6 ⟨rfl,hb6⟩
   have T6:=hide ((unhide T5).trans' hb6)
   clear hb6 T5 MG
   go_wp2
   go_loopw [12] (fun iv wr => ∃ i : Nat,i ≤ n∧iv = .int .i64 (i : Int)∧Hid (But [] w4 wr)) (fun iv _ => n - (intOf iv).toNat)
   case atStart => exact ⟨0,Nat.zero_le _,rfl,unhide T6⟩
   case round =>
    obtain ⟨i,hi,rfl,HI⟩:=hrel
    rename World => wr
    clear T6
    by_cases hlt : i < n
    ·go_wp2
     go_loopw [13] (fun kv wx => ∃ k : Nat,k ≤ i∧kv = .int .i64 (k : Int)∧Hid (But [] w4 wx)) (fun kv _ => i - (intOf kv).toNat)
     case atStart => exact ⟨0,Nat.zero_le _,rfl,unhide HI⟩
     case round =>
      obtain ⟨k,hk,rfl,HJ⟩:=hrel
      rename World => wx
      by_cases hki : k < i
      ·by_cases hkm : k < m
       ·have hmt:=(unhide MT).but (unhide HJ) gal
        have c0i:=hmt.rows i hlt
        obtain ⟨s2,x2,y2,p2,⟨k0,k1,k2,k3⟩,f2⟩:=(hmt.row i hlt).get k hkm
        rw [row_get m _ k hkm,matF_at _ _ n m i k hlt hkm,(unhide HBS).zero i hlt k hki hkm] at f2
        have SG:=hide (fracSign_any _ 0 wx f2)
        rw [show (0 : Rat).num.sign = 0 from rfl] at SG
        clear hmt f2
        go_wp2_with fail
        refine (unhide SG).mono ?_
        rintro e w7 ⟨rfl,hb7⟩
        have J7:=hide ((unhide HJ).trans' hb7)
        clear hb7 SG k0 k1 k2 k3 c0i HJ
        go_wp2
        exact ⟨⟨k + 1,by omega,by go_num,unhide J7⟩,by simp [intOf]; omega⟩
       ·go_wp2
        exact ⟨⟨i + 1,by omega,by go_num,unhide HJ⟩,by simp [intOf]; omega⟩
      ·obtain rfl : k = i:=by omega
       go_wp2
       exact ⟨⟨k + 1,by omega,by go_num,unhide HJ⟩,by simp [intOf]; omega⟩
    ·obtain rfl : i = n:=by omega
     go_wp2_with fail
     refine (unhide MX _ ((unhide T4).trans' (unhide HI))).mono ?_
     rintro e w7 ⟨hmm,hb7⟩
     rcases hmm with ⟨h0,-⟩ | ⟨-,s7,x7,y7,p7,rfl,hf7⟩
     ·exact absurd rfl h0
     have bs:=hb7.trans' ((But.refl _ _).alloc (.cells #[.bool s7,.int .u64 x7,.int .u64 y7,.pointer p7] 29))
     have T7:=hide (((unhide T4).trans' (unhide HI)).trans' bs)
     have X7:=hide (BoxAt.new w7 s7 x7 y7 p7 _ 29 hf7)
     clear hb7 hf7 bs MX
     go_wp2_with fail
     generalize w7.heap.size = g14 at *
     generalize w7.alloc (.cells #[.bool s7,.int .u64 x7,.int .u64 y7,.pointer p7] 29) = V7 at *
     refine (unhide MY _ (unhide T7)).mono ?_
     rintro e w8 ⟨hmm,hb8⟩
     rcases hmm with ⟨h0,-⟩ | ⟨-,s8,x8,y8,p8,rfl,hf8⟩
     ·exact absurd rfl h0
     have bs:=hb8.trans' ((But.refl _ _).alloc (.cells #[.bool s8,.int .u64 x8,.int .u64 y8,.pointer p8] 29))
     have T8:=hide ((unhide T7).trans' bs)
     have X78:=hide ((unhide X7).but bs)
     have X8:=hide (BoxAt.new w8 s8 x8 y8 p8 _ 29 hf8)
     clear hb8 hf8 bs MY T7 X7
     obtain ⟨⟨t1,a1,b1,q1,⟨k0,k1,k2,k3⟩,f1⟩,-⟩:=unhide X78
     obtain ⟨⟨t2,a2,b2,q2,⟨l0,l1,l2,l3⟩,f2⟩,-⟩:=unhide X8
     generalize hM1 : meanR fs (fun k => (k : Int)) i = M1 at *
     generalize hM2 : meanR gs (fun k => (k : Int)) m = M2 at *
     obtain ⟨r,hr⟩ : ∃ r,r = cmpZ (M1.num * (M2.den : Int)) (M2.num * (M1.den : Int)):=⟨_,rfl⟩
     have hle : r ≤ 0:=by
      rcases Int.lt_or_le 0 r with h | h
      ·have h1:=(cmpZ_tells M1 M2 r hr).2.1.1 h
       exact absurd (unhide HMEAN) (Rat.not_le.2 h1)
      ·exact h
     have CM:=hide (fracCmp_any _ _ M1 M2 _ f1 f2 ((unhide LMX).mono (by omega)) ((unhide LMY).mono (by omega)) r hr)
     clear f1 f2 hr hM1 hM2
     go_wp2_with fail
     refine (unhide CM).mono ?_
     rintro e w9 ⟨rfl,hb9⟩
     have T9:=hide ((unhide T8).trans' hb9)
     clear hb9 CM
     go_wp2
     go_ret
     exact ⟨rfl,(unhide B2).trans' (unhide T9)⟩
 ·have BE:=hide (fun W (h : But [] w2 W) => beside_err x y fs gs N W ((unhide HX).but h) ((unhide HY).but h) (by omega) (by omega) lf lg hN hbe)
  obtain ⟨be,hb0⟩ : ∃ be,be = bothE fs gs:=⟨_,rfl⟩
  rw [← hb0] at BE AL hbe
  have ev : errV be = .iface 54 (.int .i64 be):=by unfold errV; rw [if_neg hbe]
  rw [ev] at AL
  clear hb0 ev hN lf lg
  go_wp2_with fail
  refine (unhide AL _ (But.refl _ _)).mono ?_
  rintro e w3 ⟨bl,f,rfl,-,hb3⟩
  have T3:=hide hb3
  clear hb3 AL
  go_wp2_with fail
  refine (unhide BE _ (unhide T3)).mono ?_
  rintro e w4 ⟨rfl,hb4⟩
  have T4:=hide ((unhide T3).trans' hb4)
  clear hb4 BE T3
  go_wp2_with fail
  refine (unhide DI _ ((unhide B2).trans' (unhide T4))).mono ?_
  rintro e w5 ⟨rfl,hb5⟩
  have T5:=hide ((unhide T4).trans' hb5)
  clear hb5 T4
  go_wp2_with fail
  refine (unhide DI _ ((unhide B2).trans' (unhide T5))).mono ?_
  rintro e w6 ⟨rfl,hb6⟩
  have T6:=hide ((unhide T5).trans' hb6)
  clear hb6 T5
  go_wp2
  go_ret
  exact ⟨rfl,(unhide B2).trans' (unhide T6)⟩
theorem besideLaw_any (va vb : Value) (ps qs : List (Int × Int)) (mx : Int) (w : World) (ha : QsAt w va ps) (hb : QsAt w vb qs) (hf : ∀ q ∈ ps,Fits q) (hg : ∀ q ∈ qs,Fits q)
  (htab : Lib.TabIs Tryz.prog w "internal/strconv.uint64pow10" .u64 Lib.pow10Tab) (hmx : w.cell? ⟨4,0,none⟩ = some (.int .i64 mx)) (hgE : w.cell? ⟨0,0,none⟩ = some (.iface 178 (.agg #[.pointer (some ⟨7,35,none⟩)]))) :
  Calls Tryz.prog 5 #[va,vb] w fun e w' => e = .returned (.bool true)∧But [] w w':=by
 by_cases hn : ps.length ≤ 20∧qs.length ≤ 20
 ·exact besideLaw_few va vb ps qs mx w ha hb hf hg hn.1 hn.2 htab hmx hgE
 ·obtain ⟨a,c,rfl,-,-⟩:=ha
  obtain ⟨b,d,rfl,-,-⟩:=hb
  exact besideLaw_many a _ c b _ d w (by omega)
end Go.Proofs.YtikgmhpbdcdogaaGreatDoor
