/- Kinds and lines, plain: what the documen -/
import Derived.Test.YtffghofheeleeaaGreatDoorKOGrqL
import Derived.Test.YtffghofheeleeaaGreatDoorKRLdqL
namespace Go.Proofs.YtffghofheeleeaaGreatDoor
def amS (ks:List Kd) (y b o:Rat):Nat→Rat:=sgR (fun j=>(ze ks j).ch*((o*o)*(ze ks j).sp/y+((b+o*(ze ks j).me)-(ze ks j).me)*((b+o*(ze ks j).me)-(ze ks j).me)))
theorem qou (ks:List Kd) (y b o:Rat):∀ n,amS ks y b o n=o*o*(mkR ks (fun k=>k.sp) n*y⁻¹)+b*b*mkR ks (fun _=>((1:Int):Rat)) n+2*b*(o-1)*mkR ks (fun k=>k.me) n+(o-1)*(o-1)*mkR ks (fun k=>k.me*k.me) n
 | 0=>by
  show (0:Rat)=o*o*(0*y⁻¹)+b*b*0+2*b*(o-1)*0+(o-1)*(o-1)*0
  grind
 | n+1=>by
  have ih:=qou ks y b o n
  show amS ks y b o n+(ze ks n).ch*((o*o)*(ze ks n).sp/y+((b+o*(ze ks n).me)-(ze ks n).me)*((b+o*(ze ks n).me)-(ze ks n).me))=o*o*((mkR ks (fun k=>k.sp) n+(ze ks n).ch*(ze ks n).sp)*y⁻¹)+b*b*(mkR ks (fun _=>((1:Int):Rat)) n+(ze ks n).ch*1)+2*b*(o-1)*(mkR ks (fun k=>k.me) n+(ze ks n).ch*(ze ks n).me)+(o-1)*(o-1)*(mkR ks (fun k=>k.me*k.me) n+(ze ks n).ch*((ze ks n).me*(ze ks n).me))
  rw[ih,Rat.div_def]
  generalize y⁻¹=i
  generalize mkR ks (fun k=>k.sp) n=a1
  generalize mkR ks (fun _=>((1:Int):Rat)) n=a2
  generalize mkR ks (fun k=>k.me) n=a3
  generalize mkR ks (fun k=>k.me*k.me) n=a4
  generalize (ze ks n).ch=c
  generalize (ze ks n).me=m
  generalize (ze ks n).sp=s
  grind
theorem qrg (ks:List Kd) (yr:Int) (b o:Rat) (h1:mkR ks (fun _=>((1:Int):Rat)) ks.length=((1:Int):Rat)):amS ks ((yr:Int):Rat) b o ks.length=amR (mx1 ks) (mx2 ks) (mx3 ks yr) b o:=by
 rw[qou,h1]
 unfold amR mx1 mx2 mx3
 rw[Rat.div_def]
 have e1:((1:Int):Rat)=1:=rfl
 rw[e1]
 generalize (((yr:Int):Rat))⁻¹=i
 generalize mkR ks (fun k=>k.sp) ks.length=a1
 generalize mkR ks (fun k=>k.me) ks.length=a3
 generalize mkR ks (fun k=>k.me*k.me) ks.length=a4
 grind
def dbS (ks:List Kd) (y:Rat):Nat→Rat:=sgR (fun j=>(ze ks j).ch*(ze ks j).sp/y)
theorem qoh (ks:List Kd) (y:Rat):∀ n,dbS ks y n=mkR ks (fun k=>k.sp) n/y
 | 0=>by
  show (0:Rat)=0/y
  rw[Rat.div_def,Rat.zero_mul]
 | n+1=>by
  have ih:=qoh ks y n
  show dbS ks y n+(ze ks n).ch*(ze ks n).sp/y=(mkR ks (fun k=>k.sp) n+(ze ks n).ch*(ze ks n).sp)/y
  rw[ih,Rat.div_def,Rat.div_def,Rat.div_def]
  generalize y⁻¹=i
  grind
theorem qlf (ks:List Kd) (yr:Int) (hne:(mx2 ks).num≠0→(mx2 ks+mx3 ks yr).num≠0):qR (mkR ks (fun k=>k.me*k.me) ks.length-mkR ks (fun k=>k.me) ks.length*mkR ks (fun k=>k.me) ks.length) ((mkR ks (fun k=>k.me*k.me) ks.length+dbS ks ((yr:Int):Rat) ks.length)-mkR ks (fun k=>k.me) ks.length*mkR ks (fun k=>k.me) ks.length)=zrc ks yr:=by
 rw[qoh]
 have e:(mkR ks (fun k=>k.me*k.me) ks.length+mkR ks (fun k=>k.sp) ks.length/((yr:Int):Rat))-mkR ks (fun k=>k.me) ks.length*mkR ks (fun k=>k.me) ks.length=mx2 ks+mx3 ks yr:=by unfold mx2 mx3;grind
 rw[e]
 show qR (mx2 ks) (mx2 ks+mx3 ks yr)=zaz (mx2 ks) (mx3 ks yr)
 unfold qR zaz
 by_cases h0:(mx2 ks).num=0
 ·have hz:mx2 ks=0:=Rat.num_eq_zero.1 h0
  rw[if_pos h0]
  split
  ·rfl
  ·rw[hz,Rat.div_def,Rat.zero_mul]
 ·rw[if_neg h0,if_neg (hne h0)]
end Go.Proofs.YtffghofheeleeaaGreatDoor
