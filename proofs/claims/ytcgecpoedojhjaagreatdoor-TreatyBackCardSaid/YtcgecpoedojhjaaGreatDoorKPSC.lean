/- A text cut about a part of it, off the s -/
import Derived.Shelf.Strings.Cut
import Derived.Test.YtcgecpoedojhjaaGreatDoorProg
import Derived.Shelf.Strings.Trim
import Derived.Shelf.Strconv.Atoi
import Derived.Shelf.Strconv.Itoa3
import Derived.RangeFuncNested
import Derived.RangeFuncBound
import Derived.RangeFuncCalls
import Derived.RangeFuncLeaves
import Derived.Shelf.Abstract
import Derived.Shelf.RegionOpen
import Derived.WalkKit
import Derived.OwnWalkIn
import Derived.TacticsInMore
import Derived.LoopNIn
import Derived.LoopIn
import Derived.Deep.QuietTactic
import Derived.BigQuiet
import Derived.Outline
import Derived.Shelf.Spec.BitsCarry
import Derived.Shelf.Strings.Builder1
import Derived.Test.YtcgecpoedojhjaaGreatDoorKPTR
namespace Go.Proofs
open Go.Proofs.Tryz
open Go.Shelf Go.RowKit
def Tryz.lays145_ren : Go.Shelf.Ren := ⟨fun | 145 => 33 | 217 => 129 | 219 => 96 | 220 => 61 | 224 => 131 | 225 => 130 | 266 => 165 | 267 => 132 | 314 => 166 | n => n, fun | 3 => 3 | 4 => 4 | 5 => 5 | 9 => 9 | 46 => 190 | 51 => 227 | 59 => 88 | 146 => 228 | n => n, fun | 1 => 2 | n => n⟩
theorem Tryz.lays145 : Go.Proofs.Lays.n145 Tryz.prog Tryz.lays145_ren := {
  mixed := by kernel_rfl
  f145 := Tryz.func33.trans (congrArg some (by kernel_rfl))
  f217 := Tryz.func129.trans (congrArg some (by kernel_rfl))
  f219 := Tryz.func96.trans (congrArg some (by kernel_rfl))
  f220 := Tryz.func61.trans (congrArg some (by kernel_rfl))
  f224 := Tryz.func131.trans (congrArg some (by kernel_rfl))
  f225 := Tryz.func130.trans (congrArg some (by kernel_rfl))
  f266 := Tryz.func165.trans (congrArg some (by kernel_rfl))
  f267 := Tryz.func132.trans (congrArg some (by kernel_rfl))
  f314 := Tryz.func166.trans (congrArg some (by kernel_rfl))
  t3 := Tryz.underlying3
  a3 := Tryz.isAgg3
  z3 := Tryz.sizeOf3
  v3 := Tryz.zeroValue3
  t4 := Tryz.underlying4
  a4 := Tryz.isAgg4
  z4 := Tryz.sizeOf4
  v4 := Tryz.zeroValue4
  t5 := Tryz.underlying5
  a5 := Tryz.isAgg5
  z5 := Tryz.sizeOf5
  v5 := Tryz.zeroValue5
  t9 := Tryz.underlying9
  a9 := Tryz.isAgg9
  z9 := Tryz.sizeOf9
  v9 := Tryz.zeroValue9
  t46 := Tryz.underlying190
  a46 := Tryz.isAgg190
  z46 := Tryz.sizeOf190
  v46 := Tryz.zeroValue190
  t51 := Tryz.underlying227
  a51 := Tryz.isAgg227
  z51 := Tryz.sizeOf227
  v51 := Tryz.zeroValue227
  t59 := Tryz.underlying88
  a59 := Tryz.isAgg88
  z59 := Tryz.sizeOf88
  v59 := Tryz.zeroValue88
  t146 := Tryz.underlying228
  a146 := Tryz.isAgg228
  z146 := Tryz.sizeOf228
  v146 := Tryz.zeroValue228
  g1 := by kernel_rfl }
theorem zgd (d:UInt8):∀ (pre post:List UInt8),d ∉ pre→Lib.index (pre++d::post) [d]=(pre.length:Int)
 | [],post,_=>by simp[Lib.index,List.isPrefixOf]
 | b::l,post,h=>by
  have hb:¬ d=b:=fun e=>h (by simp[e])
  have ih:=zgd d l post (fun e=>h (by simp[e]))
  rw[List.cons_append,Lib.index,ih]
  have h1:([d].isPrefixOf (b::(l++d::post)))=false:=by simp[List.isPrefixOf,hb]
  rw[h1]
  have h2:(((l.length:Nat):Int)==-1)=false:=by rw[beq_eq_false_iff_ne];omega
  simp[h2]
theorem index_none (d:UInt8):∀ (l:List UInt8),d ∉ l→Lib.index l [d]=-1
 | [],_=>by simp[Lib.index]
 | b::l,h=>by
  have hb:¬ d=b:=fun e=>h (by simp[e])
  have ih:=index_none d l (fun e=>h (by simp[e]))
  rw[Lib.index,ih]
  have h1:([d].isPrefixOf (b::l))=false:=by simp[List.isPrefixOf,hb]
  rw[h1]
  simp
theorem ztx (d:UInt8) (l:List UInt8) (h:d ∉ l):Lib.cut l [d]=(l,[],false):=by
 unfold Lib.cut
 rw[index_none d l h]
 simp
theorem zmv (d:UInt8) (pre post:List UInt8) (h:d ∉ pre):Lib.cut (pre++d::post) [d]=(pre,post,true):=by
 unfold Lib.cut
 rw[zgd d pre post h,if_pos (by omega),Int.toNat_natCast]
 simp
theorem Tryz.strings_Cut (t:ByteArray) (d:UInt8) (pre post:List UInt8) (m:Int) (w:World) (ht:t.data.toList=pre++d::post) (hd:d ∉ pre) (hs:t.size<4294967281) (hm:w.cell? ⟨2,0,none⟩=some (.int .i64 m)) :
  Calls prog 33 #[.string t,.string ⟨#[d]⟩] w fun e w'=>e=.returned (.tuple #[.string ⟨pre.toArray⟩,.string ⟨post.toArray⟩,.bool true])∧∃ n,w'=w.drewN n:=by
 have h:=Any.strings_Cut Tryz.lays145 t ⟨#[d]⟩ m w hs hm
 rw[ht,show (⟨#[d]⟩:ByteArray).data.toList=[d] from rfl,zmv d pre post hd] at h
 exact h
end Go.Proofs
namespace Go.Proofs
open Go.Proofs.Tryz
open Go.Shelf Go.RowKit
set_option linter.unusedVariables false
def Tryz.lays161_ren : Go.Shelf.Ren := ⟨fun | 119 => 168 | 137 => 167 | 151 => 99 | 152 => 134 | 161 => 35 | 197 => 98 | 217 => 129 | 224 => 131 | 225 => 130 | 227 => 63 | 228 => 97 | 231 => 62 | 233 => 64 | 235 => 65 | 260 => 133 | 266 => 165 | n => n, fun | 0 => 0 | 3 => 3 | 4 => 4 | 5 => 5 | 9 => 9 | 21 => 21 | 46 => 190 | 105 => 169 | 116 => 123 | 117 => 124 | 119 => 230 | 124 => 127 | 138 => 232 | 139 => 233 | n => n, fun | 3 => 3 | 4 => 4 | n => n⟩
theorem Tryz.lays161 : Go.Proofs.Lays.n161 Tryz.prog Tryz.lays161_ren := {
  mixed := by kernel_rfl
  f119 := Tryz.func168.trans (congrArg some (by kernel_rfl))
  f137 := Tryz.func167.trans (congrArg some (by kernel_rfl))
  f151 := Tryz.func99.trans (congrArg some (by kernel_rfl))
  f152 := Tryz.func134.trans (congrArg some (by kernel_rfl))
  f161 := Tryz.func35.trans (congrArg some (by kernel_rfl))
  f197 := Tryz.func98.trans (congrArg some (by kernel_rfl))
  f217 := Tryz.func129.trans (congrArg some (by kernel_rfl))
  f224 := Tryz.func131.trans (congrArg some (by kernel_rfl))
  f225 := Tryz.func130.trans (congrArg some (by kernel_rfl))
  f227 := Tryz.func63.trans (congrArg some (by kernel_rfl))
  f228 := Tryz.func97.trans (congrArg some (by kernel_rfl))
  f231 := Tryz.func62.trans (congrArg some (by kernel_rfl))
  f233 := Tryz.func64.trans (congrArg some (by kernel_rfl))
  f235 := Tryz.func65.trans (congrArg some (by kernel_rfl))
  f260 := Tryz.func133.trans (congrArg some (by kernel_rfl))
  f266 := Tryz.func165.trans (congrArg some (by kernel_rfl))
  t0 := Tryz.underlying0
  a0 := Tryz.isAgg0
  z0 := Tryz.sizeOf0
  v0 := Tryz.zeroValue0
  t3 := Tryz.underlying3
  a3 := Tryz.isAgg3
  z3 := Tryz.sizeOf3
  v3 := Tryz.zeroValue3
  t4 := Tryz.underlying4
  a4 := Tryz.isAgg4
  z4 := Tryz.sizeOf4
  v4 := Tryz.zeroValue4
  t5 := Tryz.underlying5
  a5 := Tryz.isAgg5
  z5 := Tryz.sizeOf5
  v5 := Tryz.zeroValue5
  t9 := Tryz.underlying9
  a9 := Tryz.isAgg9
  z9 := Tryz.sizeOf9
  v9 := Tryz.zeroValue9
  t21 := Tryz.underlying21
  a21 := Tryz.isAgg21
  z21 := Tryz.sizeOf21
  v21 := Tryz.zeroValue21
  t46 := Tryz.underlying190
  a46 := Tryz.isAgg190
  z46 := Tryz.sizeOf190
  v46 := Tryz.zeroValue190
  t105 := Tryz.underlying169
  a105 := Tryz.isAgg169
  z105 := Tryz.sizeOf169
  v105 := Tryz.zeroValue169
  t116 := Tryz.underlying123
  a116 := Tryz.isAgg123
  z116 := Tryz.sizeOf123
  t117 := Tryz.underlying124
  a117 := Tryz.isAgg124
  z117 := Tryz.sizeOf124
  v117 := Tryz.zeroValue124
  t119 := Tryz.underlying230
  a119 := Tryz.isAgg230
  z119 := Tryz.sizeOf230
  t124 := Tryz.underlying127
  a124 := Tryz.isAgg127
  z124 := Tryz.sizeOf127
  v124 := Tryz.zeroValue127
  t138 := Tryz.underlying232
  a138 := Tryz.isAgg232
  z138 := Tryz.sizeOf232
  v138 := Tryz.zeroValue232
  t139 := Tryz.underlying233
  a139 := Tryz.isAgg233
  z139 := Tryz.sizeOf233
  v139 := Tryz.zeroValue233
  g3 := by kernel_rfl
  g4 := by kernel_rfl }
def Tryz.lays172_ren : Go.Shelf.Ren := ⟨fun | 129 => 173 | 171 => 53 | 172 => 138 | 205 => 197 | 243 => 85 | 244 => 170 | 245 => 171 | 246 => 117 | 247 => 185 | 279 => 186 | 280 => 187 | 281 => 188 | 282 => 189 | 283 => 140 | 284 => 141 | 285 => 142 | 286 => 143 | 287 => 196 | 316 => 106 | 317 => 172 | 318 => 174 | 319 => 175 | 320 => 176 | 321 => 198 | 322 => 199 | 337 => 190 | 338 => 191 | n => n, fun | 0 => 0 | 2 => 2 | 3 => 3 | 4 => 4 | 5 => 5 | 9 => 9 | 20 => 20 | 21 => 21 | 37 => 47 | 46 => 190 | 51 => 227 | 53 => 32 | 80 => 53 | 75 => 26 | 76 => 51 | 85 => 242 | 127 => 83 | 143 => 256 | 145 => 258 | 167 => 241 | 168 => 244 | 171 => 210 | 173 => 213 | 175 => 249 | 210 => 252 | 212 => 237 | 213 => 238 | 232 => 253 | 233 => 254 | n => n, fun | 15 => 8 | 16 => 9 | 17 => 5 | 18 => 10 | 19 => 11 | n => n⟩
theorem Tryz.lays172 : Go.Proofs.Lays.n172 Tryz.prog Tryz.lays172_ren := {
  mixed := by kernel_rfl
  f129 := Tryz.func173.trans (congrArg some (by kernel_rfl))
  f171 := Tryz.func53.trans (congrArg some (by kernel_rfl))
  f172 := Tryz.func138.trans (congrArg some (by kernel_rfl))
  f205 := Tryz.func197.trans (congrArg some (by kernel_rfl))
  f243 := Tryz.func85.trans (congrArg some (by kernel_rfl))
  f244 := Tryz.func170.trans (congrArg some (by kernel_rfl))
  f245 := Tryz.func171.trans (congrArg some (by kernel_rfl))
  f246 := Tryz.func117.trans (congrArg some (by kernel_rfl))
  f247 := Tryz.func185.trans (congrArg some (by kernel_rfl))
  f279 := Tryz.func186.trans (congrArg some (by kernel_rfl))
  f280 := Tryz.func187.trans (congrArg some (by kernel_rfl))
  f281 := Tryz.func188.trans (congrArg some (by kernel_rfl))
  f282 := Tryz.func189.trans (congrArg some (by kernel_rfl))
  f283 := Tryz.func140.trans (congrArg some (by kernel_rfl))
  f284 := Tryz.func141.trans (congrArg some (by kernel_rfl))
  f285 := Tryz.func142.trans (congrArg some (by kernel_rfl))
  f286 := Tryz.func143.trans (congrArg some (by kernel_rfl))
  f287 := Tryz.func196.trans (congrArg some (by kernel_rfl))
  f316 := Tryz.func106.trans (congrArg some (by kernel_rfl))
  f317 := Tryz.func172.trans (congrArg some (by kernel_rfl))
  f318 := Tryz.func174.trans (congrArg some (by kernel_rfl))
  f319 := Tryz.func175.trans (congrArg some (by kernel_rfl))
  f320 := Tryz.func176.trans (congrArg some (by kernel_rfl))
  f321 := Tryz.func198.trans (congrArg some (by kernel_rfl))
  f322 := Tryz.func199.trans (congrArg some (by kernel_rfl))
  f337 := Tryz.func190.trans (congrArg some (by kernel_rfl))
  f338 := Tryz.func191.trans (congrArg some (by kernel_rfl))
  t0 := Tryz.underlying0
  a0 := Tryz.isAgg0
  z0 := Tryz.sizeOf0
  v0 := Tryz.zeroValue0
  t2 := Tryz.underlying2
  a2 := Tryz.isAgg2
  z2 := Tryz.sizeOf2
  v2 := Tryz.zeroValue2
  t3 := Tryz.underlying3
  a3 := Tryz.isAgg3
  z3 := Tryz.sizeOf3
  v3 := Tryz.zeroValue3
  t4 := Tryz.underlying4
  a4 := Tryz.isAgg4
  z4 := Tryz.sizeOf4
  v4 := Tryz.zeroValue4
  t5 := Tryz.underlying5
  a5 := Tryz.isAgg5
  z5 := Tryz.sizeOf5
  v5 := Tryz.zeroValue5
  t9 := Tryz.underlying9
  a9 := Tryz.isAgg9
  z9 := Tryz.sizeOf9
  v9 := Tryz.zeroValue9
  t20 := Tryz.underlying20
  a20 := Tryz.isAgg20
  z20 := Tryz.sizeOf20
  v20 := Tryz.zeroValue20
  t21 := Tryz.underlying21
  a21 := Tryz.isAgg21
  z21 := Tryz.sizeOf21
  v21 := Tryz.zeroValue21
  t37 := Tryz.underlying47
  a37 := Tryz.isAgg47
  z37 := Tryz.sizeOf47
  v37 := Tryz.zeroValue47
  t46 := Tryz.underlying190
  a46 := Tryz.isAgg190
  z46 := Tryz.sizeOf190
  v46 := Tryz.zeroValue190
  t51 := Tryz.underlying227
  a51 := Tryz.isAgg227
  z51 := Tryz.sizeOf227
  v51 := Tryz.zeroValue227
  t53 := Tryz.underlying32
  a53 := Tryz.isAgg32
  z53 := Tryz.sizeOf32
  v53 := Tryz.zeroValue32
  t75 := Tryz.underlying26
  a75 := Tryz.isAgg26
  z75 := Tryz.sizeOf26
  v75 := Tryz.zeroValue26
  t76 := Tryz.underlying51
  a76 := Tryz.isAgg51
  z76 := Tryz.sizeOf51
  v76 := Tryz.zeroValue51
  t85 := Tryz.underlying242
  a85 := Tryz.isAgg242
  z85 := Tryz.sizeOf242
  v85 := Tryz.zeroValue242
  t127 := Tryz.underlying83
  a127 := Tryz.isAgg83
  z127 := Tryz.sizeOf83
  v127 := Tryz.zeroValue83
  t143 := Tryz.underlying256
  a143 := Tryz.isAgg256
  z143 := Tryz.sizeOf256
  v143 := Tryz.zeroValue256
  t145 := Tryz.underlying258
  a145 := Tryz.isAgg258
  z145 := Tryz.sizeOf258
  v145 := Tryz.zeroValue258
  t167 := Tryz.underlying241
  a167 := Tryz.isAgg241
  z167 := Tryz.sizeOf241
  v167 := Tryz.zeroValue241
  t168 := Tryz.underlying244
  a168 := Tryz.isAgg244
  z168 := Tryz.sizeOf244
  v168 := Tryz.zeroValue244
  t171 := Tryz.underlying210
  a171 := Tryz.isAgg210
  z171 := Tryz.sizeOf210
  v171 := Tryz.zeroValue210
  t173 := Tryz.underlying213
  a173 := Tryz.isAgg213
  z173 := Tryz.sizeOf213
  v173 := Tryz.zeroValue213
  t175 := Tryz.underlying249
  a175 := Tryz.isAgg249
  z175 := Tryz.sizeOf249
  v175 := Tryz.zeroValue249
  t210 := Tryz.underlying252
  a210 := Tryz.isAgg252
  z210 := Tryz.sizeOf252
  v210 := Tryz.zeroValue252
  t212 := Tryz.underlying237
  a212 := Tryz.isAgg237
  z212 := Tryz.sizeOf237
  v212 := Tryz.zeroValue237
  t213 := Tryz.underlying238
  a213 := Tryz.isAgg238
  z213 := Tryz.sizeOf238
  t232 := Tryz.underlying253
  a232 := Tryz.isAgg253
  z232 := Tryz.sizeOf253
  v232 := Tryz.zeroValue253
  t233 := Tryz.underlying254
  a233 := Tryz.isAgg254
  z233 := Tryz.sizeOf254
  v233 := Tryz.zeroValue254
  g15 := by kernel_rfl
  g16 := by kernel_rfl
  g17 := by kernel_rfl
  g18 := by kernel_rfl
  g19 := by kernel_rfl }
def Tryz.laysM171_ren : Go.Shelf.Ren := ⟨fun | 129 => 173 | 171 => 53 | 243 => 85 | 246 => 117 | 283 => 140 | 284 => 141 | 285 => 142 | 286 => 143 | 317 => 172 | 318 => 174 | 319 => 175 | 320 => 176 | 337 => 190 | 338 => 191 | n => n, fun | 0 => 0 | 2 => 2 | 3 => 3 | 4 => 4 | 5 => 5 | 9 => 9 | 20 => 20 | 37 => 47 | 46 => 190 | 51 => 227 | 53 => 32 | 171 => 210 | 173 => 213 | 212 => 237 | 213 => 238 | 232 => 253 | 233 => 254 | n => n, fun | 17 => 5 | 18 => 10 | 19 => 11 | n => n⟩
theorem Tryz.laysM171 : Go.Proofs.LaysM.n171 Tryz.prog Tryz.laysM171_ren := {
  mixed := by kernel_rfl
  f129 := Tryz.func173.trans (congrArg some (by kernel_rfl))
  f171 := Tryz.func53.trans (congrArg some (by kernel_rfl))
  f243 := Tryz.func85.trans (congrArg some (by kernel_rfl))
  f246 := Tryz.func117.trans (congrArg some (by kernel_rfl))
  f283 := Tryz.func140.trans (congrArg some (by kernel_rfl))
  f284 := Tryz.func141.trans (congrArg some (by kernel_rfl))
  f285 := Tryz.func142.trans (congrArg some (by kernel_rfl))
  f286 := Tryz.func143.trans (congrArg some (by kernel_rfl))
  f317 := Tryz.func172.trans (congrArg some (by kernel_rfl))
  f318 := Tryz.func174.trans (congrArg some (by kernel_rfl))
  f319 := Tryz.func175.trans (congrArg some (by kernel_rfl))
  f320 := Tryz.func176.trans (congrArg some (by kernel_rfl))
  f337 := Tryz.func190.trans (congrArg some (by kernel_rfl))
  f338 := Tryz.func191.trans (congrArg some (by kernel_rfl))
  t0 := Tryz.underlying0
  a0 := Tryz.isAgg0
  z0 := Tryz.sizeOf0
  v0 := Tryz.zeroValue0
  t2 := Tryz.underlying2
  a2 := Tryz.isAgg2
  z2 := Tryz.sizeOf2
  v2 := Tryz.zeroValue2
  t3 := Tryz.underlying3
  a3 := Tryz.isAgg3
  z3 := Tryz.sizeOf3
  v3 := Tryz.zeroValue3
  t4 := Tryz.underlying4
  a4 := Tryz.isAgg4
  z4 := Tryz.sizeOf4
  v4 := Tryz.zeroValue4
  t5 := Tryz.underlying5
  a5 := Tryz.isAgg5
  z5 := Tryz.sizeOf5
  v5 := Tryz.zeroValue5
  t9 := Tryz.underlying9
  a9 := Tryz.isAgg9
  z9 := Tryz.sizeOf9
  v9 := Tryz.zeroValue9
  t20 := Tryz.underlying20
  a20 := Tryz.isAgg20
  z20 := Tryz.sizeOf20
  v20 := Tryz.zeroValue20
  t37 := Tryz.underlying47
  a37 := Tryz.isAgg47
  z37 := Tryz.sizeOf47
  v37 := Tryz.zeroValue47
  t46 := Tryz.underlying190
  a46 := Tryz.isAgg190
  z46 := Tryz.sizeOf190
  v46 := Tryz.zeroValue190
  t51 := Tryz.underlying227
  a51 := Tryz.isAgg227
  z51 := Tryz.sizeOf227
  v51 := Tryz.zeroValue227
  t53 := Tryz.underlying32
  a53 := Tryz.isAgg32
  z53 := Tryz.sizeOf32
  v53 := Tryz.zeroValue32
  t171 := Tryz.underlying210
  a171 := Tryz.isAgg210
  z171 := Tryz.sizeOf210
  v171 := Tryz.zeroValue210
  t173 := Tryz.underlying213
  a173 := Tryz.isAgg213
  z173 := Tryz.sizeOf213
  v173 := Tryz.zeroValue213
  t212 := Tryz.underlying237
  a212 := Tryz.isAgg237
  z212 := Tryz.sizeOf237
  v212 := Tryz.zeroValue237
  t213 := Tryz.underlying238
  a213 := Tryz.isAgg238
  z213 := Tryz.sizeOf238
  t232 := Tryz.underlying253
  a232 := Tryz.isAgg253
  z232 := Tryz.sizeOf253
  v232 := Tryz.zeroValue253
  t233 := Tryz.underlying254
  a233 := Tryz.isAgg254
  z233 := Tryz.sizeOf254
  v233 := Tryz.zeroValue254
  g17 := by kernel_rfl
  m17 := by kernel_rfl
  g18 := by kernel_rfl
  m18 := by kernel_rfl
  g19 := by kernel_rfl
  m19 := by kernel_rfl
  i0 := by kernel_rfl
  i2 := by kernel_rfl
  i3 := by kernel_rfl
  i4 := by kernel_rfl
  i5 := by kernel_rfl
  i9 := by kernel_rfl
  i20 := by kernel_rfl
  i37 := by kernel_rfl
  i46 := by kernel_rfl
  i51 := by kernel_rfl
  i53 := by kernel_rfl
  i171 := by kernel_rfl
  i173 := by kernel_rfl
  i212 := by kernel_rfl
  i232 := by kernel_rfl
  i233 := by kernel_rfl }
end Go.Proofs
namespace Go.Proofs.YtcgecpoedojhjaaGreatDoor
open Go.Proofs.Tryz
open Go.RowKit Go.Shelf
set_option maxHeartbeats 8000000
set_option maxRecDepth 100000
set_option linter.unusedVariables false
theorem zwo (w:World) (e:TypeId) (s:ByteArray):But [] w (Lib.bytesWorld w e s) :=
 ⟨rfl,rfl,rfl,by rw[Lib.bytesWorld_size];omega,fun k hk _=>Lib.bytesWorld_at_old w e s k hk⟩
theorem zpj (w:World) (k:Nat) (os:Array Obj):But [] w (Sort.grow (w.drewN k) os) :=
 ⟨rfl,rfl,rfl,by simp[Sort.grow],fun j hj _=>by simp[Sort.grow];exact Array.getElem?_append_left hj⟩
theorem zpg (d:Nat) (h:d<10):Lib.digitVal (UInt8.ofNat (48+d))=some d:=by
 unfold Lib.digitVal
 have e:(UInt8.ofNat (48+d)).toNat=48+d:=by simp;omega
 rw[e,if_pos (by omega)]
 congr 1
 omega
theorem zgj:∀ (l:List UInt8) (acc n d:Nat),Lib.decFrom acc l=some n→d<10→Lib.decFrom acc (l++[UInt8.ofNat (48+d)])=some (n*10+d)
 | [],acc,n,d,h,hd=>by
  simp only[Lib.decFrom,Option.some.injEq] at h
  subst h
  simp only[List.nil_append,Lib.decFrom,zpg d hd]
 | b::l,acc,n,d,h,hd=>by
  simp only[List.cons_append,Lib.decFrom] at h ⊢
  cases e:Lib.digitVal b with
  | none=>rw[e] at h;simp at h
  | some x =>
   rw[e] at h
   exact zgj l _ n d h hd
theorem zmu (u:Nat):Lib.decFrom 0 (Lib.decDigits u)=some u:=by
 induction u using Nat.strongRecOn with
 | _ u ih =>
  rw[Lib.decDigits]
  by_cases h:u<10
  ·rw[dif_pos h]
   simp only[Lib.decFrom,zpg u h]
   congr 1
   omega
  ·rw[dif_neg h,zgj _ 0 (u/10) (u%10) (ih _ (by omega)) (by omega)]
   congr 1
   omega
theorem zhn (u:Nat):Lib.decDigits u≠[]:=by
 rw[Lib.decDigits]
 split <;> simp
theorem zcm (u:Nat):∀ b ∈ Lib.decDigits u,48≤b.toNat∧b.toNat≤57:=by
 induction u using Nat.strongRecOn with
 | _ u ih =>
  intro b hb
  rw[Lib.decDigits] at hb
  by_cases h:u<10
  ·rw[dif_pos h] at hb
   simp only[List.mem_cons,List.not_mem_nil,or_false] at hb
   subst hb
   have e:(UInt8.ofNat (48+u)).toNat=48+u:=by simp;omega
   omega
  ·rw[dif_neg h] at hb
   rcases List.mem_append.1 hb with hb | hb
   ·exact ih _ (by omega) b hb
   ·simp only[List.mem_cons,List.not_mem_nil,or_false] at hb
    subst hb
    have e:(UInt8.ofNat (48+u%10)).toNat=48+u%10:=by simp;omega
    omega
theorem zaw:∀ (k u:Nat),u<10^(k+1)→(Lib.decDigits u).length≤k+1
 | 0,u,h=>by
  rw[Lib.decDigits,dif_pos (by omega)]
  simp
 | k+1,u,h=>by
  rw[Lib.decDigits]
  split
  ·simp
  ·rw[List.length_append]
   have:=zaw k (u/10) (by rw[Nat.pow_succ] at h;omega)
   simp
   omega
theorem zjt (z:Int) (h:0≤z):Lib.itoa z=Lib.decDigits z.toNat:=by unfold Lib.itoa;rw[if_neg (by omega)]
theorem qjd (z:Int) (h:0≤z):Lib.atoi (Lib.itoa z)=some z:=by
 rw[zjt z h]
 have h1:=zhn z.toNat
 have h2:=zcm z.toNat
 have h3:=zmu z.toNat
 cases e:Lib.decDigits z.toNat with
 | nil=>exact absurd e h1
 | cons b l =>
  rw[e] at h2 h3
  have hb:=h2 b (by simp)
  have n45:(b==45)=false:=by
   rw[beq_eq_false_iff_ne]
   rintro rfl
   simp at hb
  have n43:(b==43)=false:=by
   rw[beq_eq_false_iff_ne]
   rintro rfl
   simp at hb
  simp only[Lib.atoi,n45,n43,Lib.decNat,List.isEmpty_cons,h3]
  simp
  omega
theorem zvq (z:Int) (h0:0≤z) (h1:z≤1000000000000000) (w:World) (htab:Lib.TabIs prog w "internal/strconv.uint64pow10" .u64 Lib.pow10Tab) (t:ByteArray) (ht:t=⟨(Lib.itoa z).toArray⟩) :
  Calls prog 105 #[.string t] w fun e w'=>e=.returned (.tuple #[.int .i64 z,.bool true])∧But [] w w':=by
 have hsz:t.size≤18:=by
  rw[ht,zjt z h0]
  have:=zaw 15 z.toNat (by omega)
  show (Lib.decDigits z.toNat).toArray.size≤18
  simp
  omega
 have hat:Lib.atoi t.data.toList=some z:=by rw[ht];exact qjd z h0
 have AT:Hid (Calls prog 138 #[.string t] w fun e w'=>e=.returned (.tuple #[.int .i64 z,.nilIface])∧But [] w w') :=
  (Any.strconv_Atoi Tryz.lays172 t z hsz hat w).mono (by rintro e w' ⟨rfl,tt,rfl⟩;exact⟨rfl,zwo _ _ _⟩)
 have IT:Hid (∀ W,But [] w W→Calls prog 53 #[.int .i64 z] W fun e w'=>e=.returned (.string t)∧But [] W w'):=fun W hW=>by
  have h:=Any.strconv_Itoa Tryz.laysM171 z (by omega) (by omega) W (TabIs.but htab hW)
  rw[← ht] at h
  exact h.mono (by rintro e w' ⟨rfl,k,os,rfl⟩;exact⟨rfl,zpj _ _ _⟩)
 clear htab hat hsz ht
 go_enter func105,ntmps105
 go_wp2_with fail
 refine (za AT).mono ?_
 rintro e w1 ⟨rfl,hb1⟩
 have B1:=hide hb1
 clear hb1 AT
 go_wp2_with fail
 refine (za IT _ (za B1)).mono ?_
 rintro e w2 ⟨rfl,hb2⟩
 have B2:=hide ((za B1).trans' hb2)
 clear hb2
 go_wp2
 exact bodyPost_ret (v:=.tuple #[.int .i64 z,.bool true]) (by simp[results,results105,go_sem]) rfl ⟨rfl,za B2⟩
attribute [local go_sem] Oper.semAt_some
def yt (n₀:Nat) (gs:List Nat) (A B:World):Prop:=∀ k,k<n₀→k ∉ gs→B.heap[k]? = A.heap[k]?
theorem yt.refl (n₀:Nat) (gs:List Nat) (A:World):yt n₀ gs A A:=fun _ _ _=>rfl
theorem yt.trans {n₀:Nat} {gs:List Nat} {A B C:World} (h:yt n₀ gs A B) (k:yt n₀ gs B C):yt n₀ gs A C:=fun i h1 h2=>(k i h1 h2).trans (h i h1 h2)
theorem yt.cell {n₀:Nat} {gs:List Nat} {A B:World} (h:yt n₀ gs A B) {p:Addr} (hp:p.block<n₀) (hn:p.block ∉ gs):B.cell? p=A.cell? p:=World.cell?_of_block (w:=A) (h p.block hp hn)
theorem yt.put {n₀:Nat} {gs:List Nat} (W:World) (l:Nat) (o:Obj) (hl:n₀≤l):yt n₀ gs W (W.putObj l o):=fun k hk _=>World.putObj_heap_other (by omega)
theorem yt.drewN (n₀:Nat) (gs:List Nat) (A:World) (k:Nat):yt n₀ gs A (A.drewN k):=fun _ _ _=>rfl
def jn (d:UInt8):List (List UInt8)→List UInt8
 | []=>[]
 | [x]=>x
 | x::y::l=>x++d::jn d (y::l)
def tlw (d:UInt8) (l:List (List UInt8)):List UInt8:=match l with
 | []=>[]
 | y::l=>d::jn d (y::l)
theorem zqs (d:UInt8) (x:List UInt8) (l:List (List UInt8)):jn d (x::l)=x++tlw d l:=by
 cases l with
 | nil=>simp[jn,tlw]
 | cons y l=>rfl
def l5 (d:UInt8) (ws:List (List UInt8)) (k:Nat):List UInt8:=if k=0 then jn d ws else tlw d (ws.drop k)
theorem drop_cons {α:Type} (l:List α) (k:Nat) (h:k<l.length):l.drop k=l[k]::l.drop (k+1):=List.drop_eq_getElem_cons h
theorem zek (d:UInt8) (ws:List (List UInt8)) (k:Nat) (h:k<ws.length):jn d (ws.drop k)=ws[k]++l5 d ws (k+1):=by
 rw[drop_cons ws k h,zqs]
 unfold l5
 rw[if_neg (by omega)]
theorem zef (d:UInt8) (ws:List (List UInt8)) (k:Nat) (h:k<ws.length):l5 d ws k=jn d (ws.drop k)∨l5 d ws k=d::jn d (ws.drop k):=by
 unfold l5
 by_cases h0:k=0
 ·subst h0;left;simp
 ·right
  rw[if_neg h0,drop_cons ws k h]
  rfl
theorem qbj (d:UInt8) (ws:List (List UInt8)):l5 d ws ws.length=[]:=by
 unfold l5
 cases ws with
 | nil=>rfl
 | cons x l=>rw[if_neg (by simp)];simp[tlw]
theorem tail_suffix (d:UInt8) (ws:List (List UInt8)):∀ k,k≤ws.length→∃ p,jn d ws=p++l5 d ws k
 | 0,_=>⟨[],rfl⟩
 | k+1,h=>by
  obtain⟨p,hp⟩:=tail_suffix d ws k (by omega)
  have hd:=zek d ws k (by omega)
  rcases zef d ws k (by omega) with e | e
  ·exact⟨p++ws[k],by rw[hp,e,hd,List.append_assoc]⟩
  ·exact⟨p++d::ws[k],by rw[hp,e,hd,List.append_assoc];rfl⟩
def zgt (d:UInt8) (ws:List (List UInt8)) (k:Nat):Nat:=(jn d ws).length-(jn d (ws.drop k)).length
theorem zyf (d:UInt8) (ws:List (List UInt8)) (k:Nat) (h:k≤ws.length) (hw:∀ x ∈ ws,x≠[]∧d ∉ x):Lib.trimLeftB (l5 d ws k) d=jn d (ws.drop k):=by
 rcases Nat.lt_or_ge k ws.length with hk | hk
 ·have hx:=hw _ (List.getElem_mem hk)
  have hd:=zek d ws k hk
  obtain⟨a,l,ea⟩:∃ a l,ws[k]=a::l:=by
   cases e:ws[k] with
   | nil=>exact absurd e hx.1
   | cons a l=>exact⟨a,l,rfl⟩
  have hne:¬ a=d:=fun e=>hx.2 (by rw[ea,e];simp)
  have hb:(a==d)=false:=by rw[beq_eq_false_iff_ne];exact hne
  have hj:Lib.trimLeftB (jn d (ws.drop k)) d=jn d (ws.drop k):=by
   rw[hd,ea]
   simp[Lib.trimLeftB,hne]
  rcases zef d ws k hk with e | e
  ·rw[e,hj]
  ·rw[e]
   unfold Lib.trimLeftB at hj ⊢
   rw[List.dropWhile_cons_of_pos (by simp)]
   exact hj
 ·obtain rfl:k=ws.length:=by omega
  rw[qbj]
  simp[Lib.trimLeftB,jn]
attribute [local go_sem] Oper.semAt_some
theorem zyi (n k:Nat) (h:k<n):(List.finRange n).take (k+1)=(List.finRange n).take k++[⟨k,h⟩]:=by
 rw[List.take_add_one,List.getElem?_eq_getElem (by simpa using h)]
 simp
theorem str_eq (t:ByteArray) (l:List UInt8) (h:t.data.toList=l):t=⟨l.toArray⟩:=by
 rw[← h]
open Go.RowKit
theorem zyt (a:Act) (w:World) (d t:Nat) (u:TypeId) (ps:String) (ed:Array Edge) (gd:Option (Nat × Bool)) (b:Nat) (s:ByteArray) (h1:a.eval (.tmp t)=.pointer (some ⟨b,0,none⟩)) (hc:w.cell? ⟨b,0,none⟩=some (.string s)) :
  (execOp a.eval { dst:=some d,op:=Op.load 9 (.tmp t),type:=u,pos:=ps,after:=ed,guard:=gd }).run prog w=.ok (.value (.string s)) w:=by
 unfold execOp
 simp only[h1]
 go_simp
theorem qhh (a:Act) (w:World) (d:Nat) (u:TypeId) (ps:String) (ed:Array Edge) (gd:Option (Nat × Bool)) (v:Value) :
  (execOp a.eval { dst:=some d,op:=Op.assign (.const v),type:=u,pos:=ps,after:=ed,guard:=gd }).run prog w=.ok (.value v) w:=by
 unfold execOp
 go_simp
def qds:Oper:=⟨some 7,.load 9 (.tmp 1),9, "lines.go:13",#[{ on:=1,ground:=.gcOnly Departure.lateStores }],none⟩
def qdr:Oper:=⟨some 3,.assign (.const (.int .i64 0)),3, "lines.go:13",#[{ on:=0,ground:=.textOnly Departure.lateStores }],none⟩
def qdq:Oper:=⟨some 4,.assign (.tmp 7),9, "lines.go:13",#[⟨0,.data⟩,⟨1,.chain⟩,⟨0,.phase⟩,⟨1,.phase⟩],none⟩
def zlj:Array Oper:=#[qds,qdr,qdq]
def zie (i:Nat):Nat:=match i with
 | 0=>7
 | 1=>3
 | _=>4
def zxh (t:ByteArray) (i:Nat) (_w:World) (v:Value):Prop:=match i with
 | 0=>v=.string t
 | 1=>v=.int .i64 0
 | _=>v=.string t
theorem zzi {t:ByteArray} {i:Nat} {w w':World} {v:Value} (h:zxh t i w v) (hi:i<3) (hb:But [] w w'):zxh t i w' v:=by
 have:i=0∨i=1∨i=2:=by omega
 rcases this with rfl|rfl|rfl
 all_goals first | exact h | exact zi.but h hb | exact FracsAt.but h hb
theorem zzh:∀ i j,i<3→j<3→zie i=zie j→i=j:=fun i j hi hj=>(by decide:∀ i,i<3→∀ j,j<3→zie i=zie j→i=j) i hi j hj
theorem znx (id:Nat) (Q:Exit→Act→World→Prop) (base:Act) (W0:World) (t:ByteArray) (hs:7<base.tmps.size) (g1:Nat) (e1:base.eval (.tmp 1)=.pointer (some ⟨g1,0,none⟩))
  (ct:W0.cell? ⟨g1,0,none⟩=some (.string t))
  (hQ:∀ w,But [] W0 w→Q .normal (qx base [(7,.string t),(3,.int .i64 0),(4,.string t)]) w) :
  (Code.region id zlj true).wp prog Q base W0:=by
 have hdr:∀ {w},But [] W0.drew w→But [] W0 w:=fun h=>(But.refl _ _).drew.trans' h
 have hT:∀ i,i<3→zie i<base.tmps.size:=fun i hi=>by
  have h:zie i≤7:=by revert i;decide
  omega
 refine zbr (by kernel_rfl) (wh (by kernel_rfl)) (zxh t) zie (by kernel_rfl) ?_ zzh hT (fun i w w' v hi h hb=>zzi h hi hb) ?_ ?_
 ·intro i o j want ho hg w v hv
  have hi:i<3:=(Array.getElem?_eq_some_iff.1 ho).1
  have:i=0∨i=1∨i=2:=by omega
  rcases this with rfl|rfl|rfl
  ·obtain rfl:=so (show zlj[0]? =some qds from rfl) ho
   exact absurd (show (none:Option (Nat × Bool))=some (j,want) from hg) (by simp)
  ·obtain rfl:=so (show zlj[1]? =some qdr from rfl) ho
   exact absurd (show (none:Option (Nat × Bool))=some (j,want) from hg) (by simp)
  ·obtain rfl:=so (show zlj[2]? =some qdq from rfl) ho
   exact absurd (show (none:Option (Nat × Bool))=some (j,want) from hg) (by simp)
 ·intro i o a w K ho hH he hdep hk
  have hi:i<3:=(Array.getElem?_eq_some_iff.1 ho).1
  have hD:=zdy (ps:=[(2,0),(2,1)]) (by kernel_rfl) ho (fun j=>zxh t j w (a.eval (.tmp (zie j)))) hdep
  have e1':=(he 1 (fun j hj e=>absurd e.symm (by revert j;decide))).trans e1
  have:i=0∨i=1∨i=2:=by omega
  rcases this with rfl|rfl|rfl
  ·obtain rfl:=so (show zlj[0]? =some qds from rfl) ho
   exact zh (zyt a w _ _ _ _ _ _ g1 t e1' ((hdr hH).zb ct (by simp))) (hk _ _ (But.refl _ _) rfl)
  ·obtain rfl:=so (show zlj[1]? =some qdr from rfl) ho
   exact zh (qhh a w _ _ _ _ _ _) (hk _ _ (But.refl _ _) rfl)
  ·obtain rfl:=so (show zlj[2]? =some qdq from rfl) ho
   exact zh (zae a w _ _ _ _ _ _ _ (hD 0 (by simp))) (hk _ _ (But.refl _ _) rfl)
 ·intro a w h
  have ea:=h.puts hT (fun i=>match i with
   | 0=>.string t
   | 1=>.int .i64 0
   | _=>.string t) (fun i hi=>by
   have hi':i<3:=hi
   have hc:=h.has i hi rfl
   have:i=0∨i=1∨i=2:=by omega
   rcases this with rfl|rfl|rfl
   all_goals first | exact hc|rfl)
  rw[ea]
  exact hQ w (hdr h.but)
attribute [local go_sem] Oper.semAt_some
theorem zty (d:UInt8) (ls:List (List UInt8)) (k:Nat) (h:k<ls.length) (hl:∀ x ∈ ls,d ∉ x):Lib.cut (jn d (ls.drop k)) [d]=(ls[k],jn d (ls.drop (k+1)),decide (k+1<ls.length)):=by
 have hx:=hl _ (List.getElem_mem h)
 rw[zek d ls k h]
 unfold l5
 rw[if_neg (by omega)]
 cases e:ls.drop (k+1) with
 | nil =>
  have:ls.length≤k+1:=List.drop_eq_nil_iff.1 e
  rw[decide_eq_false (by omega)]
  show Lib.cut (ls[k]++[]) [d]=_
  rw[List.append_nil,ztx d _ hx]
  rfl
 | cons y l =>
  have:k+1<ls.length:=by
   rcases Nat.lt_or_ge (k+1) ls.length with h' | h'
   ·exact h'
   ·rw[List.drop_eq_nil_iff.2 h'] at e
    simp at e
  rw[decide_eq_true this]
  exact zmv d ls[k] (jn d (y::l)) hx
theorem qca (d:UInt8) (ls:List (List UInt8)) (k:Nat) (h:k+1<ls.length):zgt d ls k+(ls[k].length+1)=zgt d ls (k+1):=by
 obtain⟨q,hq⟩:=tail_suffix d ls (k+1) (by omega)
 have e1:l5 d ls (k+1)=d::jn d (ls.drop (k+1)):=by
  unfold l5
  rw[if_neg (by omega),drop_cons ls (k+1) h]
  rfl
 have hd:(jn d (ls.drop k)).length=ls[k].length+(l5 d ls (k+1)).length:=by rw[zek d ls k (by omega),List.length_append]
 obtain⟨p,hp⟩:=tail_suffix d ls k (by omega)
 have h2:(l5 d ls k).length=(jn d (ls.drop k)).length∨(l5 d ls k).length=(jn d (ls.drop k)).length+1:=by
  rcases zef d ls k (by omega) with e | e <;> rw[e] <;> simp
 have hl:(jn d ls).length=p.length+(l5 d ls k).length:=by rw[hp,List.length_append]
 rw[e1] at hd
 unfold zgt
 simp only[List.length_cons] at hd
 omega
theorem zmh (d:UInt8) (ls:List (List UInt8)) (k:Nat) (h:k<ls.length):(jn d (ls.drop k)).length≤(jn d ls).length∧ls[k].length≤(jn d ls).length:=by
 obtain⟨p,hp⟩:=tail_suffix d ls k (by omega)
 have h2:(l5 d ls k).length=(jn d (ls.drop k)).length∨(l5 d ls k).length=(jn d (ls.drop k)).length+1:=by
  rcases zef d ls k h with e | e <;> rw[e] <;> simp
 have hl:(jn d ls).length=p.length+(l5 d ls k).length:=by rw[hp,List.length_append]
 have hd:(jn d (ls.drop k)).length=ls[k].length+(l5 d ls (k+1)).length:=by rw[zek d ls k h,List.length_append]
 omega
theorem qad (n:Nat) (hn:1≤n) (l Bs n₀:Nat) (gs:List Nat) (ls:List (List UInt8)) (t:ByteArray) (ht:t.data.toList=jn 10 ls) (h1:0<ls.length) (hl:∀ x ∈ ls,(10:UInt8) ∉ x) (hts:t.size≤50000) (mx:Int) (J Jx:List (Fin ls.length)→World→Prop)
  (hJ:∀ pre W W',J pre W→But [] W W'→J pre W')
  (hY:∀ pre (x:Fin ls.length) W,J pre W→pre.length<ls.length→YieldAt Fence.wide (n-1) prog l #[.int .i64 ((zgt 10 ls x.1:Nat):Int),.string ⟨(ls[x.1]).toArray⟩] W fun e W' =>
   (e=.returned (.bool true)∧J (pre++[x]) W'∧yt n₀ gs W W')∨(e=.returned (.bool false)∧Jx (pre++[x]) W'))
  (W:World) (hn₀:n₀≤W.heap.size) (hBs:W.cell? ⟨Bs,0,none⟩=some (.string t)) (hBn:Bs<n₀) (hBg:Bs ∉ gs) (hm:W.cell? ⟨2,0,none⟩=some (.int .i64 mx)) (hmn : 2 < n₀) (hmg : 2 ∉ gs) (h0:J [] W) :
  CallsIn Fence.wide n prog 32 #[.func (.yield l) #[] #[],.pointer (some ⟨Bs,0,none⟩)] W fun e W'=>(∃ v,e=.returned v) ∧
   ((∃ ys,ys=List.finRange ls.length∧J ys W')∨(∃ pre,True∧Jx pre W')):=by
 have htl:t.size=(jn 10 ls).length:=by rw[← ht];simp
 have HL:=hide hl
 have HT:=hide ht
 have HTL:=hide htl
 have HJ:=hide hJ
 have HY:=hide hY
 clear hl ht htl hJ hY
 refine callsIn_of_wp func32 rfl trivial ?_ rfl
 simp only[ntmps32,List.size_toArray,List.length_cons,List.length_nil,Nat.reduceAdd,Nat.reduceSub,Array.replicate_succ,Array.replicate_zero,List.push_toArray,List.append_toArray,List.nil_append,List.cons_append]
 gi_wp2
 refine wpIn_wide.2 (znx 0 _ _ W t (by simp) Bs (by simp[Act.eval]) hBs ?_)
 intro w0 hb0
 simp only[qx,List.foldl_cons,List.foldl_nil,Act.put,List.setIfInBounds_toArray,List.set_cons_zero,List.set_cons_succ]
 have J0:Hid (J [] w0):=za HJ _ _ _ h0 hb0
 have K0:Hid (yt n₀ gs W w0):=fun k hk _=>hb0.block k (by omega) (by simp)
 clear hb0 h0
 gi_wp2
 gi_loopw [3,4,5] (fun i r m wr=>∃ k:Nat,k≤ls.length∧(∃ pl:Nat,i=.int .i64 (pl:Int)∧pl≤60000∧Hid (k<ls.length→pl=zgt 10 ls k))∧(∃ rest:ByteArray,r=.string rest∧Hid (rest=⟨(jn 10 (ls.drop k)).toArray⟩))∧(∃ mo:Bool,m=.bool mo∧Hid (mo=decide (k<ls.length)))∧J ((List.finRange ls.length).take k) wr∧yt n₀ gs W wr) (fun i _ _ _=>60002-(intOf i).toNat)
 case atStart=>exact⟨0,Nat.zero_le _,⟨0,rfl,by omega,fun _=>by unfold zgt;simp⟩,⟨t,rfl,by show t=_;rw[List.drop_zero];exact str_eq t _ (za HT)⟩,⟨true,rfl,by show true=_;rw[decide_eq_true h1]⟩,za J0,za K0⟩
 case round =>
  obtain⟨k,hk,⟨pl,rfl,hpl,HP⟩,⟨rest,rfl,HR⟩,⟨mo,rfl,HM⟩,hJs,hnx⟩:=hrel
  rename World=>wr
  have hm':=(hnx.cell (p:=⟨2,0,none⟩) hmn hmg).trans hm
  by_cases hlt:k<ls.length
  ·obtain rfl:mo=true:=by rw[za HM];exact decide_eq_true hlt
   have hps:pl=zgt 10 ls k:=za HP hlt
   obtain⟨ld1,ld2⟩:=zmh 10 ls k hlt
   have hrs:rest.size=(jn 10 (ls.drop k)).length:=by rw[za HR];rfl
   have hcut:=zty 10 ls k hlt (za HL)
   obtain⟨line,hline⟩:∃ line:ByteArray,line=⟨(ls[k]).toArray⟩:=⟨_,rfl⟩
   obtain⟨rest2,hrest2⟩:∃ rest2:ByteArray,rest2=⟨(jn 10 (ls.drop (k+1))).toArray⟩:=⟨_,rfl⟩
   obtain⟨mo2,hmo2⟩:∃ mo2,mo2=decide (k+1<ls.length):=⟨_,rfl⟩
   have CU:Hid (∀ W2,W2.cell? ⟨2,0,none⟩=some (.int .i64 mx)→Calls prog 33 #[.string rest,.string ⟨#[10]⟩] W2 fun e w'=>e=.returned (.tuple #[.string line,.string rest2,.bool mo2])∧∃ q,w'=W2.drewN q):=fun W2 h2=>by
    have h:=Any.strings_Cut Tryz.lays145 rest ⟨#[10]⟩ mx W2 (by rw[hrs];have:=za HTL;omega) h2
    rw[show rest.data.toList=jn 10 (ls.drop k) from by rw[za HR],show (⟨#[10]⟩:ByteArray).data.toList=[10] from rfl,hcut,← hmo2] at h
    rw[hline,hrest2]
    exact h
   have hY':Hid (∀ W2,J ((List.finRange ls.length).take k) W2→YieldAt Fence.wide (n-1) prog l #[.int .i64 (pl:Int),.string line] W2 fun e W' =>
     (e=.returned (.bool true)∧J ((List.finRange ls.length).take (k+1)) W'∧yt n₀ gs W2 W')∨(e=.returned (.bool false)∧Jx ((List.finRange ls.length).take (k+1)) W')):=fun W2 h2=>by
    rw[zyi _ k hlt,hline,hps]
    exact za HY _ ⟨k,hlt⟩ W2 h2 (by rw[List.length_take,List.length_finRange];omega)
   have hls:line.size=ls[k].length:=by rw[hline];rfl
   have NXP:Hid (k+1<ls.length→pl+(line.size+1)=zgt 10 ls (k+1)):=fun h=>by
    rw[hps,hls]
    exact qca 10 ls k h
   have hpb:pl≤50000:=by
    rw[hps]
    unfold zgt
    have:=za HTL
    omega
   have hlb:pl+line.size≤50000:=by
    have e:(jn 10 (ls.drop k)).length=ls[k].length+(l5 10 ls (k+1)).length:=by rw[zek 10 ls k hlt,List.length_append]
    have:=za HTL
    rw[hls,hps]
    unfold zgt
    omega
   have HJS:=hide hJs
   have HNX:=hide hnx
   have HR2:=hide hrest2
   have HM2:=hide hmo2
   clear hps ld1 ld2 hrs hcut hline hrest2 hmo2 hls HP HR HM hJs hnx HY
   gi_wp2_with fail
   refine⟨trivial,?_⟩
   refine (callsIn_wide.2 (za CU _ hm')).mono ?_
   rintro e w2 ⟨rfl,q,hw2⟩
   have J2:Hid (J ((List.finRange ls.length).take k) w2):=by rw[hw2];exact za HJ _ _ _ (za HJS) ⟨rfl,rfl,rfl,Nat.le_refl _,fun _ _ _=>rfl⟩
   have K2:Hid (yt n₀ gs W w2):=by rw[hw2];exact (za HNX).trans (yt.drewN _ _ _ q)
   obtain⟨fn,tmps,assign,body,hy,hR⟩:=za hY' w2 (za J2)
   have HRR:=hide hR
   clear hw2 hm' hR hY' HJS CU
   gi_wp2_with fail
   refine (za HRR).mono ?_
   rintro e W3 (⟨rfl,hJ3,hk3⟩|⟨rfl,hJx3⟩)
   ·have HJ3:=hide hJ3
    have HK3:=hide hk3
    clear hJ3 hk3
    gi_wp2
    go_roundw
    case rel=>exact⟨k+1,by omega,⟨pl+(line.size+1),by go_num,by omega,za NXP⟩,⟨rest2,rfl,za HR2⟩,⟨mo2,rfl,za HM2⟩,za HJ3,(za K2).trans (za HK3)⟩
    case measure =>
     simp[intOf]
     omega
   ·gi_wp2
    refine bodyPost_ret (results_none rfl _ _ _) rfl ?_
    exact⟨⟨_,rfl⟩,.inr ⟨_,trivial,hJx3⟩⟩
  ·obtain rfl:k=ls.length:=by omega
   obtain rfl:mo=false:=by rw[za HM];exact decide_eq_false hlt
   have hfin:Hid (J (List.finRange ls.length) wr):=by
    rw[List.take_of_length_le (by simp)] at hJs
    exact hJs
   clear hJs HY HP HR HM
   gi_wp2
   first | go_end0 | skip
   exact⟨⟨_,rfl⟩,.inl ⟨_,rfl,za hfin⟩⟩
theorem zqw {A B:World} (h:But [] A B):A.grownBy B none:=⟨h.1,h.2,h.3,h.size,fun k hk _=>h.block k hk (by simp)⟩
theorem zte (n:Nat) (hn:1≤n) (Bs n₀:Nat) (gs:List Nat) (ls:List (List UInt8)) (t:ByteArray) (ht:t.data.toList=jn 10 ls) (h1:0<ls.length) (hl:∀ x ∈ ls,(10:UInt8) ∉ x) (hts:t.size≤50000) (mx:Int) (w:World) (hn₀:n₀≤w.heap.size)
  (hBs:w.cell? ⟨Bs,0,none⟩=some (.string t)) (hBn:Bs<n₀) (hBg:Bs ∉ gs) (hm:w.cell? ⟨2,0,none⟩=some (.int .i64 mx)) (hmn : 2 < n₀) (hmg : 2 ∉ gs) :
  SeqStopsK Fence.wide n prog 32 #[.pointer (some ⟨Bs,0,none⟩)] (fun x:Fin ls.length=>#[.int .i64 ((zgt 10 ls x.1:Nat):Int),.string ⟨(ls[x.1]).toArray⟩]) (yt n₀ gs) (fun ys=>ys=List.finRange ls.length) (fun _=>True) ls.length w:=fun l J Jx W hW hA _ hY h0 =>
 qad n hn l Bs n₀ gs ls t ht h1 hl hts mx J Jx (fun pre W W' h hb=>hA pre W _ none h (zqw hb) (fun r e=>by simp at e)) hY W (Nat.le_trans hn₀ hW.size) ((hW.cell (p:=⟨Bs,0,none⟩) (by show Bs<_;omega)).trans hBs) hBn hBg ((hW.cell (p:=⟨2,0,none⟩) (by show 2 < _;omega)).trans hm) hmn hmg h0
theorem qfg (n:Nat) (t:ByteArray) (w:World) :
  CallsIn Fence.wide n prog 16 #[.string t] w fun e w'=>e=.returned (.func (.func 32) #[] #[.pointer (some ⟨w.heap.size,0,none⟩)])∧w'=w.alloc (.cells #[.string t] 9):=by
 refine callsIn_of_wp func16 rfl trivial ?_ rfl
 simp only[ntmps16,List.size_toArray,List.length_cons,List.length_nil,Nat.reduceAdd,Nat.reduceSub,Array.replicate_succ,Array.replicate_zero,List.push_toArray,List.append_toArray,List.nil_append,List.cons_append]
 gi_wp2
 go_ret
 exact⟨rfl,rfl⟩
def xq (w:World) (b:Nat) (T:TypeId) (v:Value):Prop:=w.heap[b]? = some (.cells #[v] T (0,0))
theorem xq.new (w:World) (T:TypeId) (v:Value):xq (w.alloc (.cells #[v] T)) w.heap.size T v:=World.alloc_heap_new w _
theorem xq.lt {w:World} {b:Nat} {T:TypeId} {v:Value} (h:xq w b T v):b<w.heap.size:=(Array.getElem?_eq_some_iff.1 h).1
theorem xq.beside {w w':World} {b:Nat} {T:TypeId} {v:Value} {l:List Nat} (h:xq w b T v) (hb:But l w w') (hn:b ∉ l):xq w' b T v:=(hb.block b h.lt hn).trans h
theorem xq.but {w w':World} {b:Nat} {T:TypeId} {v:Value} (h:xq w b T v) (hb:But [] w w'):xq w' b T v:=h.beside hb (by simp)
theorem xq.calm {A B:World} {b:Nat} {T:TypeId} {v:Value} (h:xq A b T v) (hb:∀ (k:Nat) (o:Obj),A.heap[k]? = some o→o.isCells=true→B.heap[k]? = some o):xq B b T v:=hb b _ h rfl
theorem xq.cell {w:World} {b:Nat} {T:TypeId} {v:Value} (h:xq w b T v):w.cell? ⟨b,0,none⟩=some v:=by
 unfold xq at h
 simp[World.cell?,h]
theorem xq.loose {w:World} {b:Nat} {T:TypeId} {v:Value} (h:xq w b T v) (o:Nat):w.frozen? ⟨b,o,none⟩=false:=by
 unfold xq at h
 simp[World.frozen?,h]
theorem xq.set {w:World} {b:Nat} {T:TypeId} {v:Value} (h:xq w b T v) (u:Value):xq (w.setCell ⟨b,0,none⟩ u) b T u:=by
 unfold xq at h ⊢
 simp[World.setCell,Array.getElem?_modify,h]
theorem zba (w:World) (b:Nat) (u:Value):But [b] w (w.setCell ⟨b,0,none⟩ u):=zy w b [u] 0
def yg (x:List UInt8):Value:=.string ⟨x.toArray⟩
def uw (w:World) (base:Nat) (v:Value) (ws:List (List UInt8)):Prop:=w.ownsRow base 9 1 v ws.length (ws.map yg)
theorem uw.nil (w:World) (base:Nat):uw w base (.slice none 0 0) []:=World.ownsRow_nil _ _ _ _
theorem uw.but {w w':World} {base:Nat} {v:Value} {ws:List (List UInt8)} (h:uw w base v ws) (hb:But [] w w'):uw w' base v ws:=zhz h hb
theorem uw.form {w:World} {base:Nat} {v:Value} {ws:List (List UInt8)} (h:uw w base v ws):∃ a c,v=.slice a ws.length c:=ownsRow_form h
def lv (w:World) (v:Value) (ws:List (List UInt8)):Prop:=∃ a cap,v=.slice a ws.length cap∧∀ i x,ws[i]? = some x→∃ b off,a=some ⟨b,off,none⟩∧w.cell? ⟨b,off+i,none⟩=some (yg x)
theorem uw.words {w:World} {base:Nat} {v:Value} {ws:List (List UInt8)} (h:uw w base v ws):lv w v ws:=by
 rcases h.2 with ⟨rfl,h0⟩|⟨g,cap,cur,rfl,h1,h2,h3,-⟩
 ·have:ws=[]:=List.length_eq_zero_iff.1 h0
  subst this
  exact⟨none,0,rfl,fun i x hx=>by simp at hx⟩
 ·refine⟨_,cap,rfl,fun i x hx=>⟨g,0,rfl,?_⟩⟩
  have hi:=(List.getElem?_eq_some_iff.1 hx).1
  rw[Nat.zero_add,h.cellAt i (by omega),List.getElem?_map,hx]
  rfl
theorem qft:∃ i,prog.info? 9 = some i∧i.zero=some (.string ⟨#[]⟩)∧i.size=1∧i.bytes=16:=by
 have h:(prog.info? 9).map (fun i=>(i.zero,i.size,i.bytes))=some (some (.string ⟨#[]⟩),1,16):=by kernel_rfl
 cases e:prog.info? 9 with
 | none=>rw[e] at h;simp at h
 | some i =>
  rw[e] at h
  simp only[Option.map_some,Option.some.injEq,Prod.mk.injEq] at h
  exact⟨i,rfl,h.1,h.2.1,h.2.2⟩
theorem zwt (w:World) (base:Nat) (v:Value) (ws:List (List UInt8)) (hown:uw w base v ws) (g:Nat) (x:List UInt8) (c:w.cell? ⟨g,0,none⟩=some (yg x)) (hk:ws.length<1000000) (hb:base≤w.heap.size) :
  ∃ v' w',(Builtin.append_ #[69,69] 69 #[v,.slice (some ⟨g,0,none⟩) 1 1]).run prog w=.ok v' w'∧uw w' base v' (ws++[x])∧w.grownBy w' v.ownBlock:=by
 obtain⟨i0,hi,hz0,hz1,hz2⟩:=qft
 obtain⟨v',w',hr,ho,hg,-⟩:=run_append_own (P:=prog) w base 69 69 9 i0 _ 1 16 underlying69 hi hz0 hz1 hz2 rfl (by decide) v ws.length (ws.map yg) hown ⟨g,0,none⟩ 1 1 [yg x] rfl (fun j u hj=>by
   cases j with
   | zero=>simp at hj;subst hj;exact c
   | succ j=>simp at hj) (fun u hu=>by
   simp only[List.mem_cons,List.not_mem_nil,or_false] at hu
   subst hu
   rfl) (by unfold maxLen;omega) (by omega) hb
 refine⟨v',w',hr,?_,hg⟩
 unfold uw at *
 rw[List.length_append,List.map_append]
 exact ho
theorem qgx (d:UInt8) (ws:List (List UInt8)) (hw:∀ x ∈ ws,x≠[]∧d ∉ x):Lib.trimLeftB (jn d ws) d=jn d ws:=by
 have h:=zyf d ws 0 (by omega) hw
 unfold l5 at h
 rw[if_pos rfl,List.drop_zero] at h
 exact h
theorem qgh (d:UInt8) (ws:List (List UInt8)) (k:Nat) (hk:k≤ws.length) (hw:∀ x ∈ ws,x≠[]∧d ∉ x):∃ b,Lib.cut (jn d (ws.drop k)) [d]=(ws[k]?.getD [],jn d (ws.drop (k+1)),b):=by
 rcases Nat.lt_or_ge k ws.length with h | h
 ·refine⟨decide (k+1<ws.length),?_⟩
  rw[zty d ws k h (fun x hx=>(hw x hx).2),List.getElem?_eq_getElem h]
  rfl
 ·refine⟨false,?_⟩
  rw[List.drop_eq_nil_of_le h,List.drop_eq_nil_of_le (by omega),List.getElem?_eq_none h]
  exact ztx d [] (by simp)
theorem ztz (ws:List (List UInt8)) (hw:∀ x ∈ ws,x≠[]∧(32:UInt8) ∉ x) (hs:(jn 32 ws).length≤50000) (k:Nat) (hk:k≤ws.length) (g:Nat) (mx:Int) (w:World) (hb:xq w g 9 (yg (jn 32 (ws.drop k)))) (hm:w.cell? ⟨2,0,none⟩=some (.int .i64 mx)) :
  Calls prog 34 #[.pointer (some ⟨g,0,none⟩)] w fun e w'=>e=.returned (yg (ws[k]?.getD []))∧xq w' g 9 (yg (jn 32 (ws.drop (k+1))))∧But [g] w w':=by
 obtain⟨bb,hcut⟩:=qgh 32 ws k hk hw
 have hl:(jn 32 (ws.drop k)).length≤50000:=by
  rcases Nat.lt_or_ge k ws.length with h | h
  ·have:=(zmh 32 ws k h).1;omega
  ·rw[List.drop_eq_nil_of_le h];simp[jn]
 obtain⟨rest,hrest⟩:∃ rest:ByteArray,rest=⟨(jn 32 (ws.drop k)).toArray⟩:=⟨_,rfl⟩
 obtain⟨rest2,hrest2⟩:∃ rest2:ByteArray,rest2=⟨(jn 32 (ws.drop (k+1))).toArray⟩:=⟨_,rfl⟩
 obtain⟨word,hword⟩:∃ word:ByteArray,word=⟨(ws[k]?.getD []).toArray⟩:=⟨_,rfl⟩
 have hrl:rest.data.toList=jn 32 (ws.drop k):=by rw[hrest]
 have TR:Hid (∀ W2,Calls prog 35 #[.string rest,.string ⟨#[32]⟩] W2 fun e w'=>e=.returned (.string rest)∧w'=W2):=fun W2=>by
  have h:=Any.strings_TrimLeft_one Tryz.lays161 rest 32 (by decide) W2
  rw[hrl,qgx 32 _ (fun x hx=>hw x (List.mem_of_mem_drop hx)),← hrest] at h
  exact h
 have CU:Hid (∀ W2,W2.cell? ⟨2,0,none⟩=some (.int .i64 mx)→Calls prog 33 #[.string rest,.string ⟨#[32]⟩] W2 fun e w'=>e=.returned (.tuple #[.string word,.string rest2,.bool bb])∧∃ q,w'=W2.drewN q):=fun W2 h2=>by
  have hsz:rest.size=(jn 32 (ws.drop k)).length:=by rw[hrest];rfl
  have h:=Any.strings_Cut Tryz.lays145 rest ⟨#[32]⟩ mx W2 (by omega) h2
  rw[hrl,show (⟨#[32]⟩:ByteArray).data.toList=[32] from rfl,hcut,← hrest2,← hword] at h
  exact h
 unfold yg at hb ⊢
 rw[← hrest] at hb
 rw[← hrest2,← hword]
 have c0:=hb.cell
 have fz:=hb.loose
 have HB:=hide hb
 have HM:=hide hm
 clear hcut hl hrest hrest2 hword hrl hb hm hw hs
 go_enter func34,ntmps34
 go_wp2_with fail
 refine (za TR _).mono ?_
 rintro e w1 ⟨rfl,h1⟩
 obtain rfl:=h1.symm
 clear h1 TR
 go_wp2_with fail
 refine (za CU _ (za HM)).mono ?_
 rintro e w2 ⟨rfl,q,rfl⟩
 have d0:(w.drewN q).cell? ⟨g,0,none⟩=some (.string rest):=c0
 have fz2:∀ o,(w.drewN q).frozen? ⟨g,o,none⟩=false:=fz
 have HB2:Hid (xq (w.drewN q) g 9 (.string rest)):=za HB
 have B2:Hid (But [] w (w.drewN q)):=(But.refl _ _).drewN q
 clear CU
 generalize w.drewN q=V at *
 go_wp2
 have hS:=zba V g (.string rest2)
 exact bodyPost_ret (v:=.string word) (by simp[results,results34,go_sem]) rfl ⟨rfl,(za HB2).set _,((za B2).of_nil (l:=[g])).trans hS (fun x hx=>.inl hx)⟩
attribute [local go_sem] Oper.semAt_some
theorem zpp {F:Fence} {n:Nat} {P:Program} {w:World} {ops:Array Oper} {rest:List Oper} {o:Oper} {a:Act} {Q:Exit→Act→World→Prop} (hgd:o.guard=none) (s x:Operand) (t u:TypeId)
  (hop:o.op=.call { callee:=.builtin .append,args:=#[s,x],argTypes:=#[t,u] }) (vs vx v':Value) (w':World) (hs:a.eval s=vs) (hx:a.eval x=vx)
  (hr:(Builtin.append_ #[t,u] o.type #[vs,vx]).run P w=.ok v' w') (h:wpListIn F n P ops Q rest (a.put o.dst v') w'):wpListIn F n P ops Q (o::rest) a w:=by
 refine wpListIn_plain hgd fun K hK'=>?_
 unfold Oper.wpIn
 refine⟨?_,?_⟩
 ·simp[Oper.about,hop,resolve,Target.leads,Sem.run_pure]
 ·rw[Oper.semAt_plain F _ _ (by rw[hop];intro c hc';cases hc')]
  simp[execOp,hop,resolve,invoke,builtin,hs,hx,hr,Result.andThen]
  exact hK' _ _ h
theorem zfc {w w':World} {row:Option Nat} (hg:w.grownBy w' row):But row.toList w w' :=
 ⟨hg.os,hg.tape,hg.output,hg.size,fun j hj hn=>hg.block j hj (by
  rintro rfl
  simp at hn)⟩
theorem zex {W V:World} {l:List Nat} (hb:But l W V) (hc:∀ g ∈ l,∃ cur T,W.heap[g]? = some (.cells cur T (0,0))) (B n₀ b:Nat) (hn:n₀≤W.heap.size) (hl:∀ g ∈ l,g=b∨n₀≤g):KeepsFrom B W V∧yt n₀ [b] W V :=
 ⟨⟨hb.size,fun k o _ hk ho=>by
  refine (hb.block k (Array.getElem?_eq_some_iff.1 hk).1 (fun hm=>?_)).trans hk
  obtain⟨cur,T,h⟩:=hc k hm
  rw[hk] at h
  obtain rfl:=Option.some.inj h
  simp[Obj.isCells] at ho⟩,fun k hk hne=>hb.block k (by omega) (fun hm=>by
  rcases hl k hm with e | e
  ·exact hne (by simp[e])
  ·omega)⟩
theorem qgm {A B:World} {row:Option Nat} (hg:A.grownBy B row) (hr:∀ r,row=some r→∃ o:Obj,A.heap[r]? = some o∧o.isCells=false) (k:Nat) (o:Obj) (hk:A.heap[k]? = some o) (ho:o.isCells=true):B.heap[k]? = some o:=by
 refine (hg.block k (Array.getElem?_eq_some_iff.1 hk).1 (fun e=>?_)).trans hk
 obtain⟨o',h1,h2⟩:=hr k e.symm
 rw[hk] at h1
 obtain rfl:=Option.some.inj h1
 rw[ho] at h2
 simp at h2
theorem zyc (xs:List Int) (h:∀ x ∈ xs,0≤x):∀ y ∈ xs.map Lib.itoa,y≠[]∧(32:UInt8) ∉ y∧(10:UInt8) ∉ y:=fun y hy=>by
 obtain⟨x,hx,rfl⟩:=List.mem_map.1 hy
 rw[zjt x (h x hx)]
 refine⟨zhn _,fun hm=>?_,fun hm=>?_⟩
 ·have:=zcm _ _ hm
  simp at this
 ·have:=zcm _ _ hm
  simp at this
end Go.Proofs.YtcgecpoedojhjaaGreatDoor
namespace Go.Proofs
open Go.Proofs.Tryz
open Go.Shelf Go.RowKit
def Tryz.lays167_ren : Go.Shelf.Ren := ⟨fun | 167 => 13 | 240 => 24 | 276 => 52 | n => n, fun | 0 => 0 | 4 => 4 | 5 => 5 | 9 => 9 | 20 => 20 | 37 => 47 | 70 => 46 | 72 => 49 | 80 => 53 | 75 => 26 | 164 => 110 | n => n, fun | n => n⟩
theorem Tryz.lays167 : Go.Proofs.Lays.n167 Tryz.prog Tryz.lays167_ren := {
  mixed := by kernel_rfl
  f167 := Tryz.func13.trans (congrArg some (by kernel_rfl))
  f240 := Tryz.func24.trans (congrArg some (by kernel_rfl))
  f276 := Tryz.func52.trans (congrArg some (by kernel_rfl))
  t0 := Tryz.underlying0
  a0 := Tryz.isAgg0
  z0 := Tryz.sizeOf0
  v0 := Tryz.zeroValue0
  t4 := Tryz.underlying4
  a4 := Tryz.isAgg4
  z4 := Tryz.sizeOf4
  v4 := Tryz.zeroValue4
  t5 := Tryz.underlying5
  a5 := Tryz.isAgg5
  z5 := Tryz.sizeOf5
  v5 := Tryz.zeroValue5
  t9 := Tryz.underlying9
  a9 := Tryz.isAgg9
  z9 := Tryz.sizeOf9
  v9 := Tryz.zeroValue9
  t20 := Tryz.underlying20
  a20 := Tryz.isAgg20
  z20 := Tryz.sizeOf20
  v20 := Tryz.zeroValue20
  t37 := Tryz.underlying47
  a37 := Tryz.isAgg47
  z37 := Tryz.sizeOf47
  v37 := Tryz.zeroValue47
  t70 := Tryz.underlying46
  a70 := Tryz.isAgg46
  z70 := Tryz.sizeOf46
  v70 := Tryz.zeroValue46
  t72 := Tryz.underlying49
  a72 := Tryz.isAgg49
  z72 := Tryz.sizeOf49
  v72 := Tryz.zeroValue49
  t75 := Tryz.underlying26
  a75 := Tryz.isAgg26
  z75 := Tryz.sizeOf26
  v75 := Tryz.zeroValue26
  t164 := Tryz.underlying110
  a164 := Tryz.isAgg110
  z164 := Tryz.sizeOf110
  v164 := Tryz.zeroValue110 }
def Tryz.lays166_ren : Go.Shelf.Ren := ⟨fun | 166 => 11 | 240 => 24 | 276 => 52 | n => n, fun | 0 => 0 | 3 => 3 | 4 => 4 | 5 => 5 | 9 => 9 | 20 => 20 | 37 => 47 | 70 => 46 | 72 => 49 | 80 => 53 | 75 => 26 | 164 => 110 | n => n, fun | n => n⟩
theorem Tryz.lays166 : Go.Proofs.Lays.n166 Tryz.prog Tryz.lays166_ren := {
  mixed := by kernel_rfl
  f166 := Tryz.func11.trans (congrArg some (by kernel_rfl))
  f240 := Tryz.func24.trans (congrArg some (by kernel_rfl))
  f276 := Tryz.func52.trans (congrArg some (by kernel_rfl))
  t0 := Tryz.underlying0
  a0 := Tryz.isAgg0
  z0 := Tryz.sizeOf0
  v0 := Tryz.zeroValue0
  t3 := Tryz.underlying3
  a3 := Tryz.isAgg3
  z3 := Tryz.sizeOf3
  v3 := Tryz.zeroValue3
  t4 := Tryz.underlying4
  a4 := Tryz.isAgg4
  z4 := Tryz.sizeOf4
  v4 := Tryz.zeroValue4
  t9 := Tryz.underlying9
  a9 := Tryz.isAgg9
  z9 := Tryz.sizeOf9
  v9 := Tryz.zeroValue9
  t20 := Tryz.underlying20
  a20 := Tryz.isAgg20
  z20 := Tryz.sizeOf20
  v20 := Tryz.zeroValue20
  t37 := Tryz.underlying47
  a37 := Tryz.isAgg47
  z37 := Tryz.sizeOf47
  v37 := Tryz.zeroValue47
  t70 := Tryz.underlying46
  a70 := Tryz.isAgg46
  z70 := Tryz.sizeOf46
  v70 := Tryz.zeroValue46
  t72 := Tryz.underlying49
  a72 := Tryz.isAgg49
  z72 := Tryz.sizeOf49
  v72 := Tryz.zeroValue49
  t75 := Tryz.underlying26
  a75 := Tryz.isAgg26
  z75 := Tryz.sizeOf26
  v75 := Tryz.zeroValue26
  t164 := Tryz.underlying110
  a164 := Tryz.isAgg110
  z164 := Tryz.sizeOf110
  v164 := Tryz.zeroValue110 }
def Tryz.lays169_ren : Go.Shelf.Ren := ⟨fun | 169 => 14 | n => n, fun | 0 => 0 | 3 => 3 | 5 => 5 | 9 => 9 | 37 => 47 | 70 => 46 | 72 => 49 | 127 => 83 | n => n, fun | n => n⟩
theorem Tryz.lays169 : Go.Proofs.Lays.n169 Tryz.prog Tryz.lays169_ren := {
  mixed := by kernel_rfl
  f169 := Tryz.func14.trans (congrArg some (by kernel_rfl))
  t0 := Tryz.underlying0
  a0 := Tryz.isAgg0
  z0 := Tryz.sizeOf0
  v0 := Tryz.zeroValue0
  t3 := Tryz.underlying3
  a3 := Tryz.isAgg3
  z3 := Tryz.sizeOf3
  v3 := Tryz.zeroValue3
  t9 := Tryz.underlying9
  a9 := Tryz.isAgg9
  z9 := Tryz.sizeOf9
  v9 := Tryz.zeroValue9
  t37 := Tryz.underlying47
  a37 := Tryz.isAgg47
  z37 := Tryz.sizeOf47
  v37 := Tryz.zeroValue47
  t70 := Tryz.underlying46
  a70 := Tryz.isAgg46
  z70 := Tryz.sizeOf46
  v70 := Tryz.zeroValue46
  t72 := Tryz.underlying49
  a72 := Tryz.isAgg49
  z72 := Tryz.sizeOf49
  v72 := Tryz.zeroValue49
  t127 := Tryz.underlying83
  a127 := Tryz.isAgg83
  z127 := Tryz.sizeOf83
  v127 := Tryz.zeroValue83 }
theorem Tryz.zje:Builder.Extra prog Tryz.lays167_ren where
 sizeBuilder:=by kernel_rfl
 liesBuilder:=by kernel_rfl
 t5:=underlying5
 a5:=isAgg5
 z5:=sizeOf5
 v5:=zeroValue5
 infoByte:=by kernel_rfl
 cellsByte:=by kernel_rfl
 sizeByte:=by kernel_rfl
 neB5:=by decide
theorem Tryz.zjf:Builder.Extra prog Tryz.lays166_ren where
 sizeBuilder:=by kernel_rfl
 liesBuilder:=by kernel_rfl
 t5:=underlying5
 a5:=isAgg5
 z5:=sizeOf5
 v5:=zeroValue5
 infoByte:=by kernel_rfl
 cellsByte:=by kernel_rfl
 sizeByte:=by kernel_rfl
 neB5:=by decide
theorem Tryz.zjd:Builder.Extra prog Tryz.lays169_ren where
 sizeBuilder:=by kernel_rfl
 liesBuilder:=by kernel_rfl
 t5:=underlying5
 a5:=isAgg5
 z5:=sizeOf5
 v5:=zeroValue5
 infoByte:=by kernel_rfl
 cellsByte:=by kernel_rfl
 sizeByte:=by kernel_rfl
 neB5:=by decide
end Go.Proofs
namespace Go.Proofs.YtcgecpoedojhjaaGreatDoor
open Go.Proofs.Tryz
open Go.RowKit Go.Shelf
set_option linter.unusedVariables false
def oq (w:World) (b:Nat) (l:List UInt8):Prop:=Lib.IsBuilder 49 5 b b (Lib.byteCells l) w
theorem oq.but {w w':World} {b:Nat} {l:List UInt8} (h:oq w b l) (hb:But [] w w'):oq w' b l:=by
 have one:∀ p,Lib.BuilderAt 49 5 b b p (Lib.byteCells l) w→Lib.BuilderAt 49 5 b b p (Lib.byteCells l) w':=fun p ⟨h1,v,h2,h3,h4⟩=>by
  refine⟨h1,v,(hb.block b (Array.getElem?_eq_some_iff.1 h2).1 (by simp)).trans h2,h3.kept (row:=none) ⟨hb.os,hb.tape,hb.output,hb.size,fun k hk _=>hb.block k hk (by simp)⟩ ?_,h4⟩
  cases h5:v.ownBlock with
  | none=>exact .inl rfl
  | some x=>exact .inr (by simp)
 rcases h with h | h
 ·exact .inl (one _ h)
 ·exact .inr (one _ h)
theorem oq.new (w:World):oq (w.alloc (.cells #[.pointer none,.slice none 0 0] 49)) w.heap.size [] :=
 .inl ⟨Nat.le_refl _,.slice none 0 0,World.alloc_heap_new w _,World.ownsRow_nil _ _ _ _,by simp[Value.ownBlock]⟩
theorem zwn (l:List UInt8) (c:UInt8):Lib.byteCells l++[.int .u8 (c.toNat:Int)]=Lib.byteCells (l++[c]):=by
 unfold Lib.byteCells
 rw[List.map_append]
 try rfl
theorem zwm (l:List UInt8) (s:ByteArray):Lib.byteCells l++Lib.strCells s=Lib.byteCells (l++s.data.toList):=by
 unfold Lib.byteCells Lib.strCells
 rw[List.map_append]
 try rfl
theorem zem (b:Nat) (l:List UInt8) (c:UInt8) (w:World) (h:oq w b l) (hl:l.length<1000000) (hb:b<w.heap.size) :
  Calls prog 13 #[.pointer (some ⟨b,0,none⟩),.int .u8 (c.toNat:Int)] w fun e w'=>e=.returned .nilIface∧oq w' b (l++[c])∧Below b w w':=by
 have hx:=Any.Builder_WriteByte Tryz.lays167 Tryz.zje b b (Lib.byteCells l) (c.toNat:Int) w h (by unfold Lib.byteCells;rw[List.length_map];omega) (by omega)
 refine hx.mono ?_
 rintro e w' ⟨rfl,h1,h2⟩
 refine⟨rfl,.inr ?_,h2⟩
 rw[zwn] at h1
 exact h1
theorem zcq (b:Nat) (l:List UInt8) (s:ByteArray) (w:World) (h:oq w b l) (hl:l.length<1000000) (hs:s.size<1000000) (hb:b<w.heap.size) :
  Calls prog 11 #[.pointer (some ⟨b,0,none⟩),.string s] w fun e w'=>e=.returned (.tuple #[.int .i64 (s.size:Int),.nilIface])∧oq w' b (l++s.data.toList)∧Below b w w':=by
 have hx:=Any.Builder_WriteString Tryz.lays166 Tryz.zjf b b (Lib.byteCells l) s w h (by unfold Lib.byteCells;rw[List.length_map];omega) (by omega)
 refine hx.mono ?_
 rintro e w' ⟨rfl,h1,h2⟩
 refine⟨rfl,.inr ?_,h2⟩
 rw[zwm] at h1
 exact h1
theorem zgm (b:Nat) (l:List UInt8) (w:World) (h:oq w b l) (hb:b<w.heap.size) :
  Calls prog 14 #[.pointer (some ⟨b,0,none⟩)] w fun e w'=>e=.returned (.string ⟨l.toArray⟩)∧Below b w w' :=
 Any.Builder_String_any Tryz.lays169 Tryz.zjd b b l w h (by omega)
attribute [local go_sem] Oper.semAt_some
theorem qfq (d b:UInt8) (hb:b≠d):∀ ws:List (List UInt8),(∀ x ∈ ws,b ∉ x)→b ∉ jn d ws
 | [],_=>by simp[jn]
 | x::l,h=>by
  rw[zqs]
  intro hm
  rcases List.mem_append.1 hm with e | e
  ·exact h x (by simp) e
  ·cases l with
   | nil=>simp[tlw] at e
   | cons y l =>
    simp only[tlw,List.mem_cons] at e
    rcases e with e | e
    ·exact hb e
    ·exact qfq d b hb (y::l) (fun z hz=>h z (by simp[hz])) e
theorem qfr (z:Int) (h0:0≤z) (h1:z≤1000000000000000):(Lib.itoa z).length≤16:=by
 rw[zjt z h0]
 exact zaw 15 z.toNat (by omega)
theorem ztj:∀ ls:List (List UInt8),jn 10 (ls++[[]])=ls.flatMap fun x=>x++[10]
 | []=>rfl
 | x::l=>by
  rw[List.cons_append,zqs,List.flatMap_cons,← ztj l]
  cases l with
  | nil=>simp[tlw,jn]
  | cons y l=>simp[tlw]
theorem qba {a w w':World} (h:But [] a w) (hb:Below a.heap.size w w'):But [] a w':=But.of_below (h.below.trans hb)
end Go.Proofs.YtcgecpoedojhjaaGreatDoor
