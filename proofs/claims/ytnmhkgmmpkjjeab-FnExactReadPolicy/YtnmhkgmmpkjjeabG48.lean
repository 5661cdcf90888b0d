import Derived.Test.YtnmhkgmmpkjjeabRows
import Derived.Shelf.SlLaysF0
namespace Go.Proofs.Ytnmhkgmmpkjjeab
open Go.Shelf
set_option linter.unusedVariables false
set_option maxRecDepth 100000

/-! slices.SortFunc at Span, by the library's contracts: its bodies are the shelf's. -/
def laysS_ren : Go.Shelf.Ren := ⟨fun | 6 => 167 | 14 => 192 | 15 => 193 | 20 => 205 | 21 => 206 | 22 => 207 | 23 => 208 | 24 => 209 | 25 => 210 | 26 => 211 | 27 => 212 | 28 => 213 | 29 => 214 | 46 => 226 | 47 => 227 | 48 => 228 | 49 => 229 | 50 => 230 | 57 => 233 | n => n, fun | 0 => 0 | 3 => 3 | 4 => 4 | 5 => 5 | 9 => 9 | 22 => 62 | 24 => 127 | 25 => 207 | 39 => 214 | 45 => 247 | 46 => 248 | 50 => 252 | 53 => 255 | 55 => 84 | 66 => 265 | 70 => 269 | 76 => 272 | 77 => 273 | n => n, fun | n => n⟩
theorem laysS : Go.Proofs.SlLaysF0.n6 Try.prog laysS_ren := {
  mixed := by kernel_rfl
  f6 := ⟨Try.f167.name, by decide, Try.func167.trans (congrArg some (by kernel_rfl))⟩
  f14 := ⟨Try.f192.name, by decide, Try.func192.trans (congrArg some (by kernel_rfl))⟩
  f15 := Try.func193.trans (congrArg some (by kernel_rfl))
  f20 := ⟨Try.f205.name, by decide, Try.func205.trans (congrArg some (by kernel_rfl))⟩
  f21 := ⟨Try.f206.name, by decide, Try.func206.trans (congrArg some (by kernel_rfl))⟩
  f22 := ⟨Try.f207.name, by decide, Try.func207.trans (congrArg some (by kernel_rfl))⟩
  f23 := ⟨Try.f208.name, by decide, Try.func208.trans (congrArg some (by kernel_rfl))⟩
  f24 := ⟨Try.f209.name, by decide, Try.func209.trans (congrArg some (by kernel_rfl))⟩
  f25 := ⟨Try.f210.name, by decide, Try.func210.trans (congrArg some (by kernel_rfl))⟩
  f26 := ⟨Try.f211.name, by decide, Try.func211.trans (congrArg some (by kernel_rfl))⟩
  f27 := ⟨Try.f212.name, by decide, Try.func212.trans (congrArg some (by kernel_rfl))⟩
  f28 := Try.func213.trans (congrArg some (by kernel_rfl))
  f29 := Try.func214.trans (congrArg some (by kernel_rfl))
  f46 := ⟨Try.f226.name, by decide, Try.func226.trans (congrArg some (by kernel_rfl))⟩
  f47 := Try.func227.trans (congrArg some (by kernel_rfl))
  f48 := Try.func228.trans (congrArg some (by kernel_rfl))
  f49 := ⟨Try.f229.name, by decide, Try.func229.trans (congrArg some (by kernel_rfl))⟩
  f50 := ⟨Try.f230.name, by decide, Try.func230.trans (congrArg some (by kernel_rfl))⟩
  f57 := ⟨Try.f233.name, by decide, Try.func233.trans (congrArg some (by kernel_rfl))⟩
  t0 := Try.underlying0
  a0 := Try.isAgg0
  z0 := Try.sizeOf0
  v0 := Try.zeroValue0
  t3 := Try.underlying3
  a3 := Try.isAgg3
  z3 := Try.sizeOf3
  v3 := Try.zeroValue3
  t4 := Try.underlying4
  a4 := Try.isAgg4
  z4 := Try.sizeOf4
  v4 := Try.zeroValue4
  t5 := Try.underlying5
  a5 := Try.isAgg5
  z5 := Try.sizeOf5
  v5 := Try.zeroValue5
  t9 := Try.underlying9
  a9 := Try.isAgg9
  z9 := Try.sizeOf9
  v9 := Try.zeroValue9
  t22 := Try.underlying62
  a22 := Try.isAgg62
  z22 := Try.sizeOf62
  v22 := Try.zeroValue62
  t25 := Try.underlying207
  a25 := Try.isAgg207
  z25 := Try.sizeOf207
  v25 := Try.zeroValue207
  t39 := Try.underlying214
  a39 := Try.isAgg214
  z39 := Try.sizeOf214
  v39 := Try.zeroValue214
  t45 := Try.underlying247
  a45 := Try.isAgg247
  z45 := Try.sizeOf247
  v45 := Try.zeroValue247
  t46 := Try.underlying248
  a46 := Try.isAgg248
  z46 := Try.sizeOf248
  v46 := Try.zeroValue248
  t50 := Try.underlying252
  a50 := Try.isAgg252
  z50 := Try.sizeOf252
  v50 := Try.zeroValue252
  t53 := Try.underlying255
  a53 := Try.isAgg255
  z53 := Try.sizeOf255
  v53 := Try.zeroValue255
  t55 := Try.underlying84
  a55 := Try.isAgg84
  z55 := Try.sizeOf84
  v55 := Try.zeroValue84
  t66 := Try.underlying265
  a66 := Try.isAgg265
  z66 := Try.sizeOf265
  v66 := Try.zeroValue265
  t70 := Try.underlying269
  a70 := Try.isAgg269
  z70 := Try.sizeOf269
  v70 := Try.zeroValue269
  t76 := Try.underlying272
  a76 := Try.isAgg272
  z76 := Try.sizeOf272
  v76 := Try.zeroValue272
  t77 := Try.underlying273
  a77 := Try.isAgg273
  z77 := Try.sizeOf273
  v77 := Try.zeroValue273 }
end Go.Proofs.Ytnmhkgmmpkjjeab
