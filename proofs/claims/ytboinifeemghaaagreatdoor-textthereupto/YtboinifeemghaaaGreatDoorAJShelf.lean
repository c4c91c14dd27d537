/- Shelf, Four2, Six4, Six5, Six6, Four3, Four4, SixP, Six7, Six7b, Six8, Six9, Six10: what the theorem needs of these texts. No conditions beyond those that are written. -/
import Derived.Test.YtboinifeemghaaaGreatDoorAJF0
set_option linter.unusedSimpArgs false
set_option linter.unusedVariables false
set_option maxHeartbeats 8000000
set_option maxRecDepth 100000
namespace Go.Proofs
open Go.Shelf
def Tryz.lays169_ren : Go.Shelf.Ren := ⟨fun | 169 => 90 | n => n, fun | 70 => 117 | 9 => 9 | 0 => 0 | 72 => 120 | 37 => 118 | 127 => 159 | 3 => 3 | 5 => 5 | n => n, fun | n => n⟩
def Tryz.lays241_ren : Go.Shelf.Ren := ⟨fun | 241 => 125 | 277 => 149 | n => n, fun | 70 => 117 | 3 => 3 | 0 => 0 | 72 => 120 | 37 => 118 | 5 => 5 | n => n, fun | n => n⟩
def Tryz.lays165_ren : Go.Shelf.Ren := ⟨fun | 165 => 88 | 240 => 124 | 241 => 125 | 276 => 148 | 277 => 149 | n => n, fun | 70 => 117 | 3 => 3 | 0 => 0 | 4 => 4 | 9 => 9 | 20 => 20 | 72 => 120 | 37 => 118 | 164 => 180 | 5 => 5 | n => n, fun | n => n⟩
def Tryz.lays156_ren : Go.Shelf.Ren := ⟨fun | 156 => 45 | 165 => 88 | 166 => 89 | 169 => 90 | 240 => 124 | 241 => 125 | 276 => 148 | 277 => 149 | n => n, fun | 31 => 77 | 9 => 9 | 3 => 3 | 4 => 4 | 0 => 0 | 20 => 20 | 72 => 120 | 76 => 124 | 70 => 117 | 37 => 118 | 75 => 123 | 127 => 159 | 164 => 180 | 5 => 5 | 80 => 126 | n => n, fun | n => n⟩
theorem Tryz.lays156 : Go.Proofs.Lays.n156 Tryz.prog Tryz.lays156_ren := {
 mixed := by kernel_rfl
 f156 := Tryz.func45.trans (congrArg some (by kernel_rfl))
 f165 := Tryz.func88.trans (congrArg some (by kernel_rfl))
 f166 := Tryz.func89.trans (congrArg some (by kernel_rfl))
 f169 := Tryz.func90.trans (congrArg some (by kernel_rfl))
 f240 := Tryz.func124.trans (congrArg some (by kernel_rfl))
 f241 := Tryz.func125.trans (congrArg some (by kernel_rfl))
 f276 := Tryz.func148.trans (congrArg some (by kernel_rfl))
 f277 := Tryz.func149.trans (congrArg some (by kernel_rfl))
 t0 := Tryz.underlying0
 a0 := Tryz.isAgg0
 z0 := Tryz.sizeOf0
 v0 := Tryz.zeroValue0
 t3 := Tryz.underlying3
 a3 := Tryz.isAgg3
 z3 := Tryz.sizeOf3
 v3 := Tryz.zeroValue3
 t4 := Tryz.underlying4
 a4 := Tryz.isAgg4
 z4 := Tryz.sizeOf4
 v4 := Tryz.zeroValue4
 t9 := Tryz.underlying9
 a9 := Tryz.isAgg9
 z9 := Tryz.sizeOf9
 v9 := Tryz.zeroValue9
 t20 := Tryz.underlying20
 a20 := Tryz.isAgg20
 z20 := Tryz.sizeOf20
 v20 := Tryz.zeroValue20
 t31 := Tryz.underlying77
 a31 := Tryz.isAgg77
 z31 := Tryz.sizeOf77
 v31 := Tryz.zeroValue77
 t37 := Tryz.underlying118
 a37 := Tryz.isAgg118
 z37 := Tryz.sizeOf118
 v37 := Tryz.zeroValue118
 t70 := Tryz.underlying117
 a70 := Tryz.isAgg117
 z70 := Tryz.sizeOf117
 v70 := Tryz.zeroValue117
 t72 := Tryz.underlying120
 a72 := Tryz.isAgg120
 z72 := Tryz.sizeOf120
 v72 := Tryz.zeroValue120
 t75 := Tryz.underlying123
 a75 := Tryz.isAgg123
 z75 := Tryz.sizeOf123
 v75 := Tryz.zeroValue123
 t76 := Tryz.underlying124
 a76 := Tryz.isAgg124
 z76 := Tryz.sizeOf124
 v76 := Tryz.zeroValue124
 t127 := Tryz.underlying159
 a127 := Tryz.isAgg159
 z127 := Tryz.sizeOf159
 v127 := Tryz.zeroValue159
 t164 := Tryz.underlying180
 a164 := Tryz.isAgg180
 z164 := Tryz.sizeOf180
 v164 := Tryz.zeroValue180 }
theorem Tryz.Builder_Extra_156 : Builder.Extra Tryz.prog Tryz.lays156_ren := {
 sizeBuilder := by kernel_rfl
 liesBuilder := by kernel_rfl
 t5 := Tryz.underlying5
 a5 := Tryz.isAgg5
 z5 := Tryz.sizeOf5
 v5 := Tryz.zeroValue5
 infoByte := by kernel_rfl
 cellsByte := by kernel_rfl
 sizeByte := by kernel_rfl
 neB5 := by decide }
open Go.RowKit in
theorem Tryz.strings_Join (bk o c : Nat) (xs : List ByteArray) (sep : ByteArray) (w : World) (hcells : ∀ (j : Nat) x, xs[j]? = some x → w.cell? ⟨bk, o + j, none⟩ = some (.string x)) (hbk : bk < w.heap.size) (hN : xs.length ≤ 140737488355328) (hcap : xs.length ≤ c) (hlen : (Lib.join (xs.map (·.data.toList)) sep.data.toList).length ≤ 140737488355328) :
 Calls Tryz.prog 45 #[.slice (some ⟨bk, o, none⟩) xs.length c, .string sep] w fun e w' => e = .returned (.string ⟨(Lib.join (xs.map (·.data.toList)) sep.data.toList).toArray⟩) ∧ Below w.heap.size w w' := Any.strings_Join Tryz.lays156 Tryz.Builder_Extra_156 bk o c xs sep w hcells hbk hN hcap hlen
def Tryz.lays231_ren : Go.Shelf.Ren := ⟨fun | 231 => 144 | n => n, fun | 9 => 9 | 5 => 5 | 3 => 3 | 4 => 4 | n => n, fun | n => n⟩
def Tryz.lays161_ren : Go.Shelf.Ren := ⟨fun | 161 => 123 | 231 => 144 | 227 => 145 | 233 => 146 | 235 => 147 | 228 => 164 | 197 => 150 | 151 => 165 | 260 => 166 | 152 => 174 | 137 => 177 | 119 => 178 | 224 => 129 | 225 => 128 | 217 => 127 | 266 => 151 | n => n, fun | 9 => 9 | 4 => 4 | 3 => 3 | 5 => 5 | 117 => 176 | 116 => 175 | 0 => 0 | 124 => 179 | 105 => 183 | 21 => 21 | 119 => 208 | 46 => 70 | 139 => 211 | 138 => 210 | n => n, fun | 3 => 6 | 4 => 7 | n => n⟩
theorem Tryz.lays161 : Go.Proofs.Lays.n161 Tryz.prog Tryz.lays161_ren := {
 mixed := by kernel_rfl
 f119 := Tryz.func178.trans (congrArg some (by kernel_rfl))
 f137 := Tryz.func177.trans (congrArg some (by kernel_rfl))
 f151 := Tryz.func165.trans (congrArg some (by kernel_rfl))
 f152 := Tryz.func174.trans (congrArg some (by kernel_rfl))
 f161 := Tryz.func123.trans (congrArg some (by kernel_rfl))
 f197 := Tryz.func150.trans (congrArg some (by kernel_rfl))
 f217 := Tryz.func127.trans (congrArg some (by kernel_rfl))
 f224 := Tryz.func129.trans (congrArg some (by kernel_rfl))
 f225 := Tryz.func128.trans (congrArg some (by kernel_rfl))
 f227 := Tryz.func145.trans (congrArg some (by kernel_rfl))
 f228 := Tryz.func164.trans (congrArg some (by kernel_rfl))
 f231 := Tryz.func144.trans (congrArg some (by kernel_rfl))
 f233 := Tryz.func146.trans (congrArg some (by kernel_rfl))
 f235 := Tryz.func147.trans (congrArg some (by kernel_rfl))
 f260 := Tryz.func166.trans (congrArg some (by kernel_rfl))
 f266 := Tryz.func151.trans (congrArg some (by kernel_rfl))
 t0 := Tryz.underlying0
 a0 := Tryz.isAgg0
 z0 := Tryz.sizeOf0
 v0 := Tryz.zeroValue0
 t3 := Tryz.underlying3
 a3 := Tryz.isAgg3
 z3 := Tryz.sizeOf3
 v3 := Tryz.zeroValue3
 t4 := Tryz.underlying4
 a4 := Tryz.isAgg4
 z4 := Tryz.sizeOf4
 v4 := Tryz.zeroValue4
 t5 := Tryz.underlying5
 a5 := Tryz.isAgg5
 z5 := Tryz.sizeOf5
 v5 := Tryz.zeroValue5
 t9 := Tryz.underlying9
 a9 := Tryz.isAgg9
 z9 := Tryz.sizeOf9
 v9 := Tryz.zeroValue9
 t21 := Tryz.underlying21
 a21 := Tryz.isAgg21
 z21 := Tryz.sizeOf21
 v21 := Tryz.zeroValue21
 t46 := Tryz.underlying70
 a46 := Tryz.isAgg70
 z46 := Tryz.sizeOf70
 v46 := Tryz.zeroValue70
 t105 := Tryz.underlying183
 a105 := Tryz.isAgg183
 z105 := Tryz.sizeOf183
 v105 := Tryz.zeroValue183
 t116 := Tryz.underlying175
 a116 := Tryz.isAgg175
 z116 := Tryz.sizeOf175
 t117 := Tryz.underlying176
 a117 := Tryz.isAgg176
 z117 := Tryz.sizeOf176
 v117 := Tryz.zeroValue176
 t119 := Tryz.underlying208
 a119 := Tryz.isAgg208
 z119 := Tryz.sizeOf208
 t124 := Tryz.underlying179
 a124 := Tryz.isAgg179
 z124 := Tryz.sizeOf179
 v124 := Tryz.zeroValue179
 t138 := Tryz.underlying210
 a138 := Tryz.isAgg210
 z138 := Tryz.sizeOf210
 v138 := Tryz.zeroValue210
 t139 := Tryz.underlying211
 a139 := Tryz.isAgg211
 z139 := Tryz.sizeOf211
 v139 := Tryz.zeroValue211
 g3 := by kernel_rfl
 g4 := by kernel_rfl }
open Go.RowKit in
theorem Tryz.strings_TrimLeft_one (s : ByteArray) (c : UInt8) (hc : c.toNat < 128) (w : World) :
 Calls Tryz.prog 123 #[.string s, .string ⟨#[c]⟩] w fun e w' => e = .returned (.string ⟨(Lib.trimLeftB s.data.toList c).toArray⟩) ∧ w' = w := Any.strings_TrimLeft_one Tryz.lays161 s c hc w
def Tryz.lays119_ren : Go.Shelf.Ren := ⟨fun | 119 => 178 | n => n, fun | 21 => 21 | 4 => 4 | n => n, fun | n => n⟩
def Tryz.lays134_ren : Go.Shelf.Ren := ⟨fun | 134 => 163 | 129 => 170 | n => n, fun | 53 => 24 | 3 => 3 | 4 => 4 | 46 => 70 | 5 => 5 | 9 => 9 | n => n, fun | n => n⟩
theorem Tryz.lays134 : Go.Proofs.Lays.n134 Tryz.prog Tryz.lays134_ren := {
 mixed := by kernel_rfl
 f129 := Tryz.func170.trans (congrArg some (by kernel_rfl))
 f134 := Tryz.func163.trans (congrArg some (by kernel_rfl))
 t3 := Tryz.underlying3
 a3 := Tryz.isAgg3
 z3 := Tryz.sizeOf3
 v3 := Tryz.zeroValue3
 t4 := Tryz.underlying4
 a4 := Tryz.isAgg4
 z4 := Tryz.sizeOf4
 v4 := Tryz.zeroValue4
 t5 := Tryz.underlying5
 a5 := Tryz.isAgg5
 z5 := Tryz.sizeOf5
 v5 := Tryz.zeroValue5
 t9 := Tryz.underlying9
 a9 := Tryz.isAgg9
 z9 := Tryz.sizeOf9
 v9 := Tryz.zeroValue9
 t46 := Tryz.underlying70
 a46 := Tryz.isAgg70
 z46 := Tryz.sizeOf70
 v46 := Tryz.zeroValue70
 t53 := Tryz.underlying24
 a53 := Tryz.isAgg24
 z53 := Tryz.sizeOf24
 v53 := Tryz.zeroValue24 }
theorem Tryz.bits_LeadingZeros64 (x : Int) (w : World) (h0 : 0 ≤ x) (h1 : x ≤ 18446744073709551615) :
 Calls Tryz.prog 163 #[.int .u64 x] w fun e w' => e = .returned (.int .i64 (64 - (Lib.bitLen x.toNat : Int))) ∧ w' = w := Any.bits_LeadingZeros64 Tryz.lays134 x w h0 h1
def Tryz.lays137_ren : Go.Shelf.Ren := ⟨fun | 137 => 177 | 217 => 127 | 266 => 151 | n => n, fun | 9 => 9 | 5 => 5 | 3 => 3 | n => n, fun | n => n⟩
def Tryz.lays195_ren : Go.Shelf.Ren := ⟨fun | 195 => 91 | n => n, fun | 9 => 9 | 3 => 3 | 0 => 0 | 4 => 4 | n => n, fun | n => n⟩
def Tryz.lays129_ren : Go.Shelf.Ren := ⟨fun | 129 => 170 | n => n, fun | 53 => 24 | 3 => 3 | 4 => 4 | 46 => 70 | 5 => 5 | 9 => 9 | n => n, fun | n => n⟩
def Tryz.lays317_ren : Go.Shelf.Ren := ⟨fun | 317 => 169 | n => n, fun | 3 => 3 | 46 => 70 | n => n, fun | n => n⟩
def Tryz.lays318_ren : Go.Shelf.Ren := ⟨fun | 318 => 171 | n => n, fun | 3 => 3 | 4 => 4 | n => n, fun | n => n⟩
def Tryz.lays283_ren : Go.Shelf.Ren := ⟨fun | 283 => 159 | n => n, fun | 3 => 3 | 9 => 9 | 4 => 4 | n => n, fun | n => n⟩
def Tryz.laysM284_ren : Go.Shelf.Ren := ⟨fun | 284 => 160 | 129 => 170 | 317 => 169 | 318 => 171 | n => n, fun | 53 => 24 | 3 => 3 | 212 => 203 | 0 => 0 | 4 => 4 | 46 => 70 | 5 => 5 | 9 => 9 | n => n, fun | 17 => 5 | n => n⟩
def Tryz.lays285_ren : Go.Shelf.Ren := ⟨fun | 285 => 161 | n => n, fun | 37 => 118 | 53 => 24 | 3 => 3 | 4 => 4 | 51 => 69 | 9 => 9 | 5 => 5 | 0 => 0 | n => n, fun | n => n⟩
def Tryz.laysM246_ren : Go.Shelf.Ren := ⟨fun | 246 => 141 | 283 => 159 | 284 => 160 | 285 => 161 | 286 => 162 | 129 => 170 | 317 => 169 | 318 => 171 | 319 => 172 | 320 => 173 | 337 => 175 | 338 => 176 | n => n, fun | 2 => 2 | 3 => 3 | 9 => 9 | 4 => 4 | 171 => 192 | 0 => 0 | 53 => 24 | 37 => 118 | 5 => 5 | 173 => 195 | 212 => 203 | 51 => 69 | 20 => 20 | 213 => 204 | 46 => 70 | 232 => 217 | 233 => 218 | n => n, fun | 17 => 5 | 18 => 8 | 19 => 9 | n => n⟩
def Tryz.lays246_ren : Go.Shelf.Ren := ⟨fun | 246 => 141 | 283 => 159 | 284 => 160 | 285 => 161 | 286 => 162 | 129 => 170 | 317 => 169 | 318 => 171 | 319 => 172 | 320 => 173 | 337 => 175 | 338 => 176 | n => n, fun | 2 => 2 | 3 => 3 | 9 => 9 | 4 => 4 | 171 => 192 | 0 => 0 | 53 => 24 | 37 => 118 | 5 => 5 | 173 => 195 | 212 => 203 | 51 => 69 | 20 => 20 | 213 => 204 | 46 => 70 | 232 => 217 | 233 => 218 | n => n, fun | 17 => 5 | 18 => 8 | 19 => 9 | n => n⟩
def Tryz.laysM243_ren : Go.Shelf.Ren := ⟨fun | 243 => 117 | 246 => 141 | 283 => 159 | 284 => 160 | 285 => 161 | 286 => 162 | 129 => 170 | 317 => 169 | 318 => 171 | 319 => 172 | 320 => 173 | 337 => 175 | 338 => 176 | n => n, fun | 3 => 3 | 9 => 9 | 2 => 2 | 4 => 4 | 171 => 192 | 0 => 0 | 53 => 24 | 37 => 118 | 5 => 5 | 173 => 195 | 212 => 203 | 51 => 69 | 20 => 20 | 213 => 204 | 46 => 70 | 232 => 217 | 233 => 218 | n => n, fun | 17 => 5 | 18 => 8 | 19 => 9 | n => n⟩
def Tryz.lays243_ren : Go.Shelf.Ren := ⟨fun | 243 => 117 | 246 => 141 | 283 => 159 | 284 => 160 | 285 => 161 | 286 => 162 | 129 => 170 | 317 => 169 | 318 => 171 | 319 => 172 | 320 => 173 | 337 => 175 | 338 => 176 | n => n, fun | 3 => 3 | 9 => 9 | 2 => 2 | 4 => 4 | 171 => 192 | 0 => 0 | 53 => 24 | 37 => 118 | 5 => 5 | 173 => 195 | 212 => 203 | 51 => 69 | 20 => 20 | 213 => 204 | 46 => 70 | 232 => 217 | 233 => 218 | n => n, fun | 17 => 5 | 18 => 8 | 19 => 9 | n => n⟩
def Tryz.laysM171_ren : Go.Shelf.Ren := ⟨fun | 171 => 77 | 243 => 117 | 246 => 141 | 283 => 159 | 284 => 160 | 285 => 161 | 286 => 162 | 129 => 170 | 317 => 169 | 318 => 171 | 319 => 172 | 320 => 173 | 337 => 175 | 338 => 176 | n => n, fun | 3 => 3 | 9 => 9 | 2 => 2 | 4 => 4 | 171 => 192 | 0 => 0 | 53 => 24 | 37 => 118 | 5 => 5 | 173 => 195 | 212 => 203 | 51 => 69 | 20 => 20 | 213 => 204 | 46 => 70 | 232 => 217 | 233 => 218 | n => n, fun | 17 => 5 | 18 => 8 | 19 => 9 | n => n⟩
theorem Tryz.laysM171 : Go.Proofs.LaysM.n171 Tryz.prog Tryz.laysM171_ren := {
 mixed := by kernel_rfl
 f129 := Tryz.func170.trans (congrArg some (by kernel_rfl))
 f171 := Tryz.func77.trans (congrArg some (by kernel_rfl))
 f243 := Tryz.func117.trans (congrArg some (by kernel_rfl))
 f246 := Tryz.func141.trans (congrArg some (by kernel_rfl))
 f283 := Tryz.func159.trans (congrArg some (by kernel_rfl))
 f284 := Tryz.func160.trans (congrArg some (by kernel_rfl))
 f285 := Tryz.func161.trans (congrArg some (by kernel_rfl))
 f286 := Tryz.func162.trans (congrArg some (by kernel_rfl))
 f317 := Tryz.func169.trans (congrArg some (by kernel_rfl))
 f318 := Tryz.func171.trans (congrArg some (by kernel_rfl))
 f319 := Tryz.func172.trans (congrArg some (by kernel_rfl))
 f320 := Tryz.func173.trans (congrArg some (by kernel_rfl))
 f337 := Tryz.func175.trans (congrArg some (by kernel_rfl))
 f338 := Tryz.func176.trans (congrArg some (by kernel_rfl))
 t0 := Tryz.underlying0
 a0 := Tryz.isAgg0
 z0 := Tryz.sizeOf0
 v0 := Tryz.zeroValue0
 t2 := Tryz.underlying2
 a2 := Tryz.isAgg2
 z2 := Tryz.sizeOf2
 v2 := Tryz.zeroValue2
 t3 := Tryz.underlying3
 a3 := Tryz.isAgg3
 z3 := Tryz.sizeOf3
 v3 := Tryz.zeroValue3
 t4 := Tryz.underlying4
 a4 := Tryz.isAgg4
 z4 := Tryz.sizeOf4
 v4 := Tryz.zeroValue4
 t5 := Tryz.underlying5
 a5 := Tryz.isAgg5
 z5 := Tryz.sizeOf5
 v5 := Tryz.zeroValue5
 t9 := Tryz.underlying9
 a9 := Tryz.isAgg9
 z9 := Tryz.sizeOf9
 v9 := Tryz.zeroValue9
 t20 := Tryz.underlying20
 a20 := Tryz.isAgg20
 z20 := Tryz.sizeOf20
 v20 := Tryz.zeroValue20
 t37 := Tryz.underlying118
 a37 := Tryz.isAgg118
 z37 := Tryz.sizeOf118
 v37 := Tryz.zeroValue118
 t46 := Tryz.underlying70
 a46 := Tryz.isAgg70
 z46 := Tryz.sizeOf70
 v46 := Tryz.zeroValue70
 t51 := Tryz.underlying69
 a51 := Tryz.isAgg69
 z51 := Tryz.sizeOf69
 v51 := Tryz.zeroValue69
 t53 := Tryz.underlying24
 a53 := Tryz.isAgg24
 z53 := Tryz.sizeOf24
 v53 := Tryz.zeroValue24
 t171 := Tryz.underlying192
 a171 := Tryz.isAgg192
 z171 := Tryz.sizeOf192
 v171 := Tryz.zeroValue192
 t173 := Tryz.underlying195
 a173 := Tryz.isAgg195
 z173 := Tryz.sizeOf195
 v173 := Tryz.zeroValue195
 t212 := Tryz.underlying203
 a212 := Tryz.isAgg203
 z212 := Tryz.sizeOf203
 v212 := Tryz.zeroValue203
 t213 := Tryz.underlying204
 a213 := Tryz.isAgg204
 z213 := Tryz.sizeOf204
 t232 := Tryz.underlying217
 a232 := Tryz.isAgg217
 z232 := Tryz.sizeOf217
 v232 := Tryz.zeroValue217
 t233 := Tryz.underlying218
 a233 := Tryz.isAgg218
 z233 := Tryz.sizeOf218
 v233 := Tryz.zeroValue218
 g17 := by kernel_rfl
 g18 := by kernel_rfl
 g19 := by kernel_rfl
 i0 := by kernel_rfl
 i2 := by kernel_rfl
 i3 := by kernel_rfl
 i4 := by kernel_rfl
 i5 := by kernel_rfl
 i9 := by kernel_rfl
 i20 := by kernel_rfl
 i37 := by kernel_rfl
 i46 := by kernel_rfl
 i51 := by kernel_rfl
 i53 := by kernel_rfl
 i171 := by kernel_rfl
 i173 := by kernel_rfl
 i212 := by kernel_rfl
 i232 := by kernel_rfl
 i233 := by kernel_rfl
 m17 := by kernel_rfl
 m18 := by kernel_rfl
 m19 := by kernel_rfl }
open Go.RowKit Go.Sort Go.Lib in
theorem Tryz.strconv_Itoa (n : Int) (h0 : -9223372036854775808 ≤ n) (h1 : n ≤ 9223372036854775807) (w : World) (htab : Lib.TabIs Tryz.prog w "internal/strconv.uint64pow10" .u64 Lib.pow10Tab) :
 Calls Tryz.prog 77 #[.int .i64 n] w fun e w' => e = .returned (.string ⟨(Lib.itoa n).toArray⟩) ∧ ∃ k os, w' = grow (w.drewN k) os := Any.strconv_Itoa Tryz.laysM171 n h0 h1 w htab
def Tryz.lays171_ren : Go.Shelf.Ren := ⟨fun | 171 => 77 | 243 => 117 | 246 => 141 | 283 => 159 | 284 => 160 | 285 => 161 | 286 => 162 | 129 => 170 | 317 => 169 | 318 => 171 | 319 => 172 | 320 => 173 | 337 => 175 | 338 => 176 | n => n, fun | 3 => 3 | 9 => 9 | 2 => 2 | 4 => 4 | 171 => 192 | 0 => 0 | 53 => 24 | 37 => 118 | 5 => 5 | 173 => 195 | 212 => 203 | 51 => 69 | 20 => 20 | 213 => 204 | 46 => 70 | 232 => 217 | 233 => 218 | n => n, fun | 17 => 5 | 18 => 8 | 19 => 9 | n => n⟩
def Tryz.laysM316_ren : Go.Shelf.Ren := ⟨fun | 316 => 167 | n => n, fun | 9 => 9 | 3 => 3 | 4 => 4 | 37 => 118 | 0 => 0 | 127 => 159 | 5 => 5 | n => n, fun | n => n⟩
def Tryz.laysM279_ren : Go.Shelf.Ren := ⟨fun | 279 => 155 | 316 => 167 | n => n, fun | 9 => 9 | 168 => 189 | 75 => 123 | 210 => 200 | 3 => 3 | 4 => 4 | 37 => 118 | 0 => 0 | 127 => 159 | 80 => 126 | 5 => 5 | n => n, fun | 15 => 3 | n => n⟩
def Tryz.laysC245_ren : Go.Shelf.Ren := ⟨fun | 245 => 132 | 279 => 155 | 280 => 156 | 281 => 157 | 282 => 158 | 316 => 167 | 171 => 77 | 205 => 168 | 243 => 117 | 246 => 141 | 283 => 159 | 284 => 160 | 285 => 161 | 286 => 162 | 129 => 170 | 317 => 169 | 318 => 171 | 319 => 172 | 320 => 173 | 337 => 175 | 338 => 176 | n => n, fun | 9 => 9 | 3 => 3 | 75 => 123 | 167 => 187 | 4 => 4 | 168 => 189 | 210 => 200 | 37 => 118 | 0 => 0 | 127 => 159 | 145 => 214 | 143 => 212 | 2 => 2 | 171 => 192 | 53 => 24 | 5 => 5 | 173 => 195 | 212 => 203 | 51 => 69 | 20 => 20 | 213 => 204 | 46 => 70 | 232 => 217 | 233 => 218 | 80 => 126 | n => n, fun | 15 => 3 | 16 => 4 | 17 => 5 | 18 => 8 | 19 => 9 | n => n⟩
theorem Tryz.laysC245 : Go.Proofs.LaysC.n245 Tryz.prog Tryz.laysC245_ren := {
 mixed := by kernel_rfl
 f129 := Tryz.func170.trans (congrArg some (by kernel_rfl))
 f171 := Tryz.func77.trans (congrArg some (by kernel_rfl))
 f205 := Tryz.func168.trans (congrArg some (by kernel_rfl))
 f243 := Tryz.func117.trans (congrArg some (by kernel_rfl))
 f245 := Tryz.func132.trans (congrArg some (by kernel_rfl))
 f246 := Tryz.func141.trans (congrArg some (by kernel_rfl))
 f279 := Tryz.func155.trans (congrArg some (by kernel_rfl))
 f280 := Tryz.func156.trans (congrArg some (by kernel_rfl))
 f281 := Tryz.func157.trans (congrArg some (by kernel_rfl))
 f282 := Tryz.func158.trans (congrArg some (by kernel_rfl))
 f283 := Tryz.func159.trans (congrArg some (by kernel_rfl))
 f284 := Tryz.func160.trans (congrArg some (by kernel_rfl))
 f285 := Tryz.func161.trans (congrArg some (by kernel_rfl))
 f286 := Tryz.func162.trans (congrArg some (by kernel_rfl))
 f316 := Tryz.func167.trans (congrArg some (by kernel_rfl))
 f317 := Tryz.func169.trans (congrArg some (by kernel_rfl))
 f318 := Tryz.func171.trans (congrArg some (by kernel_rfl))
 f319 := Tryz.func172.trans (congrArg some (by kernel_rfl))
 f320 := Tryz.func173.trans (congrArg some (by kernel_rfl))
 f337 := Tryz.func175.trans (congrArg some (by kernel_rfl))
 f338 := Tryz.func176.trans (congrArg some (by kernel_rfl))
 t0 := Tryz.underlying0
 a0 := Tryz.isAgg0
 z0 := Tryz.sizeOf0
 v0 := Tryz.zeroValue0
 t2 := Tryz.underlying2
 a2 := Tryz.isAgg2
 z2 := Tryz.sizeOf2
 v2 := Tryz.zeroValue2
 t3 := Tryz.underlying3
 a3 := Tryz.isAgg3
 z3 := Tryz.sizeOf3
 v3 := Tryz.zeroValue3
 t4 := Tryz.underlying4
 a4 := Tryz.isAgg4
 z4 := Tryz.sizeOf4
 v4 := Tryz.zeroValue4
 t5 := Tryz.underlying5
 a5 := Tryz.isAgg5
 z5 := Tryz.sizeOf5
 v5 := Tryz.zeroValue5
 t9 := Tryz.underlying9
 a9 := Tryz.isAgg9
 z9 := Tryz.sizeOf9
 v9 := Tryz.zeroValue9
 t20 := Tryz.underlying20
 a20 := Tryz.isAgg20
 z20 := Tryz.sizeOf20
 v20 := Tryz.zeroValue20
 t37 := Tryz.underlying118
 a37 := Tryz.isAgg118
 z37 := Tryz.sizeOf118
 v37 := Tryz.zeroValue118
 t46 := Tryz.underlying70
 a46 := Tryz.isAgg70
 z46 := Tryz.sizeOf70
 v46 := Tryz.zeroValue70
 t51 := Tryz.underlying69
 a51 := Tryz.isAgg69
 z51 := Tryz.sizeOf69
 v51 := Tryz.zeroValue69
 t53 := Tryz.underlying24
 a53 := Tryz.isAgg24
 z53 := Tryz.sizeOf24
 v53 := Tryz.zeroValue24
 t75 := Tryz.underlying123
 a75 := Tryz.isAgg123
 z75 := Tryz.sizeOf123
 v75 := Tryz.zeroValue123
 t127 := Tryz.underlying159
 a127 := Tryz.isAgg159
 z127 := Tryz.sizeOf159
 v127 := Tryz.zeroValue159
 t143 := Tryz.underlying212
 a143 := Tryz.isAgg212
 z143 := Tryz.sizeOf212
 v143 := Tryz.zeroValue212
 t145 := Tryz.underlying214
 a145 := Tryz.isAgg214
 z145 := Tryz.sizeOf214
 v145 := Tryz.zeroValue214
 t167 := Tryz.underlying187
 a167 := Tryz.isAgg187
 z167 := Tryz.sizeOf187
 v167 := Tryz.zeroValue187
 t168 := Tryz.underlying189
 a168 := Tryz.isAgg189
 z168 := Tryz.sizeOf189
 v168 := Tryz.zeroValue189
 t171 := Tryz.underlying192
 a171 := Tryz.isAgg192
 z171 := Tryz.sizeOf192
 v171 := Tryz.zeroValue192
 t173 := Tryz.underlying195
 a173 := Tryz.isAgg195
 z173 := Tryz.sizeOf195
 v173 := Tryz.zeroValue195
 t210 := Tryz.underlying200
 a210 := Tryz.isAgg200
 z210 := Tryz.sizeOf200
 v210 := Tryz.zeroValue200
 t212 := Tryz.underlying203
 a212 := Tryz.isAgg203
 z212 := Tryz.sizeOf203
 v212 := Tryz.zeroValue203
 t213 := Tryz.underlying204
 a213 := Tryz.isAgg204
 z213 := Tryz.sizeOf204
 t232 := Tryz.underlying217
 a232 := Tryz.isAgg217
 z232 := Tryz.sizeOf217
 v232 := Tryz.zeroValue217
 t233 := Tryz.underlying218
 a233 := Tryz.isAgg218
 z233 := Tryz.sizeOf218
 v233 := Tryz.zeroValue218
 g15 := by kernel_rfl
 g16 := by kernel_rfl
 g17 := by kernel_rfl
 g18 := by kernel_rfl
 g19 := by kernel_rfl
 t80 := Tryz.underlying126
 a80 := Tryz.isAgg126
 z80 := Tryz.sizeOf126
 v80 := Tryz.zeroValue126
 i0 := by kernel_rfl
 i2 := by kernel_rfl
 i3 := by kernel_rfl
 i4 := by kernel_rfl
 i5 := by kernel_rfl
 i9 := by kernel_rfl
 i20 := by kernel_rfl
 i37 := by kernel_rfl
 i46 := by kernel_rfl
 i51 := by kernel_rfl
 i53 := by kernel_rfl
 i75 := by kernel_rfl
 i80 := by kernel_rfl
 i127 := by kernel_rfl
 i143 := by kernel_rfl
 i145 := by kernel_rfl
 i167 := by kernel_rfl
 i168 := by kernel_rfl
 i171 := by kernel_rfl
 i173 := by kernel_rfl
 i210 := by kernel_rfl
 i212 := by kernel_rfl
 i232 := by kernel_rfl
 i233 := by kernel_rfl
 m15 := by kernel_rfl
 m16 := by kernel_rfl
 m17 := by kernel_rfl
 m18 := by kernel_rfl
 m19 := by kernel_rfl
 c0 := by kernel_rfl
 c2 := by kernel_rfl
 c3 := by kernel_rfl
 c4 := by kernel_rfl
 c5 := by kernel_rfl
 c9 := by kernel_rfl
 c20 := by kernel_rfl
 c37 := by kernel_rfl
 c46 := by kernel_rfl
 c51 := by kernel_rfl
 c53 := by kernel_rfl
 c75 := by kernel_rfl
 c80 := by kernel_rfl
 c127 := by kernel_rfl
 c143 := by kernel_rfl
 c145 := by kernel_rfl
 c167 := by kernel_rfl
 c168 := by kernel_rfl
 c171 := by kernel_rfl
 c173 := by kernel_rfl
 c210 := by kernel_rfl
 c212 := by kernel_rfl
 c213 := by kernel_rfl
 c232 := by kernel_rfl
 c233 := by kernel_rfl }
open Go.RowKit in
theorem Tryz.strconv_toError_syntax (fn s : ByteArray) (base bits : Int) (ev : Value) (w : World) (hlim : s.size ≤ 281474976710656) (hv : w.cell? ⟨3, 0, none⟩ = some ev) (hev : ev = .nilIface ∨ ∃ te pe, ev = .iface te pe) :
 Calls Tryz.prog 132 #[.string fn, .string s, .int .i64 base, .int .i64 bits, .iface 187 (.int .i64 2)] w fun e w' => ∃ N, e = .returned (.iface 189 (.pointer (some ⟨N, 0, none⟩))) ∧ w.heap.size ≤ N ∧ w'.heap[N]? = some (.cells #[.string fn, .string s, ev] 200 (0, 0)) ∧ Below w.heap.size w w' := Any.strconv_toError_syntax Tryz.laysC245 fn s base bits ev w hlim hv hev
def Tryz.lays321_ren : Go.Shelf.Ren := ⟨fun | 321 => 153 | n => n, fun | 5 => 5 | n => n, fun | n => n⟩
theorem Tryz.lays321 : Go.Proofs.Lays.n321 Tryz.prog Tryz.lays321_ren := {
 mixed := by kernel_rfl
 f321 := Tryz.func153.trans (congrArg some (by kernel_rfl))
 t5 := Tryz.underlying5
 a5 := Tryz.isAgg5
 z5 := Tryz.sizeOf5
 v5 := Tryz.zeroValue5 }
open Go.RowKit in
theorem Tryz.internal_strconv_lower (c : Int) (w : World) :
 Calls Tryz.prog 153 #[.int .u8 c] w fun e w' => e = .returned (.int .u8 (bits .or .u8 c 32)) ∧ w' = w := Any.internal_strconv_lower Tryz.lays321 c w
def Tryz.lays287_ren : Go.Shelf.Ren := ⟨fun | 287 => 131 | 321 => 153 | 322 => 154 | n => n, fun | 9 => 9 | 3 => 3 | 53 => 24 | 75 => 123 | 4 => 4 | 167 => 187 | 5 => 5 | 46 => 70 | 37 => 118 | 0 => 0 | 21 => 21 | 80 => 126 | n => n, fun | n => n⟩
theorem Tryz.lays287 : Go.Proofs.Lays.n287 Tryz.prog Tryz.lays287_ren := {
 mixed := by kernel_rfl
 f287 := Tryz.func131.trans (congrArg some (by kernel_rfl))
 f321 := Tryz.func153.trans (congrArg some (by kernel_rfl))
 f322 := Tryz.func154.trans (congrArg some (by kernel_rfl))
 t0 := Tryz.underlying0
 a0 := Tryz.isAgg0
 z0 := Tryz.sizeOf0
 v0 := Tryz.zeroValue0
 t3 := Tryz.underlying3
 a3 := Tryz.isAgg3
 z3 := Tryz.sizeOf3
 v3 := Tryz.zeroValue3
 t4 := Tryz.underlying4
 a4 := Tryz.isAgg4
 z4 := Tryz.sizeOf4
 v4 := Tryz.zeroValue4
 t5 := Tryz.underlying5
 a5 := Tryz.isAgg5
 z5 := Tryz.sizeOf5
 v5 := Tryz.zeroValue5
 t9 := Tryz.underlying9
 a9 := Tryz.isAgg9
 z9 := Tryz.sizeOf9
 v9 := Tryz.zeroValue9
 t21 := Tryz.underlying21
 a21 := Tryz.isAgg21
 z21 := Tryz.sizeOf21
 v21 := Tryz.zeroValue21
 t37 := Tryz.underlying118
 a37 := Tryz.isAgg118
 z37 := Tryz.sizeOf118
 v37 := Tryz.zeroValue118
 t46 := Tryz.underlying70
 a46 := Tryz.isAgg70
 z46 := Tryz.sizeOf70
 v46 := Tryz.zeroValue70
 t53 := Tryz.underlying24
 a53 := Tryz.isAgg24
 z53 := Tryz.sizeOf24
 v53 := Tryz.zeroValue24
 t75 := Tryz.underlying123
 a75 := Tryz.isAgg123
 z75 := Tryz.sizeOf123
 v75 := Tryz.zeroValue123
 t167 := Tryz.underlying187
 a167 := Tryz.isAgg187
 z167 := Tryz.sizeOf187
 v167 := Tryz.zeroValue187 }
def Tryz.laysM280_ren : Go.Shelf.Ren := ⟨fun | 280 => 156 | 316 => 167 | n => n, fun | 9 => 9 | 168 => 189 | 75 => 123 | 210 => 200 | 3 => 3 | 4 => 4 | 37 => 118 | 0 => 0 | 127 => 159 | 80 => 126 | 5 => 5 | n => n, fun | 16 => 4 | n => n⟩
open Go.RowKit in
theorem Tryz.strconv_toError_range (fn s : ByteArray) (base bits : Int) (ev : Value) (w : World) (hlim : s.size ≤ 281474976710656) (hv : w.cell? ⟨4, 0, none⟩ = some ev) (hev : ev = .nilIface ∨ ∃ te pe, ev = .iface te pe) :
 Calls Tryz.prog 132 #[.string fn, .string s, .int .i64 base, .int .i64 bits, .iface 187 (.int .i64 1)] w fun e w' => ∃ N, e = .returned (.iface 189 (.pointer (some ⟨N, 0, none⟩))) ∧ w.heap.size ≤ N ∧ w'.heap[N]? = some (.cells #[.string fn, .string s, ev] 200 (0, 0)) ∧ Below w.heap.size w w' := Any.strconv_toError_range Tryz.laysC245 fn s base bits ev w hlim hv hev
open Go.RowKit in
theorem Tryz.internal_strconv_ParseUint_empty (base bits : Int) (w : World) :
 Calls Tryz.prog 131 #[.string ⟨#[]⟩, .int .i64 base, .int .i64 bits] w fun e w' => e = .returned (.tuple #[.int .u64 0, .iface 187 (.int .i64 2)]) ∧ w' = w := Any.internal_strconv_ParseUint_empty Tryz.lays287 base bits w
def Tryz.laysPu14_ren : Go.Shelf.Ren := ⟨fun | 14 => 96 | 16 => 131 | 17 => 132 | 19 => 153 | 20 => 154 | 21 => 155 | 22 => 156 | 23 => 157 | 24 => 158 | 25 => 167 | 27 => 77 | 26 => 168 | 28 => 117 | 29 => 141 | 30 => 159 | 31 => 160 | 32 => 161 | 33 => 162 | 35 => 170 | 34 => 169 | 36 => 171 | 37 => 172 | 38 => 173 | 39 => 175 | 40 => 176 | n => n, fun | 9 => 9 | 3 => 3 | 22 => 24 | 24 => 123 | 25 => 130 | 4 => 4 | 34 => 187 | 5 => 5 | 36 => 70 | 37 => 118 | 0 => 0 | 39 => 189 | 21 => 21 | 44 => 200 | 47 => 159 | 50 => 214 | 48 => 212 | 2 => 2 | 52 => 192 | 55 => 195 | 59 => 203 | 60 => 69 | 20 => 20 | 61 => 204 | 65 => 217 | 66 => 218 | 67 => 126 | n => n, fun | 0 => 3 | 1 => 4 | 2 => 5 | 3 => 8 | 4 => 9 | n => n⟩
theorem Tryz.laysPu14 : Go.Proofs.LaysPu.n14 Tryz.prog Tryz.laysPu14_ren := {
 mixed := by kernel_rfl
 f14 := Tryz.func96.trans (congrArg some (by kernel_rfl))
 f16 := Tryz.func131.trans (congrArg some (by kernel_rfl))
 f17 := Tryz.func132.trans (congrArg some (by kernel_rfl))
 f19 := Tryz.func153.trans (congrArg some (by kernel_rfl))
 f20 := Tryz.func154.trans (congrArg some (by kernel_rfl))
 f21 := Tryz.func155.trans (congrArg some (by kernel_rfl))
 f22 := Tryz.func156.trans (congrArg some (by kernel_rfl))
 f23 := Tryz.func157.trans (congrArg some (by kernel_rfl))
 f24 := Tryz.func158.trans (congrArg some (by kernel_rfl))
 f25 := Tryz.func167.trans (congrArg some (by kernel_rfl))
 f26 := Tryz.func168.trans (congrArg some (by kernel_rfl))
 f27 := Tryz.func77.trans (congrArg some (by kernel_rfl))
 f28 := Tryz.func117.trans (congrArg some (by kernel_rfl))
 f29 := Tryz.func141.trans (congrArg some (by kernel_rfl))
 f30 := Tryz.func159.trans (congrArg some (by kernel_rfl))
 f31 := Tryz.func160.trans (congrArg some (by kernel_rfl))
 f32 := Tryz.func161.trans (congrArg some (by kernel_rfl))
 f33 := Tryz.func162.trans (congrArg some (by kernel_rfl))
 f34 := Tryz.func169.trans (congrArg some (by kernel_rfl))
 f35 := Tryz.func170.trans (congrArg some (by kernel_rfl))
 f36 := Tryz.func171.trans (congrArg some (by kernel_rfl))
 f37 := Tryz.func172.trans (congrArg some (by kernel_rfl))
 f38 := Tryz.func173.trans (congrArg some (by kernel_rfl))
 f39 := Tryz.func175.trans (congrArg some (by kernel_rfl))
 f40 := Tryz.func176.trans (congrArg some (by kernel_rfl))
 t0 := Tryz.underlying0
 a0 := Tryz.isAgg0
 z0 := Tryz.sizeOf0
 v0 := Tryz.zeroValue0
 i0 := by kernel_rfl
 t2 := Tryz.underlying2
 a2 := Tryz.isAgg2
 z2 := Tryz.sizeOf2
 v2 := Tryz.zeroValue2
 i2 := by kernel_rfl
 t3 := Tryz.underlying3
 a3 := Tryz.isAgg3
 z3 := Tryz.sizeOf3
 v3 := Tryz.zeroValue3
 i3 := by kernel_rfl
 t4 := Tryz.underlying4
 a4 := Tryz.isAgg4
 z4 := Tryz.sizeOf4
 v4 := Tryz.zeroValue4
 i4 := by kernel_rfl
 t5 := Tryz.underlying5
 a5 := Tryz.isAgg5
 z5 := Tryz.sizeOf5
 v5 := Tryz.zeroValue5
 i5 := by kernel_rfl
 t9 := Tryz.underlying9
 a9 := Tryz.isAgg9
 z9 := Tryz.sizeOf9
 v9 := Tryz.zeroValue9
 i9 := by kernel_rfl
 t20 := Tryz.underlying20
 a20 := Tryz.isAgg20
 z20 := Tryz.sizeOf20
 v20 := Tryz.zeroValue20
 i20 := by kernel_rfl
 t21 := Tryz.underlying21
 a21 := Tryz.isAgg21
 z21 := Tryz.sizeOf21
 v21 := Tryz.zeroValue21
 i21 := by kernel_rfl
 t22 := Tryz.underlying24
 a22 := Tryz.isAgg24
 z22 := Tryz.sizeOf24
 v22 := Tryz.zeroValue24
 i22 := by kernel_rfl
 t24 := Tryz.underlying123
 a24 := Tryz.isAgg123
 z24 := Tryz.sizeOf123
 v24 := Tryz.zeroValue123
 i24 := by kernel_rfl
 t25 := Tryz.underlying130
 a25 := Tryz.isAgg130
 z25 := Tryz.sizeOf130
 v25 := Tryz.zeroValue130
 i25 := by kernel_rfl
 t34 := Tryz.underlying187
 a34 := Tryz.isAgg187
 z34 := Tryz.sizeOf187
 v34 := Tryz.zeroValue187
 i34 := by kernel_rfl
 c34 := by kernel_rfl
 t36 := Tryz.underlying70
 a36 := Tryz.isAgg70
 z36 := Tryz.sizeOf70
 v36 := Tryz.zeroValue70
 i36 := by kernel_rfl
 t37 := Tryz.underlying118
 a37 := Tryz.isAgg118
 z37 := Tryz.sizeOf118
 v37 := Tryz.zeroValue118
 i37 := by kernel_rfl
 t39 := Tryz.underlying189
 a39 := Tryz.isAgg189
 z39 := Tryz.sizeOf189
 v39 := Tryz.zeroValue189
 i39 := by kernel_rfl
 t44 := Tryz.underlying200
 a44 := Tryz.isAgg200
 z44 := Tryz.sizeOf200
 v44 := Tryz.zeroValue200
 i44 := by kernel_rfl
 t47 := Tryz.underlying159
 a47 := Tryz.isAgg159
 z47 := Tryz.sizeOf159
 v47 := Tryz.zeroValue159
 i47 := by kernel_rfl
 t48 := Tryz.underlying212
 a48 := Tryz.isAgg212
 z48 := Tryz.sizeOf212
 v48 := Tryz.zeroValue212
 i48 := by kernel_rfl
 t50 := Tryz.underlying214
 a50 := Tryz.isAgg214
 z50 := Tryz.sizeOf214
 v50 := Tryz.zeroValue214
 i50 := by kernel_rfl
 t52 := Tryz.underlying192
 a52 := Tryz.isAgg192
 z52 := Tryz.sizeOf192
 v52 := Tryz.zeroValue192
 i52 := by kernel_rfl
 t55 := Tryz.underlying195
 a55 := Tryz.isAgg195
 z55 := Tryz.sizeOf195
 v55 := Tryz.zeroValue195
 i55 := by kernel_rfl
 t59 := Tryz.underlying203
 a59 := Tryz.isAgg203
 z59 := Tryz.sizeOf203
 v59 := Tryz.zeroValue203
 i59 := by kernel_rfl
 t60 := Tryz.underlying69
 a60 := Tryz.isAgg69
 z60 := Tryz.sizeOf69
 v60 := Tryz.zeroValue69
 i60 := by kernel_rfl
 t61 := Tryz.underlying204
 a61 := Tryz.isAgg204
 z61 := Tryz.sizeOf204
 t65 := Tryz.underlying217
 a65 := Tryz.isAgg217
 z65 := Tryz.sizeOf217
 v65 := Tryz.zeroValue217
 i65 := by kernel_rfl
 t66 := Tryz.underlying218
 a66 := Tryz.isAgg218
 z66 := Tryz.sizeOf218
 v66 := Tryz.zeroValue218
 i66 := by kernel_rfl
 t67 := Tryz.underlying126
 a67 := Tryz.isAgg126
 z67 := Tryz.sizeOf126
 v67 := Tryz.zeroValue126
 i67 := by kernel_rfl
 g0 := by kernel_rfl
 m0 := by kernel_rfl
 g1 := by kernel_rfl
 m1 := by kernel_rfl
 g2 := by kernel_rfl
 m2 := by kernel_rfl
 g3 := by kernel_rfl
 m3 := by kernel_rfl
 g4 := by kernel_rfl
 m4 := by kernel_rfl }
open Go.RowKit in
theorem Tryz.strconv_ParseUint_10_at8_ok (s : ByteArray) (hmax : s.size ≤ 9223372036854775806) (u : Nat) (h : Lib.parseUintB 8 s.data.toList = .ok u) (w : World) :
 Calls Tryz.prog 96 #[.string s, .int .i64 10, .int .i64 8] w fun e w' => e = .returned (.tuple #[.int .u64 u, .nilIface]) ∧ (w' = w ∨ w' = Lib.bytesWorld w 5 s) := Any.strconv_ParseUint_10_at8_ok Tryz.laysPu14 s hmax u h w
open Go.RowKit in
theorem Tryz.strconv_ParseUint_10_at8_syntax_var (s : ByteArray) (hlim : s.size ≤ 281474976710656) (h : Lib.parseUintB 8 s.data.toList = .«syntax») (tp : TypeId) (p : Value) (w : World) (hvar : w.var? Tryz.prog "strconv.ErrSyntax" = some #[.iface tp p]) :
 Calls Tryz.prog 96 #[.string s, .int .i64 10, .int .i64 8] w fun e w' => ∃ N, e = .returned (.tuple #[.int .u64 0, .iface 189 (.pointer (some ⟨N, 0, none⟩))]) ∧ w.heap.size ≤ N ∧ w'.heap[N]? = some (.cells #[.string ⟨#[80, 97, 114, 115, 101, 85, 105, 110, 116]⟩, .string s, .iface tp p] 200 (0, 0)) ∧ Below w.heap.size w w' := Any.strconv_ParseUint_10_at8_syntax_var Tryz.laysPu14 s hlim h tp p w hvar
open Go.RowKit in
theorem Tryz.strconv_ParseUint_10_at8_range_var (s : ByteArray) (hlim : s.size ≤ 281474976710656) (h : Lib.parseUintB 8 s.data.toList = .range) (tp : TypeId) (p : Value) (w : World) (hvar : w.var? Tryz.prog "strconv.ErrRange" = some #[.iface tp p]) :
 Calls Tryz.prog 96 #[.string s, .int .i64 10, .int .i64 8] w fun e w' => ∃ N, e = .returned (.tuple #[.int .u64 255, .iface 189 (.pointer (some ⟨N, 0, none⟩))]) ∧ w.heap.size ≤ N ∧ w'.heap[N]? = some (.cells #[.string ⟨#[80, 97, 114, 115, 101, 85, 105, 110, 116]⟩, .string s, .iface tp p] 200 (0, 0)) ∧ Below w.heap.size w w' := Any.strconv_ParseUint_10_at8_range_var Tryz.laysPu14 s hlim h tp p w hvar
def Tryz.lays217_ren : Go.Shelf.Ren := ⟨fun | 217 => 127 | 266 => 151 | n => n, fun | 9 => 9 | 5 => 5 | 3 => 3 | n => n, fun | n => n⟩
def Tryz.lays224_ren : Go.Shelf.Ren := ⟨fun | 224 => 129 | n => n, fun | 3 => 3 | n => n, fun | n => n⟩
def Tryz.lays314_ren : Go.Shelf.Ren := ⟨fun | 314 => 152 | n => n, fun | 9 => 9 | 51 => 69 | 3 => 3 | 4 => 4 | 5 => 5 | 46 => 70 | n => n, fun | n => n⟩
def Tryz.lays267_ren : Go.Shelf.Ren := ⟨fun | 267 => 130 | 314 => 152 | n => n, fun | 9 => 9 | 3 => 3 | 146 => 185 | 51 => 69 | 4 => 4 | 5 => 5 | 46 => 70 | n => n, fun | n => n⟩
def Tryz.lays219_ren : Go.Shelf.Ren := ⟨fun | 219 => 95 | 217 => 127 | 225 => 128 | 224 => 129 | 267 => 130 | 266 => 151 | 314 => 152 | n => n, fun | 9 => 9 | 3 => 3 | 4 => 4 | 5 => 5 | 46 => 70 | 146 => 185 | 51 => 69 | n => n, fun | 1 => 0 | n => n⟩
theorem Tryz.lays219 : Go.Proofs.Lays.n219 Tryz.prog Tryz.lays219_ren := {
 mixed := by kernel_rfl
 f217 := Tryz.func127.trans (congrArg some (by kernel_rfl))
 f219 := Tryz.func95.trans (congrArg some (by kernel_rfl))
 f224 := Tryz.func129.trans (congrArg some (by kernel_rfl))
 f225 := Tryz.func128.trans (congrArg some (by kernel_rfl))
 f266 := Tryz.func151.trans (congrArg some (by kernel_rfl))
 f267 := Tryz.func130.trans (congrArg some (by kernel_rfl))
 f314 := Tryz.func152.trans (congrArg some (by kernel_rfl))
 t3 := Tryz.underlying3
 a3 := Tryz.isAgg3
 z3 := Tryz.sizeOf3
 v3 := Tryz.zeroValue3
 t4 := Tryz.underlying4
 a4 := Tryz.isAgg4
 z4 := Tryz.sizeOf4
 v4 := Tryz.zeroValue4
 t5 := Tryz.underlying5
 a5 := Tryz.isAgg5
 z5 := Tryz.sizeOf5
 v5 := Tryz.zeroValue5
 t9 := Tryz.underlying9
 a9 := Tryz.isAgg9
 z9 := Tryz.sizeOf9
 v9 := Tryz.zeroValue9
 t46 := Tryz.underlying70
 a46 := Tryz.isAgg70
 z46 := Tryz.sizeOf70
 v46 := Tryz.zeroValue70
 t51 := Tryz.underlying69
 a51 := Tryz.isAgg69
 z51 := Tryz.sizeOf69
 v51 := Tryz.zeroValue69
 t146 := Tryz.underlying185
 a146 := Tryz.isAgg185
 z146 := Tryz.sizeOf185
 v146 := Tryz.zeroValue185
 g1 := by kernel_rfl }
open Go.RowKit Go.Lib in
theorem Tryz.stringslite_Index_one (s : ByteArray) (c : UInt8) (w : World) :
 Calls Tryz.prog 95 #[.string s, .string ⟨#[c]⟩] w fun e w' => e = .returned (.int .i64 (Lib.indexByte s.data.toList c)) ∧ w' = w := Any.stringslite_Index_one Tryz.lays219 s c w
def Tryz.lays143_ren : Go.Shelf.Ren := ⟨fun | 143 => 93 | 219 => 95 | 217 => 127 | 225 => 128 | 224 => 129 | 267 => 130 | 266 => 151 | 314 => 152 | n => n, fun | 9 => 9 | 3 => 3 | 4 => 4 | 5 => 5 | 46 => 70 | 146 => 185 | 51 => 69 | n => n, fun | 1 => 0 | n => n⟩
def Tryz.lays220_ren : Go.Shelf.Ren := ⟨fun | 220 => 52 | 219 => 95 | 217 => 127 | 225 => 128 | 224 => 129 | 267 => 130 | 266 => 151 | 314 => 152 | n => n, fun | 9 => 9 | 4 => 4 | 3 => 3 | 5 => 5 | 46 => 70 | 146 => 185 | 51 => 69 | n => n, fun | 1 => 0 | n => n⟩
def Tryz.lays145_ren : Go.Shelf.Ren := ⟨fun | 145 => 21 | 220 => 52 | 219 => 95 | 217 => 127 | 225 => 128 | 224 => 129 | 267 => 130 | 266 => 151 | 314 => 152 | n => n, fun | 9 => 9 | 4 => 4 | 59 => 48 | 3 => 3 | 5 => 5 | 46 => 70 | 146 => 185 | 51 => 69 | n => n, fun | 1 => 0 | n => n⟩
theorem Tryz.lays145 : Go.Proofs.Lays.n145 Tryz.prog Tryz.lays145_ren := {
 mixed := by kernel_rfl
 f145 := Tryz.func21.trans (congrArg some (by kernel_rfl))
 f217 := Tryz.func127.trans (congrArg some (by kernel_rfl))
 f219 := Tryz.func95.trans (congrArg some (by kernel_rfl))
 f220 := Tryz.func52.trans (congrArg some (by kernel_rfl))
 f224 := Tryz.func129.trans (congrArg some (by kernel_rfl))
 f225 := Tryz.func128.trans (congrArg some (by kernel_rfl))
 f266 := Tryz.func151.trans (congrArg some (by kernel_rfl))
 f267 := Tryz.func130.trans (congrArg some (by kernel_rfl))
 f314 := Tryz.func152.trans (congrArg some (by kernel_rfl))
 t3 := Tryz.underlying3
 a3 := Tryz.isAgg3
 z3 := Tryz.sizeOf3
 v3 := Tryz.zeroValue3
 t4 := Tryz.underlying4
 a4 := Tryz.isAgg4
 z4 := Tryz.sizeOf4
 v4 := Tryz.zeroValue4
 t5 := Tryz.underlying5
 a5 := Tryz.isAgg5
 z5 := Tryz.sizeOf5
 v5 := Tryz.zeroValue5
 t9 := Tryz.underlying9
 a9 := Tryz.isAgg9
 z9 := Tryz.sizeOf9
 v9 := Tryz.zeroValue9
 t46 := Tryz.underlying70
 a46 := Tryz.isAgg70
 z46 := Tryz.sizeOf70
 v46 := Tryz.zeroValue70
 t51 := Tryz.underlying69
 a51 := Tryz.isAgg69
 z51 := Tryz.sizeOf69
 v51 := Tryz.zeroValue69
 t59 := Tryz.underlying48
 a59 := Tryz.isAgg48
 z59 := Tryz.sizeOf48
 v59 := Tryz.zeroValue48
 t146 := Tryz.underlying185
 a146 := Tryz.isAgg185
 z146 := Tryz.sizeOf185
 v146 := Tryz.zeroValue185
 g1 := by kernel_rfl }
open Go.RowKit Go.Lib in
theorem Tryz.strings_Cut (s sep : ByteArray) (m : Int) (w : World) (hs : s.size < 4294967281) (hm : w.cell? ⟨0, 0, none⟩ = some (.int .i64 m)) :
 Calls Tryz.prog 21 #[.string s, .string sep] w fun e w' => e = .returned (.tuple #[.string ⟨(Lib.cut s.data.toList sep.data.toList).1.toArray⟩, .string ⟨(Lib.cut s.data.toList sep.data.toList).2.1.toArray⟩, .bool (Lib.cut s.data.toList sep.data.toList).2.2]) ∧ ∃ n, w' = w.drewN n := Any.strings_Cut Tryz.lays145 s sep m w hs hm
def Tryz.lays138_ren : Go.Shelf.Ren := ⟨fun | 138 => 48 | 195 => 91 | 218 => 92 | 143 => 93 | 219 => 95 | 217 => 127 | 225 => 128 | 224 => 129 | 267 => 130 | 266 => 151 | 314 => 152 | n => n, fun | 9 => 9 | 3 => 3 | 4 => 4 | 5 => 5 | 0 => 0 | 46 => 70 | 146 => 185 | 51 => 69 | n => n, fun | 1 => 0 | n => n⟩
theorem Tryz.lays138 : Go.Proofs.Lays.n138 Tryz.prog Tryz.lays138_ren := {
 mixed := by kernel_rfl
 f138 := Tryz.func48.trans (congrArg some (by kernel_rfl))
 f143 := Tryz.func93.trans (congrArg some (by kernel_rfl))
 f195 := Tryz.func91.trans (congrArg some (by kernel_rfl))
 f217 := Tryz.func127.trans (congrArg some (by kernel_rfl))
 f218 := Tryz.func92.trans (congrArg some (by kernel_rfl))
 f219 := Tryz.func95.trans (congrArg some (by kernel_rfl))
 f224 := Tryz.func129.trans (congrArg some (by kernel_rfl))
 f225 := Tryz.func128.trans (congrArg some (by kernel_rfl))
 f266 := Tryz.func151.trans (congrArg some (by kernel_rfl))
 f267 := Tryz.func130.trans (congrArg some (by kernel_rfl))
 f314 := Tryz.func152.trans (congrArg some (by kernel_rfl))
 t0 := Tryz.underlying0
 a0 := Tryz.isAgg0
 z0 := Tryz.sizeOf0
 v0 := Tryz.zeroValue0
 t3 := Tryz.underlying3
 a3 := Tryz.isAgg3
 z3 := Tryz.sizeOf3
 v3 := Tryz.zeroValue3
 t4 := Tryz.underlying4
 a4 := Tryz.isAgg4
 z4 := Tryz.sizeOf4
 v4 := Tryz.zeroValue4
 t5 := Tryz.underlying5
 a5 := Tryz.isAgg5
 z5 := Tryz.sizeOf5
 v5 := Tryz.zeroValue5
 t9 := Tryz.underlying9
 a9 := Tryz.isAgg9
 z9 := Tryz.sizeOf9
 v9 := Tryz.zeroValue9
 t46 := Tryz.underlying70
 a46 := Tryz.isAgg70
 z46 := Tryz.sizeOf70
 v46 := Tryz.zeroValue70
 t51 := Tryz.underlying69
 a51 := Tryz.isAgg69
 z51 := Tryz.sizeOf69
 v51 := Tryz.zeroValue69
 t146 := Tryz.underlying185
 a146 := Tryz.isAgg185
 z146 := Tryz.sizeOf185
 v146 := Tryz.zeroValue185
 g1 := by kernel_rfl }
open Go.RowKit Go.Lib in
theorem Tryz.strings_Count_one (s : ByteArray) (c : UInt8) (w : World) :
 Calls Tryz.prog 48 #[.string s, .string ⟨#[c]⟩] w fun e w' => e = .returned (.int .i64 (Lib.countByte s.data.toList c)) ∧ w' = w := Any.strings_Count_one Tryz.lays138 s c w
def Tryz.laysM219_ren : Go.Shelf.Ren := ⟨fun | 219 => 95 | 217 => 127 | 225 => 128 | 224 => 129 | 267 => 130 | 266 => 151 | 314 => 152 | n => n, fun | 9 => 9 | 3 => 3 | 4 => 4 | 5 => 5 | 46 => 70 | 146 => 185 | 51 => 69 | n => n, fun | 1 => 0 | n => n⟩
def Tryz.laysM143_ren : Go.Shelf.Ren := ⟨fun | 143 => 93 | 219 => 95 | 217 => 127 | 225 => 128 | 224 => 129 | 267 => 130 | 266 => 151 | 314 => 152 | n => n, fun | 9 => 9 | 3 => 3 | 4 => 4 | 5 => 5 | 46 => 70 | 146 => 185 | 51 => 69 | n => n, fun | 1 => 0 | n => n⟩
def Tryz.laysM220_ren : Go.Shelf.Ren := ⟨fun | 220 => 52 | 219 => 95 | 217 => 127 | 225 => 128 | 224 => 129 | 267 => 130 | 266 => 151 | 314 => 152 | n => n, fun | 9 => 9 | 4 => 4 | 3 => 3 | 5 => 5 | 46 => 70 | 146 => 185 | 51 => 69 | n => n, fun | 1 => 0 | n => n⟩
def Tryz.laysM145_ren : Go.Shelf.Ren := ⟨fun | 145 => 21 | 220 => 52 | 219 => 95 | 217 => 127 | 225 => 128 | 224 => 129 | 267 => 130 | 266 => 151 | 314 => 152 | n => n, fun | 9 => 9 | 4 => 4 | 59 => 48 | 3 => 3 | 5 => 5 | 46 => 70 | 146 => 185 | 51 => 69 | n => n, fun | 1 => 0 | n => n⟩
theorem Tryz.laysM145 : Go.Proofs.LaysM.n145 Tryz.prog Tryz.laysM145_ren := {
 mixed := by kernel_rfl
 f145 := Tryz.func21.trans (congrArg some (by kernel_rfl))
 f217 := Tryz.func127.trans (congrArg some (by kernel_rfl))
 f219 := Tryz.func95.trans (congrArg some (by kernel_rfl))
 f220 := Tryz.func52.trans (congrArg some (by kernel_rfl))
 f224 := Tryz.func129.trans (congrArg some (by kernel_rfl))
 f225 := Tryz.func128.trans (congrArg some (by kernel_rfl))
 f266 := Tryz.func151.trans (congrArg some (by kernel_rfl))
 f267 := Tryz.func130.trans (congrArg some (by kernel_rfl))
 f314 := Tryz.func152.trans (congrArg some (by kernel_rfl))
 t3 := Tryz.underlying3
 a3 := Tryz.isAgg3
 z3 := Tryz.sizeOf3
 v3 := Tryz.zeroValue3
 t4 := Tryz.underlying4
 a4 := Tryz.isAgg4
 z4 := Tryz.sizeOf4
 v4 := Tryz.zeroValue4
 t5 := Tryz.underlying5
 a5 := Tryz.isAgg5
 z5 := Tryz.sizeOf5
 v5 := Tryz.zeroValue5
 t9 := Tryz.underlying9
 a9 := Tryz.isAgg9
 z9 := Tryz.sizeOf9
 v9 := Tryz.zeroValue9
 t46 := Tryz.underlying70
 a46 := Tryz.isAgg70
 z46 := Tryz.sizeOf70
 v46 := Tryz.zeroValue70
 t51 := Tryz.underlying69
 a51 := Tryz.isAgg69
 z51 := Tryz.sizeOf69
 v51 := Tryz.zeroValue69
 t59 := Tryz.underlying48
 a59 := Tryz.isAgg48
 z59 := Tryz.sizeOf48
 v59 := Tryz.zeroValue48
 t146 := Tryz.underlying185
 a146 := Tryz.isAgg185
 z146 := Tryz.sizeOf185
 v146 := Tryz.zeroValue185
 g1 := by kernel_rfl
 i3 := by kernel_rfl
 i4 := by kernel_rfl
 i5 := by kernel_rfl
 i9 := by kernel_rfl
 i46 := by kernel_rfl
 i51 := by kernel_rfl
 i59 := by kernel_rfl
 i146 := by kernel_rfl
 m1 := by kernel_rfl
 s1_3 := fun w h => Go.Proofs.cell_of_shapedOpen_int (zero := #[.int .i64 0]) (t := 3) h (of_decide_eq_true (by kernel_rfl)) (by kernel_rfl) rfl (by kernel_rfl) (by kernel_rfl) Tryz.underlying3 }
def Tryz.laysM138_ren : Go.Shelf.Ren := ⟨fun | 138 => 48 | 195 => 91 | 218 => 92 | 143 => 93 | 219 => 95 | 217 => 127 | 225 => 128 | 224 => 129 | 267 => 130 | 266 => 151 | 314 => 152 | n => n, fun | 9 => 9 | 3 => 3 | 4 => 4 | 5 => 5 | 0 => 0 | 46 => 70 | 146 => 185 | 51 => 69 | n => n, fun | 1 => 0 | n => n⟩
def Tryz.lays221_ren : Go.Shelf.Ren := ⟨fun | 221 => 94 | 268 => 126 | 138 => 48 | 143 => 93 | 195 => 91 | 197 => 150 | 218 => 92 | 219 => 95 | 260 => 166 | 217 => 127 | 225 => 128 | 224 => 129 | 267 => 130 | 266 => 151 | 314 => 152 | n => n, fun | 9 => 9 | 3 => 3 | 31 => 77 | 4 => 4 | 0 => 0 | 105 => 183 | 21 => 21 | 5 => 5 | 46 => 70 | 119 => 208 | 139 => 211 | 138 => 210 | 146 => 185 | 51 => 69 | n => n, fun | 1 => 0 | 3 => 6 | 4 => 7 | n => n⟩
def Tryz.lays146_ren : Go.Shelf.Ren := ⟨fun | 146 => 49 | 221 => 94 | 268 => 126 | 138 => 48 | 143 => 93 | 195 => 91 | 197 => 150 | 218 => 92 | 219 => 95 | 260 => 166 | 217 => 127 | 225 => 128 | 224 => 129 | 267 => 130 | 266 => 151 | 314 => 152 | n => n, fun | 9 => 9 | 31 => 77 | 3 => 3 | 4 => 4 | 0 => 0 | 105 => 183 | 21 => 21 | 5 => 5 | 46 => 70 | 119 => 208 | 139 => 211 | 138 => 210 | 146 => 185 | 51 => 69 | n => n, fun | 1 => 0 | 3 => 6 | 4 => 7 | n => n⟩
theorem Tryz.lays146 : Go.Proofs.Lays.n146 Tryz.prog Tryz.lays146_ren := {
 mixed := by kernel_rfl
 f138 := Tryz.func48.trans (congrArg some (by kernel_rfl))
 f143 := Tryz.func93.trans (congrArg some (by kernel_rfl))
 f146 := Tryz.func49.trans (congrArg some (by kernel_rfl))
 f195 := Tryz.func91.trans (congrArg some (by kernel_rfl))
 f197 := Tryz.func150.trans (congrArg some (by kernel_rfl))
 f217 := Tryz.func127.trans (congrArg some (by kernel_rfl))
 f218 := Tryz.func92.trans (congrArg some (by kernel_rfl))
 f219 := Tryz.func95.trans (congrArg some (by kernel_rfl))
 f221 := Tryz.func94.trans (congrArg some (by kernel_rfl))
 f224 := Tryz.func129.trans (congrArg some (by kernel_rfl))
 f225 := Tryz.func128.trans (congrArg some (by kernel_rfl))
 f260 := Tryz.func166.trans (congrArg some (by kernel_rfl))
 f266 := Tryz.func151.trans (congrArg some (by kernel_rfl))
 f267 := Tryz.func130.trans (congrArg some (by kernel_rfl))
 f268 := Tryz.func126.trans (congrArg some (by kernel_rfl))
 f314 := Tryz.func152.trans (congrArg some (by kernel_rfl))
 t0 := Tryz.underlying0
 a0 := Tryz.isAgg0
 z0 := Tryz.sizeOf0
 v0 := Tryz.zeroValue0
 t3 := Tryz.underlying3
 a3 := Tryz.isAgg3
 z3 := Tryz.sizeOf3
 v3 := Tryz.zeroValue3
 t4 := Tryz.underlying4
 a4 := Tryz.isAgg4
 z4 := Tryz.sizeOf4
 v4 := Tryz.zeroValue4
 t5 := Tryz.underlying5
 a5 := Tryz.isAgg5
 z5 := Tryz.sizeOf5
 v5 := Tryz.zeroValue5
 t9 := Tryz.underlying9
 a9 := Tryz.isAgg9
 z9 := Tryz.sizeOf9
 v9 := Tryz.zeroValue9
 t21 := Tryz.underlying21
 a21 := Tryz.isAgg21
 z21 := Tryz.sizeOf21
 v21 := Tryz.zeroValue21
 t31 := Tryz.underlying77
 a31 := Tryz.isAgg77
 z31 := Tryz.sizeOf77
 v31 := Tryz.zeroValue77
 t46 := Tryz.underlying70
 a46 := Tryz.isAgg70
 z46 := Tryz.sizeOf70
 v46 := Tryz.zeroValue70
 t51 := Tryz.underlying69
 a51 := Tryz.isAgg69
 z51 := Tryz.sizeOf69
 v51 := Tryz.zeroValue69
 t105 := Tryz.underlying183
 a105 := Tryz.isAgg183
 z105 := Tryz.sizeOf183
 v105 := Tryz.zeroValue183
 t119 := Tryz.underlying208
 a119 := Tryz.isAgg208
 z119 := Tryz.sizeOf208
 t138 := Tryz.underlying210
 a138 := Tryz.isAgg210
 z138 := Tryz.sizeOf210
 v138 := Tryz.zeroValue210
 t139 := Tryz.underlying211
 a139 := Tryz.isAgg211
 z139 := Tryz.sizeOf211
 v139 := Tryz.zeroValue211
 t146 := Tryz.underlying185
 a146 := Tryz.isAgg185
 z146 := Tryz.sizeOf185
 v146 := Tryz.zeroValue185
 g1 := by kernel_rfl
 g3 := by kernel_rfl
 g4 := by kernel_rfl }
open Go.RowKit Go.Lib in
theorem Tryz.strings_Split (s sep : ByteArray) (m : Int) (w : World) (hs : s.size < 4294967281) (hm : w.cell? ⟨0, 0, none⟩ = some (.int .i64 m)) (h1 : 1 ≤ sep.size) :
 Calls Tryz.prog 49 #[.string s, .string sep] w fun e w' =>
  e = .returned (.slice (some ⟨w.heap.size, 0, none⟩) (Lib.countB s sep + 1) (Lib.countB s sep + 1)) ∧ w' = w.alloc (.cells ((Lib.splitB sep 0 (Lib.countB s sep) s).map Value.string).toArray 9) := Any.strings_Split Tryz.lays146 (by kernel_rfl) s sep m w hs hm h1
def Tryz.laysM146_ren : Go.Shelf.Ren := ⟨fun | 146 => 49 | 221 => 94 | 268 => 126 | 138 => 48 | 143 => 93 | 195 => 91 | 197 => 150 | 218 => 92 | 219 => 95 | 260 => 166 | 217 => 127 | 225 => 128 | 224 => 129 | 267 => 130 | 266 => 151 | 314 => 152 | n => n, fun | 9 => 9 | 31 => 77 | 3 => 3 | 4 => 4 | 0 => 0 | 105 => 183 | 21 => 21 | 5 => 5 | 46 => 70 | 119 => 208 | 139 => 211 | 138 => 210 | 146 => 185 | 51 => 69 | n => n, fun | 1 => 0 | 3 => 6 | 4 => 7 | n => n⟩
def Tryz.lays197_ren : Go.Shelf.Ren := ⟨fun | 197 => 150 | 260 => 166 | n => n, fun | 9 => 9 | 21 => 21 | 3 => 3 | 4 => 4 | 5 => 5 | 105 => 183 | 119 => 208 | 0 => 0 | 46 => 70 | 139 => 211 | 138 => 210 | n => n, fun | 3 => 6 | 4 => 7 | n => n⟩
def Tryz.lays152_ren : Go.Shelf.Ren := ⟨fun | 152 => 174 | 137 => 177 | 119 => 178 | 224 => 129 | 225 => 128 | 217 => 127 | 266 => 151 | n => n, fun | 9 => 9 | 21 => 21 | 3 => 3 | 4 => 4 | 5 => 5 | 0 => 0 | 46 => 70 | n => n, fun | n => n⟩
def Tryz.lays151_ren : Go.Shelf.Ren := ⟨fun | 151 => 165 | 152 => 174 | 137 => 177 | 119 => 178 | 224 => 129 | 225 => 128 | 217 => 127 | 266 => 151 | n => n, fun | 9 => 9 | 21 => 21 | 4 => 4 | 3 => 3 | 5 => 5 | 0 => 0 | 46 => 70 | n => n, fun | n => n⟩
def Tryz.lays227_ren : Go.Shelf.Ren := ⟨fun | 227 => 145 | n => n, fun | 9 => 9 | 116 => 175 | 4 => 4 | 0 => 0 | 3 => 3 | 5 => 5 | n => n, fun | n => n⟩
def Tryz.lays228_ren : Go.Shelf.Ren := ⟨fun | 228 => 164 | n => n, fun | 124 => 179 | 5 => 5 | 4 => 4 | 0 => 0 | 116 => 175 | n => n, fun | n => n⟩
def Tryz.lays268_ren : Go.Shelf.Ren := ⟨fun | 268 => 126 | 195 => 91 | 197 => 150 | 260 => 166 | n => n, fun | 9 => 9 | 3 => 3 | 31 => 77 | 4 => 4 | 105 => 183 | 21 => 21 | 0 => 0 | 5 => 5 | 119 => 208 | 46 => 70 | 139 => 211 | 138 => 210 | n => n, fun | 3 => 6 | 4 => 7 | n => n⟩
def Tryz.lays260_ren : Go.Shelf.Ren := ⟨fun | 260 => 166 | n => n, fun | 9 => 9 | 21 => 21 | 3 => 3 | 4 => 4 | 5 => 5 | 119 => 208 | 0 => 0 | 46 => 70 | 139 => 211 | 138 => 210 | n => n, fun | 3 => 6 | 4 => 7 | n => n⟩
end Go.Proofs
namespace Go.Proofs.YtboinifeemghaaaGreatDoor
open Go.RowKit
structure Env (w : World) : Prop where
 m : ∃ m, w.cell? ⟨0, 0, none⟩ = some (.int .i64 m)
 s : ∃ tp p, w.var? Tryz.prog "strconv.ErrSyntax" = some #[.iface tp p]
 r : ∃ tp p, w.var? Tryz.prog "strconv.ErrRange" = some #[.iface tp p]
 t : Lib.TabIs Tryz.prog w "internal/strconv.uint64pow10" .u64 Lib.pow10Tab
theorem glob_s : (Tryz.prog.globalNamed "strconv.ErrSyntax").isSome = true := by kernel_rfl
theorem glob_r : (Tryz.prog.globalNamed "strconv.ErrRange").isSome = true := by kernel_rfl
theorem glob_t : (Tryz.prog.globalNamed "internal/strconv.uint64pow10").isSome = true := by kernel_rfl
theorem var_later {w w1 : World} {n : String} {cs : Array Value} (hg : (Tryz.prog.globalNamed n).isSome = true) (h : w.var? Tryz.prog n = some cs) (hb : Below w.heap.size w w1) : w1.var? Tryz.prog n = some cs := by
 cases hq : Tryz.prog.globalNamed n with
 | none => rw [hq] at hg; cases hg
 | some g => exact Joins.var_stays hq h hb (Nat.le_refl _)
theorem Env.later {w w1 : World} (h : Env w) (hb : Below w.heap.size w w1) : Env w1 := by
 obtain ⟨⟨m, hm⟩, ⟨tp, p, hs⟩, ⟨tr, q, hr⟩, ht⟩ := h
 exact ⟨⟨m, cell_later hb hm⟩, ⟨tp, p, var_later glob_s hs hb⟩, ⟨tr, q, var_later glob_r hr hb⟩, var_later glob_t ht hb⟩
def txt4 (b0 b1 b2 b3 : Int) : List UInt8 := Lib.join [Lib.decDigits b0.toNat, Lib.decDigits b1.toNat, Lib.decDigits b2.toNat, Lib.decDigits b3.toNat] [46]
def print4 (a : Int) : List UInt8 := txt4 (byteI a 0) (byteI a 1) (byteI a 2) (byteI a 3)
theorem itoa_t (n : Int) (n0 : 0 ≤ n) (n1 : n ≤ 255) (w : World) (hE : Env w) : Calls Tryz.prog 77 #[.int .i64 n] w fun e w' => e = .returned (.string ⟨(Lib.decDigits n.toNat).toArray⟩) ∧ Below w.heap.size w w' := by
 refine (Tryz.strconv_Itoa n (by omega) (by omega) w hE.t).mono ?_
 rintro e w' ⟨rfl, k, os, rfl⟩
 have h : Lib.itoa n = Lib.decDigits n.toNat := by unfold Lib.itoa; rw [if_neg (by omega)]
 rw [h]
 exact ⟨rfl, Lib.below_grow _ w (Nat.le_refl _) k os⟩
def strs4 (f : Nat → ByteArray) (j : Nat) : Array Value := #[.string (if 0 < j then f 0 else ⟨#[]⟩), .string (if 1 < j then f 1 else ⟨#[]⟩), .string (if 2 < j then f 2 else ⟨#[]⟩), .string (if 3 < j then f 3 else ⟨#[]⟩)]
theorem strs4_set (f : Nat → ByteArray) (j : Nat) (h : j < 4) : (strs4 f j).setIfInBounds j (.string (f j)) = strs4 f (j + 1) := by
 rcases j with _ | _ | _ | _ | j <;> first | rfl | omega
theorem strs4_get (f : Nat → ByteArray) (j i : Nat) (h : i < 4) : (strs4 f j)[i]? = some (.string (if i < j then f i else ⟨#[]⟩)) := by
 rcases i with _ | _ | _ | _ | i <;> first | rfl | omega
theorem decDigits_len (n : Nat) (h : n ≤ 255) : (Lib.decDigits n).length ≤ 3 := by
 have : ∀ n : Fin 256, (Lib.decDigits n).length ≤ 3 := by decide +kernel
 exact this ⟨n, by omega⟩
def strOf (a : Int) (i : Nat) : ByteArray := ⟨(Lib.decDigits (byteI a i).toNat).toArray⟩
theorem print4_t (a : Int) (a0 : 0 ≤ a) (a1 : a ≤ 4294967295) (w : World) (hE : Env w) : Calls Tryz.prog 36 #[.int .u32 a] w fun e w' => e = .returned (.string ⟨(print4 a).toArray⟩) ∧ Below w.heap.size w w' := by
 go_enter Tryz.func36, Tryz.ntmps36
 go_wp2_with fail
 have Z1 := Row.new w #[.string ⟨#[]⟩, .string ⟨#[]⟩, .string ⟨#[]⟩, .string ⟨#[]⟩] 103
 have hb0 : Below w.heap.size w (w.alloc (.cells #[.string ⟨#[]⟩, .string ⟨#[]⟩, .string ⟨#[]⟩, .string ⟨#[]⟩] 103)) := (by repeat (first | exact Below.refl _ _ | assumption | (with_reducible refine Below.drew ?_) | ((with_reducible first | refine Below.setCell ?_ ?h _ | refine Below.alloc ?_ ?h _ | refine Below.trans ?_ (hb4.mono ?h) | refine Below.trans ?_ (hb3.mono ?h) | refine Below.trans ?_ (hb2.mono ?h) | refine Below.trans ?_ (hb.mono ?h) | refine Below.trans ?_ (hb0.mono ?h)); case h => first | omega | (simp; done) | (simp; omega))))
 refine (bytes4_t a a0 a1 _).mono ?_
 rintro r w1 ⟨rfl, hb1⟩
 replace Z1 := Z1.later hb1
 have hbz := below_step hb0 hb1
 clear hb0 hb1
 unfold arr4
 have r0 := byteI_range a 0
 have r1 := byteI_range a 1
 have r2 := byteI_range a 2
 have r3 := byteI_range a 3
 go_wp2_with fail
 go_loopw [8] (fun i wr => ∃ (j : Nat), j ≤ 4 ∧ i = .int .i64 j ∧ Row wr w.heap.size (strs4 (strOf a) j) 103 ∧ Below w.heap.size w wr) (fun i _ => 4 - (intOf i).toNat)
 case atStart => exact ⟨0, by omega, rfl, Z1, hbz⟩
 case round =>
  clear Z1 hbz
  obtain ⟨j, hj, rfl, R, hb⟩ := hrel
  rcases j with _ | _ | _ | _ | _ | j
  ·have hi := idx4_0 (.int .u8 (byteI a 0)) (.int .u8 (byteI a 1)) (.int .u8 (byteI a 2)) (.int .u8 (byteI a 3)) wr
   have HR := Lib.hid R
   have HB := Lib.hid hb
   clear R hb
   go_wp2_with fail
   refine (itoa_t (byteI a 0) r0.1 r0.2 wr (hE.later HB.out)).mono ?_
   rintro r w2 ⟨rfl, hb2⟩
   have R2 := HR.out.later hb2
   have c0 := (R2.cell 0).trans (strs4_get (strOf a) 0 0 (by decide))
   have f0 := R2.frozen 0
   have HR2 := Lib.hid R2
   have HB2 := Lib.hid (below_step HB.out hb2)
   clear R2 HR HB hb2
   go_wp2
   exact ⟨⟨1, by omega, by go_num, by have := HR2.out.set 0 (.string (strOf a 0)); rw [strs4_set (strOf a) 0 (by decide)] at this; exact this, HB2.out.setCell (Nat.le_refl _) _⟩, by simp [intOf]⟩
  ·have hi := idx4_1 (.int .u8 (byteI a 0)) (.int .u8 (byteI a 1)) (.int .u8 (byteI a 2)) (.int .u8 (byteI a 3)) wr
   have HR := Lib.hid R
   have HB := Lib.hid hb
   clear R hb
   go_wp2_with fail
   refine (itoa_t (byteI a 1) r1.1 r1.2 wr (hE.later HB.out)).mono ?_
   rintro r w2 ⟨rfl, hb2⟩
   have R2 := HR.out.later hb2
   have c0 := (R2.cell 1).trans (strs4_get (strOf a) 1 1 (by decide))
   have f0 := R2.frozen 1
   have HR2 := Lib.hid R2
   have HB2 := Lib.hid (below_step HB.out hb2)
   clear R2 HR HB hb2
   go_wp2
   exact ⟨⟨2, by omega, by go_num, by have := HR2.out.set 1 (.string (strOf a 1)); rw [strs4_set (strOf a) 1 (by decide)] at this; exact this, HB2.out.setCell (Nat.le_refl _) _⟩, by simp [intOf]⟩
  ·have hi := idx4_2 (.int .u8 (byteI a 0)) (.int .u8 (byteI a 1)) (.int .u8 (byteI a 2)) (.int .u8 (byteI a 3)) wr
   have HR := Lib.hid R
   have HB := Lib.hid hb
   clear R hb
   go_wp2_with fail
   refine (itoa_t (byteI a 2) r2.1 r2.2 wr (hE.later HB.out)).mono ?_
   rintro r w2 ⟨rfl, hb2⟩
   have R2 := HR.out.later hb2
   have c0 := (R2.cell 2).trans (strs4_get (strOf a) 2 2 (by decide))
   have f0 := R2.frozen 2
   have HR2 := Lib.hid R2
   have HB2 := Lib.hid (below_step HB.out hb2)
   clear R2 HR HB hb2
   go_wp2
   exact ⟨⟨3, by omega, by go_num, by have := HR2.out.set 2 (.string (strOf a 2)); rw [strs4_set (strOf a) 2 (by decide)] at this; exact this, HB2.out.setCell (Nat.le_refl _) _⟩, by simp [intOf]⟩
  ·have hi := idx4_3 (.int .u8 (byteI a 0)) (.int .u8 (byteI a 1)) (.int .u8 (byteI a 2)) (.int .u8 (byteI a 3)) wr
   have HR := Lib.hid R
   have HB := Lib.hid hb
   clear R hb
   go_wp2_with fail
   refine (itoa_t (byteI a 3) r3.1 r3.2 wr (hE.later HB.out)).mono ?_
   rintro r w2 ⟨rfl, hb2⟩
   have R2 := HR.out.later hb2
   have c0 := (R2.cell 3).trans (strs4_get (strOf a) 3 3 (by decide))
   have f0 := R2.frozen 3
   have HR2 := Lib.hid R2
   have HB2 := Lib.hid (below_step HB.out hb2)
   clear R2 HR HB hb2
   go_wp2
   exact ⟨⟨4, by omega, by go_num, by have := HR2.out.set 3 (.string (strOf a 3)); rw [strs4_set (strOf a) 3 (by decide)] at this; exact this, HB2.out.setCell (Nat.le_refl _) _⟩, by simp [intOf]⟩
  ·have hlt := R.lt
   have l0 := decDigits_len (byteI a 0).toNat (by omega)
   have l1 := decDigits_len (byteI a 1).toNat (by omega)
   have l2 := decDigits_len (byteI a 2).toNat (by omega)
   have l3 := decDigits_len (byteI a 3).toNat (by omega)
   have HR := Lib.hid R
   have HB := Lib.hid hb
   clear R hb
   have hjn := Tryz.strings_Join w.heap.size 0 4 [strOf a 0, strOf a 1, strOf a 2, strOf a 3] ⟨#[46]⟩ wr (fun j x hx => by
    have hj : j < 4 := (List.getElem?_eq_some_iff.1 hx).1
    rw [Nat.zero_add]
    refine (HR.out.cell j).trans ((strs4_get (strOf a) 4 j hj).trans ?_)
    rw [if_pos hj]
    rcases j with _ | _ | _ | _ | j
    ·cases hx; rfl
    ·cases hx; rfl
    ·cases hx; rfl
    ·cases hx; rfl
    ·omega) hlt (by simp) (by simp) (by
    simp [Lib.join_cons, Lib.joinTail, strOf]
    omega)
   have HJ := Lib.hid hjn
   clear hjn
   go_wp2_with fail
   refine HJ.out.mono ?_
   rintro r w3 ⟨rfl, hb3⟩
   have hb4 := below_step HB.out hb3
   go_wp2
   go_ret
   exact ⟨rfl, hb4⟩
  ·omega
structure Env6 (w : World) : Prop where
 e : Env w
 z : w.cell? ⟨9, 15, none⟩ = some (.int .u8 4)
theorem Env6.later {w w1 : World} (h : Env6 w) (hb : Below w.heap.size w w1) : Env6 w1 := ⟨h.e.later hb, cell_later hb h.z⟩
theorem tz64_t (w : World) (h : Env6 w) : Calls Tryz.prog 176 #[.int .u64 16] w fun e w' => e = .returned (.int .i64 4) ∧ w = w' := by
 have z := h.z
 have e1 : IntKind.u64.wrap (-16) = 18446744073709551600 := by decide
 have e2 : bits .and .u64 16 18446744073709551600 = 16 := by decide +kernel
 have e3 : IntKind.u64.wrap (16 * 285870213051353865) = 4573923408821661840 := by decide
 have e4 : IntKind.u64.wrap 4573923408821661840 = 4573923408821661840 := by decide
 go_enter Tryz.func176, Tryz.ntmps176
 go_wp2
 go_ret
 exact ⟨rfl, rfl⟩
theorem tz_t (w : World) (h : Env6 w) : Calls Tryz.prog 173 #[.int .u64 16] w fun e w' => e = .returned (.int .i64 4) ∧ w = w' := by
 go_enter Tryz.func173, Tryz.ntmps173
 go_wp2_with fail
 refine (tz64_t w h).mono ?_
 rintro r w1 ⟨rfl, rfl⟩
 go_wp2
 go_ret
 exact ⟨rfl, rfl⟩
theorem pow2_t (w : World) : Calls Tryz.prog 172 #[.int .i64 16] w fun e w' => e = .returned (.bool true) ∧ w = w' := by
 go_enter Tryz.func172, Tryz.ntmps172
 go_wp2
 all_goals go_ret
 all_goals exact ⟨rfl, rfl⟩
def hexC (k : Nat) : UInt8 := if k < 10 then UInt8.ofNat (48 + k) else UInt8.ofNat (87 + k)
def hexD (n : Nat) : List UInt8 := if h : n < 16 then [hexC n] else hexD (n / 16) ++ [hexC (n % 16)]
termination_by n
decreasing_by omega
theorem hexD_one (n : Nat) (h : n < 16) : hexD n = [hexC n] := by rw [hexD, dif_pos h]
theorem hexD_step (n : Nat) (h : 16 ≤ n) : hexD n = hexD (n / 16) ++ [hexC (n % 16)] := by rw [hexD, dif_neg (by omega)]
theorem and15 (n : Nat) (h : n < 65536) : bits .and .u64 (n : Int) 15 = ((n % 16 : Nat) : Int) := by
 show IntKind.u64.wrap ((BitVec.ofInt 64 (n : Int) &&& BitVec.ofInt 64 15).toNat : Int) = _
 rw [BitVec.toNat_and, ofInt_toNat (n : Int) ⟨by omega, by omega⟩, ofInt_toNat 15 ⟨by decide, by decide⟩]
 have h2 : (n : Int).toNat &&& (15 : Int).toNat = n % 16 := by
  rw [Int.toNat_natCast]; exact Nat.and_two_pow_sub_one_eq_mod n 4
 rw [h2]
 simp [IntKind.wrap, IntKind.bits, IntKind.signed]
 omega
theorem dig36 (k : Nat) (h : k < 16) (hs : k < (⟨#[48, 49, 50, 51, 52, 53, 54, 55, 56, 57, 97, 98, 99, 100, 101, 102, 103, 104, 105, 106, 107, 108, 109, 110, 111, 112, 113, 114, 115, 116, 117, 118, 119, 120, 121, 122]⟩ : ByteArray).size) : (⟨#[48, 49, 50, 51, 52, 53, 54, 55, 56, 57, 97, 98, 99, 100, 101, 102, 103, 104, 105, 106, 107, 108, 109, 110, 111, 112, 113, 114, 115, 116, 117, 118, 119, 120, 121, 122]⟩ : ByteArray)[k]'hs = hexC k := by
 have : ∀ k : Fin 16, (⟨#[48, 49, 50, 51, 52, 53, 54, 55, 56, 57, 97, 98, 99, 100, 101, 102, 103, 104, 105, 106, 107, 108, 109, 110, 111, 112, 113, 114, 115, 116, 117, 118, 119, 120, 121, 122]⟩ : ByteArray)[(k : Nat)]'(Nat.lt_of_lt_of_le k.isLt (by decide)) = hexC k := by decide +kernel
 exact this ⟨k, h⟩
theorem size36 : (⟨#[48, 49, 50, 51, 52, 53, 54, 55, 56, 57, 97, 98, 99, 100, 101, 102, 103, 104, 105, 106, 107, 108, 109, 110, 111, 112, 113, 114, 115, 116, 117, 118, 119, 120, 121, 122]⟩ : ByteArray).size = 36 := by decide
def Tail (cs : Array Value) (l : List UInt8) : Prop := cs.size = 65 ∧ l.length ≤ 65 ∧ ∀ m (h : m < l.length), cs[65 - l.length + m]? = some (.int .u8 (l[m].toNat : Int))
theorem Tail.cons {cs : Array Value} {l : List UInt8} (h : Tail cs l) (c : UInt8) (hl : l.length < 65) : Tail (cs.setIfInBounds (65 - l.length - 1) (.int .u8 (c.toNat : Int))) (c :: l) := by
 obtain ⟨h1, h2, h3⟩ := h
 refine ⟨by simp [h1], by simp; omega, fun m hm => ?_⟩
 rw [Array.getElem?_setIfInBounds]
 rcases m with _ | m
 ·rw [if_pos (by simp; omega), if_pos (by rw [h1]; omega)]; rfl
 ·rw [if_neg (by simp; omega)]
  have := h3 m (by simpa using hm)
  rw [show 65 - (c :: l).length + (m + 1) = 65 - l.length + m by simp; omega]
  exact this
theorem cutA65 (w : World) (g k : Nat) (h : k ≤ 64) : (Instr.sliceAt 204 (.pointer (some ⟨g, 0, none⟩)) (some (.int .i64 (k : Int))) none none).run Tryz.prog w = .ok (.slice (some ⟨g, k, none⟩) (65 - k) (65 - k)) w := by
 have ha : Tryz.prog.arrayLen 204 = 65 := by kernel_rfl
 have he : Tryz.prog.elem 204 = 5 := by kernel_rfl
 have hu : Tryz.prog.underlying 204 = some (.array (Tryz.prog.arrayLen 204) (Tryz.prog.elem 204)) := by rw [ha, he]; exact Tryz.underlying204
 rw [run_sliceAt_array_l (P := Tryz.prog) w 204 ⟨g, 0, none⟩ hu .i64 (k : Int) (by omega) (by rw [ha]; omega)]
 rw [ha, he]
 simp [go_sem]
 omega
theorem bits16_t (N : Nat) (hN : N < 65536) (w : World) (hE : Env6 w) : Calls Tryz.prog 162 #[.slice none 0 0, .int .u64 N, .int .i64 16, .bool false, .bool false] w fun e w' => e = .returned (.tuple #[.slice none 0 0, .string ⟨(hexD N).toArray⟩]) ∧ Below w.heap.size w w' := by
 go_enter Tryz.func162, Tryz.ntmps162
 go_wp2_with fail
 have R0 := Row.new w Tryz.zeroCells204 204
 have hb0 : Below w.heap.size w (w.alloc (.cells Tryz.zeroCells204 204)) := (Below.refl _ _).alloc (Nat.le_refl _) _
 have hT0 : Tail Tryz.zeroCells204 [] := ⟨by kernel_rfl, by simp, fun m hm => by cases hm⟩
 generalize Tryz.zeroCells204 = zs at *
 generalize w.alloc (.cells zs 204) = w0 at *
 have HR := Lib.hid R0
 have HB := Lib.hid hb0
 have HT := Lib.hid hT0
 clear R0 hb0 hT0
 refine (pow2_t w0).mono ?_
 rintro r w1 ⟨rfl, rfl⟩
 go_wp2_with fail
 refine (tz_t w0 (hE.later HB.out)).mono ?_
 rintro r w1 ⟨rfl, rfl⟩
 go_wp2_with fail
 go_loopw [1, 13] (fun vu vi wr => ∃ (u : Nat) (l : List UInt8) (cs : Array Value), vu = .int .u64 u ∧ vi = .int .i64 ((65 - l.length : Nat) : Int) ∧ l.length ≤ 3 ∧ u * 16 ^ l.length ≤ N ∧ (l ≠ [] → 1 ≤ u) ∧ hexD N = hexD u ++ l ∧ Row wr w.heap.size cs 204 ∧ Tail cs l ∧ Below w.heap.size w wr) (fun vu _ _ => (intOf vu).toNat)
 case atStart => exact ⟨N, [], zs, rfl, rfl, by simp, by simp, fun h => absurd rfl h, by simp, HR.out, HT.out, HB.out⟩
 case round =>
  clear HR HB HT
  obtain ⟨u, l, cs, rfl, rfl, hl, hul, hu1, hx, R, hT, hb⟩ := hrel
  have huN : u ≤ N := Nat.le_trans (Nat.le_mul_of_pos_right u (Nat.pow_pos (by decide))) hul
  have hu : u < 65536 := by omega
  have HR := Lib.hid R
  have HT := Lib.hid hT
  have HX := Lib.hid hx
  have HU := Lib.hid hul
  have HB := Lib.hid hb
  clear hul hu1 hx hb
  by_cases h16 : 16 ≤ u
  ·have h16' : (16 : Int) ≤ (u : Int) := by omega
   have ha := and15 u hu
   have hd := dig36 (u % 16) (by omega) (by rw [size36]; omega)
   have hl2 : l.length ≤ 2 := by
    have h := HU.out
    by_cases h3 : l.length = 3
    ·rw [h3] at h; have : 16 * 16 ^ 3 ≤ u * 16 ^ 3 := Nat.mul_le_mul_right _ h16; omega
    ·omega
   have hcell : ∃ v, wr.cell? ⟨w.heap.size, 65 - l.length - 1, none⟩ = some v := ⟨_, (R.cell (65 - l.length - 1)).trans (Array.getElem?_eq_getElem (by rw [hT.1]; omega))⟩
   obtain ⟨v0, c0⟩ := hcell
   have f0 := R.frozen (65 - l.length - 1)
   clear R hT
   have q1 : (((65 - l.length : Nat) : Int) - 1) = ((65 - l.length - 1 : Nat) : Int) := by omega
   have q2 : ((u % 16 : Nat) : Int) < 36 := by omega
   go_wp2
   refine ⟨⟨u / 16, hexC (u % 16) :: l, _, by go_num, by simp; omega, by simp; omega, ?_, fun _ => by omega, ?_, HR.out.set _ _, HT.out.cons _ (by omega), HB.out.setCell (Nat.le_refl _) _⟩, by simp [intOf]; omega⟩
   ·rw [List.length_cons, Nat.pow_succ, Nat.mul_comm (16 ^ l.length) 16, ← Nat.mul_assoc]
    exact Nat.le_trans (Nat.mul_le_mul_right _ (Nat.div_mul_le_self u 16)) HU.out
   ·rw [HX.out, hexD_step u h16]; simp
  ·have h16' : ¬ (16 : Int) ≤ (u : Int) := by omega
   have hd := dig36 u (by omega) (by rw [size36]; omega)
   have hcell : ∃ v, wr.cell? ⟨w.heap.size, 65 - l.length - 1, none⟩ = some v := ⟨_, (R.cell (65 - l.length - 1)).trans (Array.getElem?_eq_getElem (by rw [hT.1]; omega))⟩
   obtain ⟨v0, c0⟩ := hcell
   have f0 := R.frozen (65 - l.length - 1)
   clear R hT
   have q1 : (((65 - l.length : Nat) : Int) - 1) = ((65 - l.length - 1 : Nat) : Int) := by omega
   have R2 := HR.out.set (65 - l.length - 1) (.int .u8 ((hexC u).toNat : Int))
   have hT2 := HT.out.cons (hexC u) (by omega)
   have hB2 : Below w.heap.size w (wr.setCell ⟨w.heap.size, 65 - l.length - 1, none⟩ (.int .u8 ((hexC u).toNat : Int))) := HB.out.setCell (Nat.le_refl _) _
   have hl4 : (hexC u :: l).length = 65 - (65 - l.length - 1) := by simp; omega
   have hconv := run_convert_bytes_back (P := Tryz.prog) (wr.setCell ⟨w.heap.size, 65 - l.length - 1, none⟩ (.int .u8 ((hexC u).toNat : Int))) 118 9 5 ⟨w.heap.size, 65 - l.length - 1, none⟩ (65 - (65 - l.length - 1)) (hexC u :: l) Tryz.underlying118 Tryz.underlying5 Tryz.underlying9 (fun j hj => by
    have h3 := hT2.2.2 j hj
    rw [Addr.add_mid, R2.cell]
    rw [show 65 - l.length - 1 + j = 65 - (hexC u :: l).length + j by simp; omega]
    exact h3)
   rw [hl4] at hconv
   have hres : hexD N = hexC u :: l := by rw [HX.out, hexD_one u (by omega)]; rfl
   have HRES := Lib.hid hres
   have HB2 := Lib.hid hB2
   clear hres hB2 R2 hT2
   have hcut := cutA65 (wr.setCell ⟨w.heap.size, 65 - l.length - 1, none⟩ (.int .u8 ((hexC u).toNat : Int))) w.heap.size (65 - l.length - 1) (by omega)
   clear hl4
   go_wp2
   exact bodyPost_ret (v := .tuple #[.slice none 0 0, .string ⟨(hexC u :: l).toArray⟩]) (by simp [results, Tryz.results162, go_sem]) rfl ⟨by rw [HRES.out], HB2.out⟩
theorem ifmt16_t (N : Nat) (hN : N < 65536) (w : World) (hE : Env6 w) : Calls Tryz.prog 142 #[.int .u64 N, .int .i64 16] w fun e w' => e = .returned (.string ⟨(hexD N).toArray⟩) ∧ Below w.heap.size w w' := by
 go_enter Tryz.func142, Tryz.ntmps142
 go_wp2_with fail
 refine (bits16_t N hN w hE).mono ?_
 rintro r w1 ⟨rfl, hb⟩
 have HB := Lib.hid hb
 clear hb
 go_wp2
 go_ret
 exact ⟨rfl, HB.out⟩
theorem fmt16_t (N : Nat) (hN : N < 65536) (w : World) (hE : Env6 w) : Calls Tryz.prog 119 #[.int .u64 N, .int .i64 16] w fun e w' => e = .returned (.string ⟨(hexD N).toArray⟩) ∧ Below w.heap.size w w' := by
 go_enter Tryz.func119, Tryz.ntmps119
 go_wp2_with fail
 refine (ifmt16_t N hN w hE).mono ?_
 rintro r w1 ⟨rfl, hb⟩
 have HB := Lib.hid hb
 clear hb
 go_wp2
 go_ret
 exact ⟨rfl, HB.out⟩
def joinH (fs : List Nat) : List UInt8 := Lib.join (fs.map hexD) [58]
def StrsTo (fs : List Nat) (j : Nat) (cs : Array Value) : Prop := cs.size = fs.length ∧ ∀ m x, m < j → fs[m]? = some x → cs[m]? = some (.string ⟨(hexD x).toArray⟩)
theorem StrsTo.step {fs : List Nat} {j : Nat} {cs : Array Value} (h : StrsTo fs j cs) {x : Nat} (hx : fs[j]? = some x) : StrsTo fs (j + 1) (cs.setIfInBounds j (.string ⟨(hexD x).toArray⟩)) := by
 have hj : j < fs.length := (List.getElem?_eq_some_iff.1 hx).1
 refine ⟨by simp [h.1], fun m y hm hy => ?_⟩
 rw [Array.getElem?_setIfInBounds]
 by_cases e : j = m
 ·subst e
  rw [if_pos rfl, if_pos (by rw [h.1]; exact hj)]
  rw [hx] at hy; cases hy; rfl
 ·rw [if_neg e]; exact h.2 m y (by omega) hy
theorem hexD_len (n : Nat) (h : n < 65536) : (hexD n).length ≤ 4 := by
 have h1 : ∀ k, k < 16 → (hexD k).length ≤ 1 := fun k hk => by rw [hexD_one k hk]; simp
 have h2 : ∀ k, k < 256 → (hexD k).length ≤ 2 := fun k hk => by
  by_cases c : k < 16
  ·have := h1 k c; omega
  ·rw [hexD_step k (by omega)]; have := h1 (k / 16) (by omega); simp; omega
 have h3 : ∀ k, k < 4096 → (hexD k).length ≤ 3 := fun k hk => by
  by_cases c : k < 16
  ·have := h1 k c; omega
  ·rw [hexD_step k (by omega)]; have := h2 (k / 16) (by omega); simp; omega
 by_cases c : n < 16
 ·have := h1 n c; omega
 ·rw [hexD_step n (by omega)]; have := h3 (n / 16) (by omega); simp; omega
theorem joinTail_len : ∀ (fs : List Nat), (∀ x ∈ fs, x < 65536) → (Lib.joinTail [58] (fs.map hexD)).length ≤ 5 * fs.length
 | [], _ => by simp [Lib.joinTail]
 | x :: r, h => by
  have h1 := joinTail_len r (fun y hy => h y (List.mem_cons_of_mem _ hy))
  have h2 := hexD_len x (h x (by simp))
  unfold Lib.joinTail at h1 ⊢
  simp at h1 ⊢
  omega
theorem joinH_len (fs : List Nat) (h : ∀ x ∈ fs, x < 65536) : (joinH fs).length ≤ 5 * fs.length := by
 unfold joinH
 cases fs with
 | nil => simp [Lib.join]
 | cons x r =>
  have h1 := joinTail_len r (fun y hy => h y (List.mem_cons_of_mem _ hy))
  have h2 := hexD_len x (h x (by simp))
  rw [List.map_cons, Lib.join_cons]
  simp at h1 ⊢
  omega
theorem infoStr : (Tryz.prog.info? 9).map (fun i => (i.zero, i.size, i.bytes)) = some (some (.string ⟨#[]⟩), 1, 16) := by kernel_rfl
theorem join_t (fs : List Nat) (g o c : Nat) (hl : fs.length ≤ 8) (hf : ∀ x ∈ fs, x < 65536) (w : World) (hg : g < w.heap.size) (hE : Env6 w) (hc : ∀ (j x : Nat), fs[j]? = some x → w.cell? ⟨g, o + j, none⟩ = some (.int .u16 (x : Int))) : Calls Tryz.prog 80 #[.slice (some ⟨g, o, none⟩) fs.length c] w fun e w' => e = .returned (.string ⟨(joinH fs).toArray⟩) ∧ Below w.heap.size w w' := by
 obtain ⟨i0, hif, hz0, hz1, hz2⟩ := info_parts infoStr
 have hmk := fun w => run_make (P := Tryz.prog) w 77 9 i0 (.string ⟨#[]⟩) Tryz.underlying77 hif hz0 .i64 .i64 (fs.length : Int) (fs.length : Int) (by omega) (by omega) (by rw [hz2]; omega) (by omega)
 simp only [Int.toNat_natCast, hz1, Nat.mul_one] at hmk
 have HC := Lib.hid hc
 clear hc
 go_enter Tryz.func80, Tryz.ntmps80
 go_wp2_with fail
 have R0 := Row.new w (madeCells #[Value.string ⟨#[]⟩] fs.length) 9
 have hb0 : Below w.heap.size w (w.alloc (.cells (madeCells #[Value.string ⟨#[]⟩] fs.length) 9)) := (Below.refl _ _).alloc (Nat.le_refl _) _
 have S0 : StrsTo fs 0 (madeCells #[Value.string ⟨#[]⟩] fs.length) := ⟨size_madeCells _ _, fun m x hm => absurd hm (by omega)⟩
 clear hmk
 generalize madeCells #[Value.string ⟨#[]⟩] fs.length = cs0 at *
 generalize w.alloc (.cells cs0 9) = w0 at *
 go_loopw [11] (fun i wr => ∃ (j : Nat) (cs : Array Value), j ≤ fs.length ∧ i = .int .i64 j ∧ StrsTo fs j cs ∧ Row wr w.heap.size cs 9 ∧ Below w.heap.size w wr) (fun i _ => 8 - (intOf i).toNat)
 case atStart => exact ⟨0, cs0, by omega, rfl, S0, R0, hb0⟩
 case round =>
  clear R0 hb0 S0
  obtain ⟨j, cs, hj, rfl, hS, R, hb⟩ := hrel
  have HS := Lib.hid hS
  have HR := Lib.hid R
  have HB := Lib.hid hb
  clear hS R hb
  by_cases hlt : j < fs.length
  ·have hx : fs[j]? = some fs[j] := List.getElem?_eq_getElem hlt
   have hxr := hf _ (List.getElem_mem hlt)
   generalize fs[j] = x at hx hxr
   have cc := cell_later HB.out (HC.out j x hx)
   have hlb : decide ((j : Int) < (fs.length : Int)) = true := by simp; omega
   have hlt' : (j : Int) < (fs.length : Int) := by omega
   go_wp2_with fail
   refine (fmt16_t x hxr wr (hE.later HB.out)).mono ?_
   rintro r w2 ⟨rfl, hb2⟩
   have R2 := HR.out.later hb2
   have hcl : ∃ v, w2.cell? ⟨w.heap.size, j, none⟩ = some v := ⟨_, (R2.cell j).trans (Array.getElem?_eq_getElem (by rw [HS.out.1]; exact hlt))⟩
   obtain ⟨v0, c0⟩ := hcl
   have f0 := R2.frozen j
   have HR2 := Lib.hid R2
   have HB2 := Lib.hid (below_step HB.out hb2)
   clear R2 HR HB hb2 cc
   go_wp2
   exact ⟨⟨j + 1, _, by omega, by go_num, HS.out.step hx, HR2.out.set j _, HB2.out.setCell (Nat.le_refl _) _⟩, by simp [intOf]; omega⟩
  ·have hjn : j = fs.length := by omega
   subst hjn
   have hlt := HR.out.lt
   have hjl := joinH_len fs hf
   have hjn := Tryz.strings_Join w.heap.size 0 fs.length (fs.map fun x => ⟨(hexD x).toArray⟩) ⟨#[58]⟩ wr (fun j x hx => by
    rw [List.getElem?_map] at hx
    cases hq : fs[j]? with
    | none => rw [hq] at hx; cases hx
    | some y =>
     rw [hq] at hx
     cases hx
     rw [Nat.zero_add]
     exact (HR.out.cell j).trans (HS.out.2 j y (List.getElem?_eq_some_iff.1 hq).1 hq)) hlt (by simp; omega) (by simp) (by
    simp only [List.map_map, Function.comp_def]
    show (joinH fs).length ≤ _
    omega)
   rw [List.length_map] at hjn
   simp only [List.map_map, Function.comp_def] at hjn
   have HJ := Lib.hid hjn
   clear hjn
   go_wp2_with fail
   refine HJ.out.mono ?_
   rintro r w3 ⟨rfl, hb3⟩
   have hb4 := below_step HB.out hb3
   go_wp2
   go_ret
   exact ⟨rfl, hb4⟩
def cutP (l : List UInt8) : List UInt8 := (Lib.cut l [46]).1
def cutA (l : List UInt8) : List UInt8 := (Lib.cut l [46]).2.1
def numP (l : List UInt8) : Option Nat := match Lib.parseUintB 8 (cutP l) with | .ok u => some u | _ => none
def restL (l : List UInt8) : Nat → List UInt8
 | 0 => l
 | j + 1 => cutA (restL l j)
def uI (l : List UInt8) (i : Nat) : Int := ((numP (restL l i)).getD 0 : Nat)
def adr (l : List UInt8) : Int := part4 (uI l 0) (uI l 1) (uI l 2) (uI l 3) 4
def all4 (l : List UInt8) : Prop := ∀ i, i < 4 → (numP (restL l i)).isSome = true
open Classical in
noncomputable def parse4 (l : List UInt8) : Int × Int := if all4 l ∧ print4 (adr l) = l then (adr l, 0) else (0, 3)
theorem cut_len (l : List UInt8) : (cutP l).length ≤ l.length ∧ (cutA l).length ≤ l.length := by
 unfold cutP cutA Lib.cut
 split
 ·simp; omega
 ·simp
theorem rest_len (l : List UInt8) : ∀ j, (restL l j).length ≤ l.length
 | 0 => Nat.le_refl _
 | j + 1 => Nat.le_trans (cut_len _).2 (rest_len l j)
theorem uintM_le (M : Nat) : ∀ (l : List UInt8) (acc u : Nat), acc ≤ M → Lib.parseUintM M acc l = .ok u → u ≤ M
 | [], acc, u, h, e => by simp [Lib.parseUintM] at e; omega
 | c :: r, acc, u, h, e => by
  unfold Lib.parseUintM at e
  split at e
  ·split at e
   ·cases e
   ·split at e
    ·cases e
    ·exact uintM_le M r _ u (by omega) e
  ·cases e
theorem numP_le {l : List UInt8} {u : Nat} (h : numP l = some u) : u ≤ 255 := by
 unfold numP at h
 split at h
 ·rename_i v hv
  cases h
  unfold Lib.parseUintB at hv
  split at hv
  ·cases hv
  ·exact uintM_le _ _ _ _ (by decide) hv
 ·cases h
theorem uI_range (l : List UInt8) (i : Nat) : 0 ≤ uI l i ∧ uI l i ≤ 255 := by
 unfold uI
 cases h : numP (restL l i) with
 | none => simp
 | some u => have := numP_le h; simp; omega
theorem adr_range (l : List UInt8) : 0 ≤ adr l ∧ adr l ≤ 4294967295 := by
 have h0 := uI_range l 0
 have h1 := uI_range l 1
 have h2 := uI_range l 2
 have h3 := uI_range l 3
 unfold adr
 simp only [part4]
 omega
theorem bs_data (l : List UInt8) : (⟨l.toArray⟩ : ByteArray).data.toList = l := by simp
theorem bs_size4 (l : List UInt8) : (⟨l.toArray⟩ : ByteArray).size = l.length := by simp [ByteArray.size]
theorem cut_t (l : List UInt8) (hl : l.length ≤ 4000000000) (w : World) (hE : Env w) : Calls Tryz.prog 21 #[.string ⟨l.toArray⟩, .string ⟨#[46]⟩] w fun e w' => (∃ b, e = .returned (.tuple #[.string ⟨(cutP l).toArray⟩, .string ⟨(cutA l).toArray⟩, .bool b])) ∧ Below w.heap.size w w' := by
 obtain ⟨m, hm⟩ := hE.m
 refine (Tryz.strings_Cut ⟨l.toArray⟩ ⟨#[46]⟩ m w (by rw [bs_size4]; omega) hm).mono ?_
 rintro e w' ⟨rfl, n, rfl⟩
 exact ⟨⟨_, rfl⟩, below_drewN (Below.refl _ _) n⟩
def NumPost (l : List UInt8) (w : World) (e : Ending) (w' : World) : Prop :=
 (match numP l with
  | some u => e = .returned (.tuple #[.int .u64 u, .nilIface])
  | none => ∃ u t p, e = .returned (.tuple #[.int .u64 u, .iface t p])) ∧ Below w.heap.size w w'
theorem num_p (l : List UInt8) (hl : l.length ≤ 4000000000) (w : World) (hE : Env w) : Calls Tryz.prog 96 #[.string ⟨(cutP l).toArray⟩, .int .i64 10, .int .i64 8] w (NumPost l w) := by
 have hsz : (⟨(cutP l).toArray⟩ : ByteArray).size ≤ 4000000000 := by rw [bs_size4]; have := (cut_len l).1; omega
 unfold NumPost numP
 cases h : Lib.parseUintB 8 (cutP l) with
 | ok u =>
  refine (Tryz.strconv_ParseUint_10_at8_ok ⟨(cutP l).toArray⟩ (by omega) u (by rw [bs_data]; exact h) w).mono ?_
  rintro e w' ⟨rfl, rfl | rfl⟩
  ·exact ⟨rfl, Below.refl _ _⟩
  ·exact ⟨rfl, Joins.below_bytesWorld _ w _ _ (Nat.le_refl _)⟩
 | «syntax» =>
  obtain ⟨tp, p, hv⟩ := hE.s
  refine (Tryz.strconv_ParseUint_10_at8_syntax_var ⟨(cutP l).toArray⟩ (by omega) (by rw [bs_data]; exact h) tp p w hv).mono ?_
  rintro e w' ⟨N, rfl, _, _, hb⟩
  exact ⟨⟨_, _, _, rfl⟩, hb⟩
 | range =>
  obtain ⟨tp, p, hv⟩ := hE.r
  refine (Tryz.strconv_ParseUint_10_at8_range_var ⟨(cutP l).toArray⟩ (by omega) (by rw [bs_data]; exact h) tp p w hv).mono ?_
  rintro e w' ⟨N, rfl, _, _, hb⟩
  exact ⟨⟨_, _, _, rfl⟩, hb⟩
theorem parse4_t (l : List UInt8) (hl : l.length ≤ 4000000000) (w : World) (hE : Env w) : Calls Tryz.prog 54 #[.string ⟨l.toArray⟩] w fun e w' => e = .returned (.tuple #[.int .u32 (parse4 l).1, .int .i64 (parse4 l).2]) ∧ Below w.heap.size w w' := by
 go_enter Tryz.func54, Tryz.ntmps54
 go_wp2_with fail
 have Z1 := Row.new w (cells4 (uI l) 0) 104
 have hb0 : Below w.heap.size w (w.alloc (.cells #[.int .u8 0, .int .u8 0, .int .u8 0, .int .u8 0] 104)) := (by repeat (first | exact Below.refl _ _ | assumption | (with_reducible refine Below.drew ?_) | ((with_reducible first | refine Below.setCell ?_ ?h _ | refine Below.alloc ?_ ?h _ | refine Below.trans ?_ (hb3.mono ?h) | refine Below.trans ?_ (hb2.mono ?h) | refine Below.trans ?_ (hb.mono ?h) | refine Below.trans ?_ (hb0.mono ?h)); case h => first | omega | (simp; done) | (simp; omega))))
 go_loopw [5, 14] (fun r i wr => ∃ (j : Nat), j ≤ 4 ∧ i = .int .i64 j ∧ r = .string ⟨(restL l j).toArray⟩ ∧ (∀ k, k < j → (numP (restL l k)).isSome = true) ∧ Row wr w.heap.size (cells4 (uI l) j) 104 ∧ Below w.heap.size w wr) (fun _ i _ => 4 - (intOf i).toNat)
 case atStart => exact ⟨0, by omega, rfl, rfl, fun k h => absurd h (by omega), Z1, hb0⟩
 case round =>
  clear Z1 hb0
  obtain ⟨j, hj, rfl, rfl, hall, R, hb⟩ := hrel
  have HR := Lib.hid R
  have HB := Lib.hid hb
  have HA := Lib.hid hall
  clear R hb hall
  by_cases hlt : j < 4
  ·have hlb : decide ((j : Int) < 4) = true := by simp; omega
   have hrl := Nat.le_trans (rest_len l j) hl
   go_wp2_with fail
   refine (cut_t (restL l j) hrl wr (hE.later HB.out)).mono ?_
   rintro r w2 ⟨⟨bb, rfl⟩, hb2⟩
   have HR2 := Lib.hid (HR.out.later hb2)
   have HB2 := Lib.hid (below_step HB.out hb2)
   clear HR HB hb2
   go_wp2_with fail
   refine (num_p (restL l j) hrl w2 (hE.later HB2.out)).mono ?_
   rintro r w3 ⟨hr, hb3⟩
   have R3 := HR2.out.later hb3
   have c0 := (R3.cell j).trans (cells4_get (uI l) j j hlt)
   have f0 := R3.frozen j
   have HR3 := Lib.hid R3
   have HB3 := Lib.hid (below_step HB2.out hb3)
   clear HR2 HB2 hb3 R3
   cases hq : numP (restL l j) with
   | some u =>
    rw [hq] at hr
    dsimp only at hr
    subst hr
    have hu := numP_le hq
    have hui : uI l j = u := by unfold uI; rw [hq]; rfl
    go_wp2
    refine ⟨⟨j + 1, by omega, by go_num, rfl, fun k hk => ?_, ?_, HB3.out.setCell (Nat.le_refl _) _⟩, by simp [intOf]; omega⟩
    ·by_cases e : k < j
     ·exact HA.out k e
     ·obtain rfl : k = j := by omega
      rw [hq]; rfl
    ·have := HR3.out.set j (.int .u8 (uI l j))
     rw [cells4_set (uI l) j hlt, hui] at this
     exact this
   | none =>
    rw [hq] at hr
    obtain ⟨u, t, p, rfl⟩ := hr
    have hp4 : parse4 l = (0, 3) := by unfold parse4; rw [if_neg]; intro h; have := h.1 j hlt; rw [hq] at this; cases this
    go_wp2
    exact bodyPost_ret (v := .tuple #[.int .u32 0, .int .i64 3]) (by simp [results, Tryz.results54, go_sem]) rfl ⟨by rw [hp4], HB3.out⟩
  ·have hj4 : j = 4 := by omega
   subst hj4
   have R' : Row wr w.heap.size #[.int .u8 (uI l 0), .int .u8 (uI l 1), .int .u8 (uI l 2), .int .u8 (uI l 3)] 104 := HR.out
   have c0 := (R'.cell 0).trans (show _ = some (Value.int .u8 (uI l 0)) from rfl)
   have c1 := (R'.cell 1).trans (show _ = some (Value.int .u8 (uI l 1)) from rfl)
   have c2 := (R'.cell 2).trans (show _ = some (Value.int .u8 (uI l 2)) from rfl)
   have c3 := (R'.cell 3).trans (show _ = some (Value.int .u8 (uI l 3)) from rfl)
   have hA4 : all4 l := HA.out
   have har := adr_range l
   clear R' HR
   go_wp2_with fail
   refine (of4_t _ _ _ _ (uI_range l 0) (uI_range l 1) (uI_range l 2) (uI_range l 3) wr).mono ?_
   rintro r w2 ⟨rfl, hb2⟩
   rw [show part4 (uI l 0) (uI l 1) (uI l 2) (uI l 3) 4 = adr l from rfl]
   have HB2 := Lib.hid (below_step HB.out hb2)
   clear HB hb2 c0 c1 c2 c3
   go_wp2_with fail
   refine (print4_t (adr l) har.1 har.2 w2 (hE.later HB2.out)).mono ?_
   rintro r w3 ⟨rfl, hb3⟩
   have HB3 := Lib.hid (below_step HB2.out hb3)
   clear HB2 hb3
   by_cases hpr : print4 (adr l) = l
   ·have hp4 : parse4 l = (adr l, 0) := by unfold parse4; rw [if_pos ⟨hA4, hpr⟩]
    rw [hpr]
    go_wp2
    exact bodyPost_ret (v := .tuple #[.int .u32 (adr l), .int .i64 0]) (by simp [results, Tryz.results54, go_sem]) rfl ⟨by rw [hp4], HB3.out⟩
   ·have hp4 : parse4 l = (0, 3) := by unfold parse4; rw [if_neg (fun h => hpr h.2)]
    have hne : ¬ (⟨(print4 (adr l)).toArray⟩ : ByteArray) = ⟨l.toArray⟩ := fun h => hpr (by have := congrArg (fun b : ByteArray => b.data.toList) h; simpa using this)
    generalize print4 (adr l) = pl at *
    have hbq : (pl == l) = false := by simpa using hpr
    have hbr : (!pl == l) = true := by rw [hbq]; rfl
    go_wp2
    exact bodyPost_ret (v := .tuple #[.int .u32 0, .int .i64 3]) (by simp [results, Tryz.results54, go_sem]) rfl ⟨by rw [hp4], HB3.out⟩
theorem index_dot : ∀ (d r : List UInt8), (46 : UInt8) ∉ d → Lib.index (d ++ 46 :: r) [46] = d.length
 | [], r, _ => by simp [Lib.index, List.isPrefixOf]
 | c :: d, r, h => by
  have hc : ¬ (46 : UInt8) = c := fun e => h (by rw [e]; simp)
  have ih := index_dot d r (fun hm => h (List.mem_cons_of_mem _ hm))
  rw [List.cons_append, Lib.index, ih]
  have h1 : ([46] : List UInt8).isPrefixOf (c :: (d ++ 46 :: r)) = false := by simp [List.isPrefixOf, hc]
  have h2 : (((d.length : Nat) : Int) == -1) = false := by rw [beq_eq_false_iff_ne]; omega
  rw [h1, h2]
  simp
theorem index_nodot : ∀ (d : List UInt8), (46 : UInt8) ∉ d → Lib.index d [46] = -1
 | [], _ => rfl
 | c :: d, h => by
  have hc : ¬ (46 : UInt8) = c := fun e => h (by rw [e]; simp)
  have ih := index_nodot d (fun hm => h (List.mem_cons_of_mem _ hm))
  rw [Lib.index, ih]
  have h1 : ([46] : List UInt8).isPrefixOf (c :: d) = false := by simp [List.isPrefixOf, hc]
  rw [h1]
  simp
theorem cut_dot (d r : List UInt8) (h : (46 : UInt8) ∉ d) : cutP (d ++ 46 :: r) = d ∧ cutA (d ++ 46 :: r) = r := by
 unfold cutP cutA Lib.cut
 rw [index_dot d r h, if_pos (by omega)]
 simp
theorem cut_nodot (d : List UInt8) (h : (46 : UInt8) ∉ d) : cutP d = d := by
 unfold cutP Lib.cut
 rw [index_nodot d h, if_neg (by omega)]
def B4 (b : Int) : Prop := 0 ≤ b ∧ b ≤ 255
theorem dec_all4 : ∀ n : Fin 256, (46 : UInt8) ∉ Lib.decDigits n ∧ Lib.parseUintB 8 (Lib.decDigits n) = .ok (n : Nat) := by decide +kernel
theorem dec_byte {b : Int} (h : B4 b) : (46 : UInt8) ∉ Lib.decDigits b.toNat ∧ Lib.parseUintB 8 (Lib.decDigits b.toNat) = .ok b.toNat :=
 dec_all4 ⟨b.toNat, by unfold B4 at h; omega⟩
theorem txt4_is (b0 b1 b2 b3 : Int) : txt4 b0 b1 b2 b3 = Lib.decDigits b0.toNat ++ 46 :: (Lib.decDigits b1.toNat ++ 46 :: (Lib.decDigits b2.toNat ++ 46 :: Lib.decDigits b3.toNat)) := by
 unfold txt4
 simp [Lib.join_cons, Lib.joinTail]
theorem byteI_part (b0 b1 b2 b3 : Int) (h0 : B4 b0) (h1 : B4 b1) (h2 : B4 b2) (h3 : B4 b3) : byteI (part4 b0 b1 b2 b3 4) 0 = b0 ∧ byteI (part4 b0 b1 b2 b3 4) 1 = b1 ∧ byteI (part4 b0 b1 b2 b3 4) 2 = b2 ∧ byteI (part4 b0 b1 b2 b3 4) 3 = b3 := by
 unfold B4 at *
 simp only [part4, byteI]
 simp
 omega
theorem parse_txt (b0 b1 b2 b3 : Int) (h0 : B4 b0) (h1 : B4 b1) (h2 : B4 b2) (h3 : B4 b3) : parse4 (txt4 b0 b1 b2 b3) = (part4 b0 b1 b2 b3 4, 0) := by
 obtain ⟨n0, p0⟩ := dec_byte h0
 obtain ⟨n1, p1⟩ := dec_byte h1
 obtain ⟨n2, p2⟩ := dec_byte h2
 obtain ⟨n3, p3⟩ := dec_byte h3
 have e := txt4_is b0 b1 b2 b3
 have c0 := cut_dot _ (Lib.decDigits b1.toNat ++ 46 :: (Lib.decDigits b2.toNat ++ 46 :: Lib.decDigits b3.toNat)) n0
 have c1 := cut_dot _ (Lib.decDigits b2.toNat ++ 46 :: Lib.decDigits b3.toNat) n1
 have c2 := cut_dot _ (Lib.decDigits b3.toNat) n2
 have c3 := cut_nodot _ n3
 rw [← e] at c0
 have r1 : restL (txt4 b0 b1 b2 b3) 1 = Lib.decDigits b1.toNat ++ 46 :: (Lib.decDigits b2.toNat ++ 46 :: Lib.decDigits b3.toNat) := c0.2
 have r2 : restL (txt4 b0 b1 b2 b3) 2 = Lib.decDigits b2.toNat ++ 46 :: Lib.decDigits b3.toNat := by show cutA (restL _ 1) = _; rw [r1]; exact c1.2
 have r3 : restL (txt4 b0 b1 b2 b3) 3 = Lib.decDigits b3.toNat := by show cutA (restL _ 2) = _; rw [r2]; exact c2.2
 have q0 : numP (restL (txt4 b0 b1 b2 b3) 0) = some b0.toNat := by show numP (txt4 b0 b1 b2 b3) = _; unfold numP; rw [c0.1, p0]
 have q1 : numP (restL (txt4 b0 b1 b2 b3) 1) = some b1.toNat := by rw [r1]; unfold numP; rw [c1.1, p1]
 have q2 : numP (restL (txt4 b0 b1 b2 b3) 2) = some b2.toNat := by rw [r2]; unfold numP; rw [c2.1, p2]
 have q3 : numP (restL (txt4 b0 b1 b2 b3) 3) = some b3.toNat := by rw [r3]; unfold numP; rw [c3, p3]
 have u0 : uI (txt4 b0 b1 b2 b3) 0 = b0 := by unfold uI; rw [q0]; unfold B4 at h0; simp; omega
 have u1 : uI (txt4 b0 b1 b2 b3) 1 = b1 := by unfold uI; rw [q1]; unfold B4 at h1; simp; omega
 have u2 : uI (txt4 b0 b1 b2 b3) 2 = b2 := by unfold uI; rw [q2]; unfold B4 at h2; simp; omega
 have u3 : uI (txt4 b0 b1 b2 b3) 3 = b3 := by unfold uI; rw [q3]; unfold B4 at h3; simp; omega
 have ha : adr (txt4 b0 b1 b2 b3) = part4 b0 b1 b2 b3 4 := by unfold adr; rw [u0, u1, u2, u3]
 obtain ⟨y0, y1, y2, y3⟩ := byteI_part b0 b1 b2 b3 h0 h1 h2 h3
 have hp : print4 (part4 b0 b1 b2 b3 4) = txt4 b0 b1 b2 b3 := by unfold print4; rw [y0, y1, y2, y3]
 have hall : all4 (txt4 b0 b1 b2 b3) := by
  intro i hi
  rcases i with _ | _ | _ | _ | i
  ·rw [q0]; rfl
  ·rw [q1]; rfl
  ·rw [q2]; rfl
  ·rw [q3]; rfl
  ·omega
 unfold parse4
 rw [ha, if_pos ⟨hall, hp⟩]
theorem parse_print (a : Int) (a0 : 0 ≤ a) (a1 : a ≤ 4294967295) : parse4 (print4 a) = (a, 0) := by
 have h := parse_txt (byteI a 0) (byteI a 1) (byteI a 2) (byteI a 3) (byteI_range a 0) (byteI_range a 1) (byteI_range a 2) (byteI_range a 3)
 rw [part4_bytes a a0 a1] at h
 exact h
theorem parse_ok {l : List UInt8} (h : (parse4 l).2 = 0) : print4 (parse4 l).1 = l ∧ 0 ≤ (parse4 l).1 ∧ (parse4 l).1 ≤ 4294967295 := by
 have har := adr_range l
 by_cases hc : all4 l ∧ print4 (adr l) = l
 ·have e : parse4 l = (adr l, 0) := by unfold parse4; rw [if_pos hc]
  rw [e]; exact ⟨hc.2, har⟩
 ·have e : parse4 l = (0, 3) := by unfold parse4; rw [if_neg hc]
  rw [e] at h; cases h
theorem parse_range (l : List UInt8) : 0 ≤ (parse4 l).1 ∧ (parse4 l).1 ≤ 4294967295 := by
 have har := adr_range l
 unfold parse4
 split
 ·exact har
 ·exact ⟨by decide, by decide⟩
theorem parse_err (l : List UInt8) : (parse4 l).2 = 0 ∨ (parse4 l).2 = 3 := by
 unfold parse4
 split
 ·exact .inl rfl
 ·exact .inr rfl
def hexV (c : UInt8) : Option Nat := if 48 ≤ c.toNat ∧ c.toNat ≤ 57 then some (c.toNat - 48) else if 97 ≤ c.toNat ∧ c.toNat ≤ 102 then some (c.toNat - 87) else if 65 ≤ c.toNat ∧ c.toNat ≤ 70 then some (c.toNat - 55) else none
def hexM : Nat → List UInt8 → Option Nat
 | acc, [] => some acc
 | acc, c :: r => match hexV c with
  | none => none
  | some d => if 65535 < acc * 16 + d then none else hexM (acc * 16 + d) r
def hexP (l : List UInt8) : Option Nat := if l = [] then none else hexM 0 l
def grpV (l : List UInt8) : Option Nat := if 4 < l.length then none else hexP l
def splitC : List UInt8 → List (List UInt8)
 | [] => [[]]
 | c :: r => if c = 58 then [] :: splitC r else match splitC r with
  | h :: t => (c :: h) :: t
  | [] => [[c]]
noncomputable def lastV (d : Bool) (p : List UInt8) : Option (List Nat) := if d = true ∧ (parse4 p).2 = 0 then some [(parse4 p).1.toNat / 65536, (parse4 p).1.toNat % 65536] else (grpV p).map fun v => [v]
noncomputable def seqV (d : Bool) : List (List UInt8) → Option (List Nat)
 | [] => some []
 | [p] => lastV d p
 | p :: q :: r => match grpV p, seqV d (q :: r) with
  | some v, some vs => some (v :: vs)
  | _, _ => none
noncomputable def readV (d : Bool) (l : List UInt8) : Option (List Nat) := if l = [] then some [] else seqV d (splitC l)
def cc (l : List UInt8) : List UInt8 × List UInt8 × Bool := Lib.cut l [58, 58]
def fits (c : Bool) (u v : List Nat) : Bool := if c = true then decide (u.length + v.length ≤ 7) else decide (u.length = 8)
noncomputable def parse6 (l : List UInt8) : Option (List Nat) :=
 match readV (!(cc l).2.2) (cc l).1, readV true (cc l).2.1 with
 | some u, some v => if fits (cc l).2.2 u v = true then some (u ++ List.replicate (8 - u.length - v.length) 0 ++ v) else none
 | _, _ => none
/-! texts between colons -/
theorem index_word (s : List UInt8) (b : UInt8) (hs : s.head? = some b) : ∀ (p r : List UInt8), b ∉ p → Lib.index (p ++ r) s = if Lib.index r s = -1 then -1 else Lib.index r s + p.length
 | [], r, _ => by
  rw [List.nil_append]
  split
  ·assumption
  ·simp
 | c :: p, r, h => by
  have hc : ¬ b = c := fun e => h (by rw [e]; simp)
  have ih := index_word s b hs p r (fun hm => h (List.mem_cons_of_mem _ hm))
  obtain ⟨t, rfl⟩ : ∃ t, s = b :: t := by cases s with | nil => cases hs | cons x t => cases hs; exact ⟨t, rfl⟩
  rw [List.cons_append, Lib.index, ih]
  have h1 : (b :: t).isPrefixOf (c :: (p ++ r)) = false := by simp [List.isPrefixOf, hc]
  have hge := Lib.index_ge r (b :: t)
  rw [h1]
  by_cases h2 : Lib.index r (b :: t) = -1
  ·simp [h2]
  ·have h3 : ((Lib.index r (b :: t) + (p.length : Int)) == -1) = false := by rw [beq_eq_false_iff_ne]; omega
   simp only [if_neg h2, h3]
   simp
   omega
theorem cut_at (b : UInt8) (d r : List UInt8) (h : b ∉ d) : Lib.cut (d ++ b :: r) [b] = (d, r, true) := by
 unfold Lib.cut
 have h0 : Lib.index (b :: r) [b] = 0 := by simp [Lib.index, List.isPrefixOf]
 rw [index_word [b] b rfl d (b :: r) h, h0]
 simp
theorem cut_none (b : UInt8) (d : List UInt8) (h : b ∉ d) : Lib.cut d [b] = (d, [], false) := by
 unfold Lib.cut
 have h1 := index_word [b] b rfl d [] h
 rw [List.append_nil] at h1
 rw [h1]
 simp [Lib.index]
theorem split_no : ∀ (p : List UInt8), (58 : UInt8) ∉ p → splitC p = [p]
 | [], _ => rfl
 | c :: p, h => by
  have hc : ¬ c = 58 := fun e => h (by rw [e]; simp)
  rw [splitC, if_neg hc, split_no p (fun hm => h (List.mem_cons_of_mem _ hm))]
theorem split_at : ∀ (p r : List UInt8), (58 : UInt8) ∉ p → splitC (p ++ 58 :: r) = p :: splitC r
 | [], r, _ => by rw [List.nil_append, splitC, if_pos rfl]
 | c :: p, r, h => by
  have hc : ¬ c = 58 := fun e => h (by rw [e]; simp)
  rw [List.cons_append, splitC, if_neg hc, split_at p r (fun hm => h (List.mem_cons_of_mem _ hm))]
theorem split_ne (l : List UInt8) : splitC l ≠ [] := by
 cases l with
 | nil => simp [splitC]
 | cons c r =>
  rw [splitC]
  split
  ·simp
  ·split <;> simp
theorem split_cut (l : List UInt8) : (∃ p r, (58 : UInt8) ∉ p ∧ l = p ++ 58 :: r ∧ Lib.cut l [58] = (p, r, true) ∧ splitC l = p :: splitC r) ∨ ((58 : UInt8) ∉ l ∧ Lib.cut l [58] = (l, [], false) ∧ splitC l = [l]) := by
 by_cases h : (58 : UInt8) ∈ l
 ·obtain ⟨p, r, rfl, hp⟩ := List.eq_append_cons_of_mem h
  exact Or.inl ⟨p, r, hp, rfl, cut_at 58 p r hp, split_at p r hp⟩
 ·exact Or.inr ⟨h, cut_none 58 l h, split_no l h⟩
theorem hexM_lt : ∀ (l : List UInt8) (acc v : Nat), acc ≤ 65535 → hexM acc l = some v → v ≤ 65535
 | [], acc, v, h, e => by cases e; exact h
 | c :: r, acc, v, h, e => by
  rw [hexM] at e
  split at e
  ·cases e
  ·split at e
   ·cases e
   ·exact hexM_lt r _ v (by omega) e
theorem grpV_lt {l : List UInt8} {v : Nat} (h : grpV l = some v) : v ≤ 65535 := by
 unfold grpV hexP at h
 split at h
 ·cases h
 ·split at h
  ·cases h
  ·exact hexM_lt _ _ _ (by omega) h
theorem lastV_lt {d : Bool} {p : List UInt8} {vs : List Nat} (h : lastV d p = some vs) : ∀ v ∈ vs, v ≤ 65535 := by
 unfold lastV at h
 split at h
 ·cases h
  have hr := parse_range p
  intro v hv
  simp at hv
  omega
 ·cases hg : grpV p with
  | none => rw [hg] at h; cases h
  | some x =>
   rw [hg] at h
   cases h
   intro v hv
   simp at hv
   subst hv
   exact grpV_lt hg
theorem seqV_lt (d : Bool) : ∀ (ps : List (List UInt8)) (vs : List Nat), seqV d ps = some vs → ∀ v ∈ vs, v ≤ 65535
 | [], vs, h => by cases h; intro v hv; cases hv
 | [p], vs, h => lastV_lt h
 | p :: q :: r, vs, h => by
  rw [seqV] at h
  split at h
  ·rename_i v us h1 h2
   cases h
   intro x hx
   rcases List.mem_cons.1 hx with rfl | hx
   ·exact grpV_lt h1
   ·exact seqV_lt d (q :: r) us h2 x hx
  ·cases h
theorem readV_lt {d : Bool} {l : List UInt8} {vs : List Nat} (h : readV d l = some vs) : ∀ v ∈ vs, v ≤ 65535 := by
 unfold readV at h
 split at h
 ·cases h; intro v hv; cases hv
 ·exact seqV_lt d _ _ h
theorem low_all : ∀ c : Fin 256, ((65 ≤ (c : Nat) ∧ (c : Nat) ≤ 70) → bits .or .u8 ((c : Nat) : Int) 32 = (c : Nat) + 32) ∧ ((97 ≤ (c : Nat) ∧ (c : Nat) ≤ 102) → bits .or .u8 ((c : Nat) : Int) 32 = (c : Nat)) ∧ (¬ (48 ≤ (c : Nat) ∧ (c : Nat) ≤ 57) → ¬ (97 ≤ (c : Nat) ∧ (c : Nat) ≤ 102) → ¬ (65 ≤ (c : Nat) ∧ (c : Nat) ≤ 70) → (bits .or .u8 ((c : Nat) : Int) 32 < 97 ∨ 103 ≤ bits .or .u8 ((c : Nat) : Int) 32)) := by decide +kernel
theorem hexV_cases (c : UInt8) : (48 ≤ c.toNat ∧ c.toNat ≤ 57 ∧ hexV c = some (c.toNat - 48)) ∨ (97 ≤ c.toNat ∧ c.toNat ≤ 102 ∧ bits .or .u8 (c.toNat : Int) 32 = c.toNat ∧ hexV c = some (c.toNat - 87)) ∨ (65 ≤ c.toNat ∧ c.toNat ≤ 70 ∧ bits .or .u8 (c.toNat : Int) 32 = c.toNat + 32 ∧ hexV c = some (c.toNat - 55)) ∨ (¬ (48 ≤ c.toNat ∧ c.toNat ≤ 57) ∧ (bits .or .u8 (c.toNat : Int) 32 < 97 ∨ 103 ≤ bits .or .u8 (c.toNat : Int) 32) ∧ hexV c = none) := by
 obtain ⟨h1, h2, h3⟩ := low_all ⟨c.toNat, c.toNat_lt⟩
 dsimp only at h1 h2 h3
 unfold hexV
 by_cases c1 : 48 ≤ c.toNat ∧ c.toNat ≤ 57
 ·exact Or.inl ⟨c1.1, c1.2, by rw [if_pos c1]⟩
 ·by_cases c2 : 97 ≤ c.toNat ∧ c.toNat ≤ 102
  ·exact Or.inr (Or.inl ⟨c2.1, c2.2, h2 c2, by rw [if_neg c1, if_pos c2]⟩)
  ·by_cases c3 : 65 ≤ c.toNat ∧ c.toNat ≤ 70
   ·exact Or.inr (Or.inr (Or.inl ⟨c3.1, c3.2, h1 c3, by rw [if_neg c1, if_neg c2, if_pos c3]⟩))
   ·exact Or.inr (Or.inr (Or.inr ⟨c1, h3 c1 c2 c3, by rw [if_neg c1, if_neg c2, if_neg c3]⟩))
def HexPost (o : Option Nat) (e : Ending) : Prop := match o with
 | some v => e = .returned (.tuple #[.int .u64 v, .nilIface])
 | none => ∃ (u k : Int), (k = 1 ∨ k = 2) ∧ e = .returned (.tuple #[.int .u64 u, .iface 187 (.int .i64 k)])
theorem hexM_ok {acc d : Nat} {c : UInt8} (r : List UInt8) (h : hexV c = some d) (h1 : ¬ 65535 < acc * 16 + d) : hexM acc (c :: r) = hexM (acc * 16 + d) r := by rw [hexM, h]; simp only [if_neg h1]
theorem hexM_over {acc d : Nat} {c : UInt8} (r : List UInt8) (h : hexV c = some d) (h1 : 65535 < acc * 16 + d) : hexM acc (c :: r) = none := by rw [hexM, h]; simp only [if_pos h1]
theorem hexM_no {acc : Nat} {c : UInt8} (r : List UInt8) (h : hexV c = none) : hexM acc (c :: r) = none := by rw [hexM, h]
theorem ipu16_t (t : ByteArray) (hne : t.size ≠ 0) (hmax : t.size ≤ 9223372036854775806) (w : World) :
  Calls Tryz.prog 131 #[.string t, .int .i64 16, .int .i64 16] w fun e w' => HexPost (hexM 0 t.data.toList) e ∧ w' = Lib.bytesWorld w 5 t := by
 have hemp : t.toList.isEmpty = false := by
  rw [← decide_eq_emptyBytes]
  exact decide_eq_false (fun h => hne (by rw [h]; rfl))
 have hcv := Lib.run_convert_string_bytes (P := Tryz.prog) w 9 118 5 t (u := .string) Tryz.underlying9 Tryz.underlying118 Tryz.underlying5
 have hB : ∀ j, j < t.size → (Lib.bytesWorld w 5 t).cell? ⟨w.heap.size, j, none⟩ = some (.int .u8 (t.data.toList.getD j 0).toNat) := fun j hj => Lib.bytesWorld_cell w 5 t j hj
 obtain ⟨W1, hW1⟩ : ∃ W1, W1 = Lib.bytesWorld w 5 t := ⟨_, rfl⟩
 rw [← hW1] at hcv hB ⊢
 clear hW1
 obtain ⟨bs, hL⟩ : ∃ bs, bs = t.data.toList := ⟨_, rfl⟩
 have hLn : bs.length = t.size := by rw [hL, Lib.size_eq]
 rw [← hL] at hB ⊢
 clear hL
 have hmv : IntKind.u64.wrap (IntKind.u64.wrap 65536 - 1) = 65535 := by
  rw [IntKind.wrap_u64, IntKind.wrap_u64]
  decide
 go_enter Tryz.func131, Tryz.ntmps131
 go_wp2
 go_loop [12, 13, 101] (fun vu vn vi => ∃ (k acc : Nat) (a : Int), vu = .bool false ∧ vn = .int .u64 a ∧ vi = .int .i64 k ∧ k ≤ t.size ∧ Hid (a = (acc : Int) ∧ acc ≤ 65535 ∧ hexM 0 bs = hexM acc (bs.drop k)))
  (fun _ _ vi => t.size - (intOf vi).toNat)
 case atStart => exact ⟨0, 0, 0, rfl, rfl, rfl, by omega, rfl, by omega, rfl⟩
 case round =>
  obtain ⟨k, acc, a, rfl, rfl, rfl, hk, hh⟩ := hrel
  obtain ⟨ha, hacc, hdec⟩ := hh.out
  clear hh
  have a0 : 0 ≤ a := by omega
  have a1 : a ≤ 65535 := by omega
  by_cases hkn : k < t.size
  ·have hc := hB k hkn
   have hdrop : bs.drop k = bs[k]'(by omega) :: bs.drop (k + 1) := List.drop_eq_getElem_cons (by omega)
   have hget : bs.getD k 0 = bs[k]'(by omega) := by simp [List.getD, List.getElem?_eq_getElem (show k < bs.length by omega)]
   rw [hdrop] at hdec
   rw [hget] at hc
   generalize bs[k]'(by omega) = c at hc hdec
   have hc256 : c.toNat < 256 := c.toNat_lt
   clear hB hdrop hget
   rcases hexV_cases c with ⟨hd0, hd1, hv⟩ | ⟨hd0, hd1, hlo, hv⟩ | ⟨hd0, hd1, hlo, hv⟩ | ⟨hdig, hlo, hv⟩
   ·by_cases hov : 65535 < acc * 16 + (c.toNat - 48)
    ·have HD := Lib.hid (hdec.trans (hexM_over _ hv hov))
     have iov : 65535 < a * 16 + ((c.toNat : Int) - 48) := by omega
     clear hov hacc ha hdec hv
     go_wp2
     go_ret2
     exact ⟨by rw [HD.out]; exact ⟨_, 1, Or.inl rfl, rfl⟩, rfl⟩
    ·have HN : Hid (a * 16 + ((c.toNat : Int) - 48) = ((acc * 16 + (c.toNat - 48) : Nat) : Int) ∧ acc * 16 + (c.toNat - 48) ≤ 65535 ∧ hexM 0 bs = hexM (acc * 16 + (c.toNat - 48)) (bs.drop (k + 1))) := Lib.hid ⟨by omega, by omega, hdec.trans (hexM_ok _ hv hov)⟩
     have iov : a * 16 + ((c.toNat : Int) - 48) ≤ 65535 := by omega
     clear hacc hov hdec ha hv
     go_wp2
     refine ⟨⟨k + 1, acc * 16 + (c.toNat - 48), a * 16 + ((c.toNat : Int) - 48), rfl, (by first | rfl | (congr 1; omega)), (by first | rfl | (congr 1; omega)), by omega, HN⟩, by simp [intOf]; omega⟩
   ·by_cases hov : 65535 < acc * 16 + (c.toNat - 87)
    ·have HD := Lib.hid (hdec.trans (hexM_over _ hv hov))
     have iov : 65535 < a * 16 + ((c.toNat : Int) - 97 + 10) := by omega
     clear hov hacc ha hdec hv
     go_wp2_with (go_at_call 153; refine (Tryz.internal_strconv_lower _ _).mono ?_; rintro e w' ⟨rfl, rfl⟩; rw [hlo])
     go_ret2
     exact ⟨by rw [HD.out]; exact ⟨_, 1, Or.inl rfl, rfl⟩, rfl⟩
    ·have HN : Hid (a * 16 + ((c.toNat : Int) - 97 + 10) = ((acc * 16 + (c.toNat - 87) : Nat) : Int) ∧ acc * 16 + (c.toNat - 87) ≤ 65535 ∧ hexM 0 bs = hexM (acc * 16 + (c.toNat - 87)) (bs.drop (k + 1))) := Lib.hid ⟨by omega, by omega, hdec.trans (hexM_ok _ hv hov)⟩
     have iov : a * 16 + ((c.toNat : Int) - 97 + 10) ≤ 65535 := by omega
     clear hacc hov hdec ha hv
     go_wp2_with (go_at_call 153; refine (Tryz.internal_strconv_lower _ _).mono ?_; rintro e w' ⟨rfl, rfl⟩; rw [hlo])
     refine ⟨⟨k + 1, acc * 16 + (c.toNat - 87), a * 16 + ((c.toNat : Int) - 97 + 10), rfl, (by first | rfl | (congr 1; omega)), (by first | rfl | (congr 1; omega)), by omega, HN⟩, by simp [intOf]; omega⟩
   ·by_cases hov : 65535 < acc * 16 + (c.toNat - 55)
    ·have HD := Lib.hid (hdec.trans (hexM_over _ hv hov))
     have iov : 65535 < a * 16 + ((c.toNat : Int) + 32 - 97 + 10) := by omega
     clear hov hacc ha hdec hv
     go_wp2_with (go_at_call 153; refine (Tryz.internal_strconv_lower _ _).mono ?_; rintro e w' ⟨rfl, rfl⟩; rw [hlo])
     go_ret2
     exact ⟨by rw [HD.out]; exact ⟨_, 1, Or.inl rfl, rfl⟩, rfl⟩
    ·have HN : Hid (a * 16 + ((c.toNat : Int) + 32 - 97 + 10) = ((acc * 16 + (c.toNat - 55) : Nat) : Int) ∧ acc * 16 + (c.toNat - 55) ≤ 65535 ∧ hexM 0 bs = hexM (acc * 16 + (c.toNat - 55)) (bs.drop (k + 1))) := Lib.hid ⟨by omega, by omega, hdec.trans (hexM_ok _ hv hov)⟩
     have iov : a * 16 + ((c.toNat : Int) + 32 - 97 + 10) ≤ 65535 := by omega
     clear hacc hov hdec ha hv
     go_wp2_with (go_at_call 153; refine (Tryz.internal_strconv_lower _ _).mono ?_; rintro e w' ⟨rfl, rfl⟩; rw [hlo])
     refine ⟨⟨k + 1, acc * 16 + (c.toNat - 55), a * 16 + ((c.toNat : Int) + 32 - 97 + 10), rfl, (by first | rfl | (congr 1; omega)), (by first | rfl | (congr 1; omega)), by omega, HN⟩, by simp [intOf]; omega⟩
   ·have HD := Lib.hid (hdec.trans (hexM_no _ hv))
    clear hacc ha hdec hv
    have hv0 := bits_lo_u8 .or (c.toNat : Int) 32
    have hv1 := bits_hi_u8 .or (c.toNat : Int) 32
    have hu0 : bits .or .u8 95 32 = 127 := by decide +kernel
    go_wp2_with (go_at_call 153; refine (Tryz.internal_strconv_lower _ _).mono ?_; rintro e w' ⟨rfl, rfl⟩)
    all_goals go_ret2
    all_goals exact ⟨by rw [HD.out]; exact ⟨_, 2, Or.inr rfl, rfl⟩, rfl⟩
  ·have hkk : k = t.size := by omega
   subst hkk
   have hF : hexM acc (bs.drop t.size) = some acc := by rw [List.drop_eq_nil_of_le (by omega)]; rfl
   have HD := Lib.hid (hdec.trans hF)
   subst ha
   clear hacc hF a0 a1 hdec
   go_wp2
   go_ret2
   exact ⟨by rw [HD.out]; rfl, rfl⟩
theorem pu16_in (l : List UInt8) (hl : l.length ≤ 4000000000) (w : World) : Calls Tryz.prog 131 #[.string ⟨l.toArray⟩, .int .i64 16, .int .i64 16] w fun e w' => HexPost (hexP l) e ∧ Below w.heap.size w w' := by
 by_cases h0 : l = []
 ·subst h0
  refine (Tryz.internal_strconv_ParseUint_empty 16 16 w).mono ?_
  rintro e w' ⟨rfl, rfl⟩
  exact ⟨⟨0, 2, Or.inr rfl, rfl⟩, Below.refl _ _⟩
 ·have hln : l.length ≠ 0 := fun h => h0 (List.length_eq_zero_iff.1 h)
  refine (ipu16_t ⟨l.toArray⟩ (by rw [bs_size4]; exact hln) (by rw [bs_size4]; omega) w).mono ?_
  rintro e w' ⟨h, rfl⟩
  rw [bs_data] at h
  unfold hexP
  rw [if_neg h0]
  exact ⟨h, Joins.below_bytesWorld _ w _ _ (Nat.le_refl _)⟩
def HexPub (o : Option Nat) (e : Ending) : Prop := match o with
 | some v => e = .returned (.tuple #[.int .u64 v, .nilIface])
 | none => ∃ u t p, e = .returned (.tuple #[.int .u64 u, .iface t p])
theorem gSyn : Tryz.prog.globalNamed "strconv.ErrSyntax" = some 3 := by kernel_rfl
theorem gRng : Tryz.prog.globalNamed "strconv.ErrRange" = some 4 := by kernel_rfl
theorem pu16_t (l : List UInt8) (hl : l.length ≤ 4000000000) (w : World) (hE : Env w) : Calls Tryz.prog 96 #[.string ⟨l.toArray⟩, .int .i64 16, .int .i64 16] w fun e w' => HexPub (hexP l) e ∧ Below w.heap.size w w' := by
 go_enter Tryz.func96, Tryz.ntmps96
 go_wp2_with fail
 refine (pu16_in l hl w).mono ?_
 rintro e w1 ⟨hP, hb⟩
 have HB := Lib.hid hb
 clear hb
 cases hq : hexP l with
 | some v =>
  rw [hq] at hP
  obtain rfl : e = .returned (.tuple #[.int .u64 v, .nilIface]) := hP
  go_wp2
  go_ret2
  exact ⟨by rw [hq]; rfl, HB.out⟩
 | none =>
  rw [hq] at hP
  obtain ⟨u, k, hk, rfl⟩ : ∃ (u k : Int), (k = 1 ∨ k = 2) ∧ e = .returned (.tuple #[.int .u64 u, .iface 187 (.int .i64 k)]) := hP
  have hE1 := hE.later HB.out
  have hto : Calls Tryz.prog 132 #[.string ⟨#[80, 97, 114, 115, 101, 85, 105, 110, 116]⟩, .string ⟨l.toArray⟩, .int .i64 16, .int .i64 16, .iface 187 (.int .i64 k)] w1 fun e w' => (∃ t p, e = .returned (.iface t p)) ∧ Below w1.heap.size w1 w' := by
   rcases hk with rfl | rfl
   ·obtain ⟨tp, p, hv⟩ := hE1.r
    have h0 := World.var?_cell gRng hv 0
    refine (Tryz.strconv_toError_range ⟨#[80, 97, 114, 115, 101, 85, 105, 110, 116]⟩ ⟨l.toArray⟩ 16 16 (.iface tp p) w1 (by rw [bs_size4]; omega) (by simpa using h0) (Or.inr ⟨tp, p, rfl⟩)).mono ?_
    rintro e w' ⟨N, rfl, _, _, hb⟩
    exact ⟨⟨_, _, rfl⟩, hb⟩
   ·obtain ⟨tp, p, hv⟩ := hE1.s
    have h0 := World.var?_cell gSyn hv 0
    refine (Tryz.strconv_toError_syntax ⟨#[80, 97, 114, 115, 101, 85, 105, 110, 116]⟩ ⟨l.toArray⟩ 16 16 (.iface tp p) w1 (by rw [bs_size4]; omega) (by simpa using h0) (Or.inr ⟨tp, p, rfl⟩)).mono ?_
    rintro e w' ⟨N, rfl, _, _, hb⟩
    exact ⟨⟨_, _, rfl⟩, hb⟩
  clear hE1
  go_wp2_with fail
  refine hto.mono ?_
  rintro e w2 ⟨⟨t, p, rfl⟩, hb2⟩
  have HB2 := Lib.hid (below_step HB.out hb2)
  clear HB hb2 hto
  go_wp2
  go_ret2
  exact ⟨by rw [hq]; exact ⟨_, _, _, rfl⟩, HB2.out⟩
def lf (vs : List Nat) (i : Nat) : Int := ((vs.getD i 0 : Nat) : Int)
def cellsV (vs : List Nat) : Array Value := #[.int .u16 (lf vs 0), .int .u16 (lf vs 1), .int .u16 (lf vs 2), .int .u16 (lf vs 3), .int .u16 (lf vs 4), .int .u16 (lf vs 5), .int .u16 (lf vs 6), .int .u16 (lf vs 7)]
theorem cellsV_get (vs : List Nat) (i : Nat) (h : i < 8) : (cellsV vs)[i]? = some (.int .u16 (lf vs i)) := by
 rcases i with _ | _ | _ | _ | _ | _ | _ | _ | i <;> first | rfl | omega
theorem cellsV_size (vs : List Nat) : (cellsV vs).size = 8 := rfl
theorem lf_app (vs : List Nat) (v i : Nat) : lf (vs ++ [v]) i = if i = vs.length then (v : Int) else lf vs i := by
 unfold lf
 by_cases h : i < vs.length
 ·rw [if_neg (by omega)]; simp [List.getElem?_append_left h]
 ·by_cases h2 : i = vs.length
  ·subst h2; simp
  ·rw [if_neg h2]; simp [List.getElem?_eq_none (show vs.length ≤ i by omega), List.getElem?_eq_none (show (vs ++ [v]).length ≤ i by simp; omega)]
theorem cellsV_set (vs : List Nat) (v : Nat) (h : vs.length < 8) : (cellsV vs).setIfInBounds vs.length (.int .u16 (v : Int)) = cellsV (vs ++ [v]) := by
 apply Array.ext_getElem?
 intro i
 by_cases hi : i < 8
 ·rw [cellsV_get _ i hi, lf_app, Array.getElem?_setIfInBounds]
  by_cases he : vs.length = i
  ·rw [if_pos he, if_pos (by rw [cellsV_size]; exact h), if_pos he.symm]
  ·rw [if_neg he, cellsV_get _ i hi, if_neg (fun e => he e.symm)]
 ·rw [Array.getElem?_eq_none (by simp [cellsV_size]; omega), Array.getElem?_eq_none (by rw [cellsV_size]; omega)]
noncomputable def stepV (d last : Bool) (p : List UInt8) (n : Nat) : Option (List Nat) :=
 if d = true ∧ last = true ∧ (parse4 p).2 = 0 ∧ n + 2 ≤ 8 then some [(parse4 p).1.toNat / 65536, (parse4 p).1.toNat % 65536] else if n < 8 then (grpV p).map fun v => [v] else none
def StepPost (o : Option (List Nat)) (d : Bool) (vs : List Nat) (B gd gn gg : Nat) (w : World) (e : Ending) (w' : World) : Prop := match o with
 | some xs => e = .returned (.bool true) ∧ Row w' gd #[.bool d] 4 ∧ Row w' gn #[.int .i64 ((vs ++ xs).length : Nat)] 3 ∧ Row w' gg (cellsV (vs ++ xs)) 107 ∧ Below B w w'
 | none => e = .returned (.bool false) ∧ Row w' gd #[.bool d] 4 ∧ Row w' gn #[.int .i64 (vs.length : Nat)] 3 ∧ Row w' gg (cellsV vs) 107 ∧ Below B w w'
theorem seq1_t (d last : Bool) (p : List UInt8) (hp : p.length ≤ 4000000000) (vs : List Nat) (hvs : vs.length ≤ 8) (B gd gn gg : Nat) (h1 : B ≤ gn) (h2 : B ≤ gg) (h3 : gd ≠ gn) (h4 : gd ≠ gg) (h5 : gn ≠ gg) (w : World) (hE : Env w) (Rd : Row w gd #[.bool d] 4) (Rn : Row w gn #[.int .i64 (vs.length : Nat)] 3) (Rg : Row w gg (cellsV vs) 107) :
  Calls Tryz.prog 133 #[.string ⟨p.toArray⟩, .bool last, .pointer (some ⟨gd, 0, none⟩), .pointer (some ⟨gn, 0, none⟩), .pointer (some ⟨gg, 0, none⟩)] w (StepPost (stepV d last p vs.length) d vs B gd gn gg w) := by
 have hBw : B ≤ w.heap.size := Nat.le_trans h1 (Nat.le_of_lt Rn.lt)
 have HRd := Lib.hid Rd
 have HRn := Lib.hid Rn
 have HRg := Lib.hid Rg
 clear Rd Rn Rg
 have hST : ∀ r, r = stepV d last p vs.length → stepV d last p vs.length = r := fun r h => h.symm
 go_enter Tryz.func133, Tryz.ntmps133
 go_wp2_with fail
 refine (parse4_t p hp w hE).mono ?_
 rintro e w1 ⟨rfl, hb1⟩
 have HB1 := Lib.hid (hb1.mono hBw)
 have HRd1 := Lib.hid (HRd.out.later hb1)
 have HRn1 := Lib.hid (HRn.out.later hb1)
 have HRg1 := Lib.hid (HRg.out.later hb1)
 have HE1 := Lib.hid (hE.later hb1)
 have Rz : ∀ X, X = w1.heap.size → B ≤ w1.heap.size := fun _ _ => Nat.le_trans hBw hb1.size
 have hBw1 := Rz _ rfl
 clear HRd HRn HRg hb1 Rz hST
 have hrng := parse_range p
 have herr := parse_err p
 have HST : Hid (stepV d last p vs.length = if d = true ∧ last = true ∧ (parse4 p).2 = 0 ∧ vs.length + 2 ≤ 8 then some [(parse4 p).1.toNat / 65536, (parse4 p).1.toNat % 65536] else if vs.length < 8 then (grpV p).map fun v => [v] else none) := Lib.hid rfl
 generalize stepV d last p vs.length = sv at *
 generalize parse4 p = pr at *
 obtain ⟨A, er⟩ := pr
 dsimp only at hrng herr HST ⊢
 have cd : w1.cell? ⟨gd, 0, none⟩ = some (.bool d) := (HRd1.out.cell 0).trans rfl
 have cn : w1.cell? ⟨gn, 0, none⟩ = some (.int .i64 (vs.length : Nat)) := (HRn1.out.cell 0).trans rfl
 have hnA : ∀ (P : Prop), P → ¬ (d = true ∧ last = true ∧ er = 0 ∧ vs.length + 2 ≤ 8) → P ∧ ¬ (d = true ∧ last = true ∧ er = 0 ∧ vs.length + 2 ≤ 8) := fun _ a b => ⟨a, b⟩
 have hcs : (d = true ∧ last = true ∧ er = 0 ∧ vs.length + 2 ≤ 8) ∨ (er = 3 ∧ ¬ (d = true ∧ last = true ∧ er = 0 ∧ vs.length + 2 ≤ 8)) ∨ ((er = 0 ∧ d = false) ∧ ¬ (d = true ∧ last = true ∧ er = 0 ∧ vs.length + 2 ≤ 8)) ∨ ((er = 0 ∧ d = true ∧ last = false) ∧ ¬ (d = true ∧ last = true ∧ er = 0 ∧ vs.length + 2 ≤ 8)) ∨ ((er = 0 ∧ d = true ∧ last = true ∧ ¬ vs.length + 2 ≤ 8) ∧ ¬ (d = true ∧ last = true ∧ er = 0 ∧ vs.length + 2 ≤ 8)) := by
  cases d <;> cases last <;> simp <;> omega
 clear hnA
 rcases hcs with hA | ⟨rfl, hA⟩ | ⟨⟨rfl, rfl⟩, hA⟩ | ⟨⟨rfl, rfl, rfl⟩, hA⟩ | ⟨⟨rfl, rfl, rfl, hn8⟩, hA⟩
 ·have HS := Lib.hid (HST.out.trans (if_pos hA))
  obtain ⟨rfl, rfl, rfl, hn2⟩ := hA
  clear HST herr hE hvs
  have g0 := (HRg1.out.cell vs.length).trans (cellsV_get vs vs.length (by omega))
  have g1 := (HRg1.out.cell (vs.length + 1)).trans (cellsV_get vs (vs.length + 1) (by omega))
  have f0 := HRg1.out.frozen vs.length
  have f1 := HRg1.out.frozen (vs.length + 1)
  have fn := HRn1.out.frozen 0
  generalize lf vs vs.length = y0 at *
  generalize lf vs (vs.length + 1) = y1 at *
  generalize hn : vs.length = n at *
  have HN := Lib.hid hn
  clear hn
  have q1 : (n : Int) + 2 ≤ 8 := by omega
  have q2 : ((n : Int) + 1).toNat = n + 1 := by omega
  have q4 : 0 ≤ A := hrng.1
  have q5 : A ≤ 4294967295 := hrng.2
  have q6 : IntKind.i64.wrap ((n : Int) + 1) = (n : Int) + 1 := by simp [IntKind.wrap, IntKind.bits, IntKind.signed]; omega
  have q3 : IntKind.u16.wrap (A / 65536) = A / 65536 := by simp [IntKind.wrap, IntKind.bits, IntKind.signed]; omega
  have q7 : IntKind.u16.wrap A = A % 65536 := by simp [IntKind.wrap, IntKind.bits, IntKind.signed]
  go_wp2_with fail
  go_region
  have RG2 := ((HRg1.out.set n (.int .u16 (A / 65536))).set (n + 1) (.int .u16 (A % 65536))).drew
  have RN2 := ((HRn1.out.set_far ⟨gg, n, none⟩ (.int .u16 (A / 65536)) (by dsimp only; omega)).set_far ⟨gg, n + 1, none⟩ (.int .u16 (A % 65536)) (by dsimp only; omega)).drew
  have RD2 := ((HRd1.out.set_far ⟨gg, n, none⟩ (.int .u16 (A / 65536)) (by dsimp only; omega)).set_far ⟨gg, n + 1, none⟩ (.int .u16 (A % 65536)) (by dsimp only; omega)).drew
  have HB2 := Lib.hid ((HB1.out.setCell (p := ⟨gg, n, none⟩) (by dsimp only; omega) (.int .u16 (A / 65536))).setCell (p := ⟨gg, n + 1, none⟩) (by dsimp only; omega) (.int .u16 (A % 65536))).drew
  generalize ((w1.setCell ⟨gg, n, none⟩ (.int .u16 (A / 65536))).setCell ⟨gg, n + 1, none⟩ (.int .u16 (A % 65536))).drew = w2 at *
  have cn2 : w2.cell? ⟨gn, 0, none⟩ = some (.int .i64 (n : Nat)) := (RN2.cell 0).trans rfl
  have fn2 := RN2.frozen 0
  have HRG2 := Lib.hid RG2
  have HRN2 := Lib.hid RN2
  have HRD2 := Lib.hid RD2
  clear RG2 RN2 RD2 g0 g1 f0 f1 cn fn cd HRg1 HRn1 HRd1 HB1
  go_wp2
  go_ret
  rw [HS.out]
  obtain rfl := HN.out
  have e1 : A / 65536 = ((A.toNat / 65536 : Nat) : Int) := by omega
  have e2 : A % 65536 = ((A.toNat % 65536 : Nat) : Int) := by omega
  refine ⟨rfl, HRD2.out.set_far _ _ (by dsimp only; omega), ?_, ?_, HB2.out.setCell (by dsimp only; omega) _⟩
  ·have := HRN2.out.set 0 (.int .i64 ((vs.length : Int) + 2))
   simpa using this
  ·have h8 := HRG2.out.set_far ⟨gn, 0, none⟩ (.int .i64 ((vs.length : Int) + 2)) (by dsimp only; omega)
   rw [e1, e2, cellsV_set vs _ (by omega), show vs.length + 1 = (vs ++ [A.toNat / 65536]).length by simp, cellsV_set (vs ++ [A.toNat / 65536]) _ (by simp; omega)] at h8
   simpa using h8
 all_goals
  have HS := Lib.hid (HST.out.trans (if_neg hA))
  clear hA HST herr hrng
  try have q8 : (8 : Int) < (vs.length : Int) + 2 := by omega
  go_wp2_with fail
  refine (pu16_t p hp w1 HE1.out).mono ?_
  rintro e w2 ⟨hP, hb2⟩
  have HB2 := Lib.hid (HB1.out.trans (hb2.mono hBw1))
  have HRD2 := Lib.hid (HRd1.out.later hb2)
  have HRN2 := Lib.hid (HRn1.out.later hb2)
  have HRG2 := Lib.hid (HRg1.out.later hb2)
  clear HRd1 HRn1 HRg1 HB1 hb2 cd cn HE1 hE
  have cn2 : w2.cell? ⟨gn, 0, none⟩ = some (.int .i64 (vs.length : Nat)) := (HRN2.out.cell 0).trans rfl
  have fn2 := HRN2.out.frozen 0
  have hgr : grpV p = if 4 < p.length then none else hexP p := rfl
  cases hq : hexP p with
  | none =>
   rw [hq] at hP hgr
   obtain ⟨u, t, pp, rfl⟩ : ∃ u t pp, e = .returned (.tuple #[.int .u64 u, .iface t pp]) := hP
   have hsv : sv = none := by rw [HS.out, hgr]; simp
   clear hgr
   go_wp2
   go_ret
   rw [hsv]
   exact ⟨rfl, HRD2.out, HRN2.out, HRG2.out, HB2.out⟩
  | some v =>
   rw [hq] at hP hgr
   obtain rfl : e = .returned (.tuple #[.int .u64 v, .nilIface]) := hP
   have hv : v ≤ 65535 := by
    unfold hexP at hq
    split at hq
    ·cases hq
    ·exact hexM_lt _ _ _ (by omega) hq
   clear hq
   by_cases hl4 : 4 < p.length
   ·have hsv : sv = none := by rw [HS.out, hgr, if_pos hl4]; simp
    have hl4' : (4 : Int) < (p.length : Int) := by omega
    clear hgr
    go_wp2
    go_ret
    rw [hsv]
    exact ⟨rfl, HRD2.out, HRN2.out, HRG2.out, HB2.out⟩
   ·rw [if_neg hl4] at hgr
    have hl4' : ¬ (4 : Int) < (p.length : Int) := by omega
    by_cases hn7 : vs.length < 8
    ·have hsv : sv = some [v] := by rw [HS.out, hgr, if_pos hn7]; rfl
     have hn9 : ((vs.length : Int) == 8) = false := by rw [beq_eq_false_iff_ne]; omega
     have hn10 : ¬ (vs.length : Int) = 8 := by omega
     have g0 := (HRG2.out.cell vs.length).trans (cellsV_get vs vs.length (by omega))
     have f0 := HRG2.out.frozen vs.length
     have q9 : (v : Int) % 65536 = v := by omega
     clear hgr
     go_wp2
     go_ret
     rw [hsv]
     refine ⟨rfl, (HRD2.out.set_far _ _ (by dsimp only; omega)).set_far _ _ (by dsimp only; omega), ?_, ?_, (HB2.out.setCell (by dsimp only; omega) _).setCell (by dsimp only; omega) _⟩
     ·have := (HRN2.out.set_far ⟨gg, vs.length, none⟩ (.int .u16 (v : Int)) (by dsimp only; omega)).set 0 (.int .i64 ((vs.length : Int) + 1))
      simpa using this
     ·have h8 := (HRG2.out.set vs.length (.int .u16 (v : Int))).set_far ⟨gn, 0, none⟩ (.int .i64 ((vs.length : Int) + 1)) (by dsimp only; omega)
      rw [cellsV_set vs _ (by omega)] at h8
      exact h8
    ·have hsv : sv = none := by rw [HS.out, if_neg hn7]
     have hn9 : (vs.length : Int) = 8 := by omega
     have hn10 : ((vs.length : Int) == 8) = true := by rw [beq_iff_eq]; omega
     clear hgr
     go_wp2
     go_ret
     rw [hsv]
     exact ⟨rfl, HRD2.out, HRN2.out, HRG2.out, HB2.out⟩
theorem hexM_mem {c : UInt8} (hc : hexV c = none) : ∀ (l : List UInt8) (acc : Nat), c ∈ l → hexM acc l = none
 | [], _, h => by cases h
 | x :: r, acc, h => by
  rw [hexM]
  by_cases e : c = x
  ·subst e; rw [hc]
  ·have hr : c ∈ r := by rcases List.mem_cons.1 h with h | h; exact absurd h e; exact h
   split
   ·rfl
   ·split
    ·rfl
    ·exact hexM_mem hc r _ hr
theorem grpV_dot {p : List UInt8} (h : (parse4 p).2 = 0) : grpV p = none := by
 have hm : (46 : UInt8) ∈ p := by
  rw [← (parse_ok h).1]
  unfold print4
  rw [txt4_is]
  simp
 unfold grpV hexP
 split
 ·rfl
 ·split
  ·rfl
  ·exact hexM_mem (by decide) p 0 hm
theorem seqV_cons (d : Bool) (p : List UInt8) (ps : List (List UInt8)) (h : ps ≠ []) : seqV d (p :: ps) = match grpV p, seqV d ps with
  | some v, some vs => some (v :: vs)
  | _, _ => none := by
 cases ps with
 | nil => exact absurd rfl h
 | cons q r => rw [seqV] <;> cases grpV p <;> cases seqV d (q :: r) <;> rfl
noncomputable def seqR (d : Bool) (l : List UInt8) : Option (List Nat) := match readV d l with
 | some vs => if vs.length ≤ 8 then some vs else none
 | none => none
def MorePost (d : Bool) (l r : List UInt8) (vs : List Nat) (o : Option (List Nat)) : Prop := match o with
 | some xs => (vs ++ xs).length ≤ 8 ∧ seqV d (splitC l) = (seqV d (splitC r)).map fun us => (vs ++ xs) ++ us
 | none => ∀ us, seqV d (splitC l) = some us → 8 < us.length
theorem step_more {d : Bool} {l rest p r : List UInt8} {vs : List Nat} (hs : splitC rest = p :: splitC r) (hrel : seqV d (splitC l) = (seqV d (splitC rest)).map fun us => vs ++ us) (hn : vs.length ≤ 8) : MorePost d l r vs (stepV d false p vs.length) := by
 rw [hs, seqV_cons d p _ (split_ne r)] at hrel
 unfold stepV
 rw [if_neg (by simp)]
 cases hg : grpV p with
 | none =>
  rw [hg] at hrel
  have hR : seqV d (splitC l) = none := hrel
  have : (if vs.length < 8 then Option.map (fun v => [v]) (none : Option Nat) else none) = none := by simp
  rw [this]
  intro us h; rw [hR] at h; cases h
 | some v =>
  rw [hg] at hrel
  by_cases h8 : vs.length < 8
  ·rw [if_pos h8]
   refine ⟨by simp; omega, ?_⟩
   rw [hrel]
   cases seqV d (splitC r) with
   | none => rfl
   | some us => simp
  ·rw [if_neg h8]
   intro us h
   rw [hrel] at h
   cases hq : seqV d (splitC r) with
   | none => rw [hq] at h; cases h
   | some ys => rw [hq] at h; simp at h; rw [← h]; simp; omega
def LastPost (d : Bool) (l : List UInt8) (vs : List Nat) (o : Option (List Nat)) : Prop := match o with
 | some xs => (vs ++ xs).length ≤ 8 ∧ seqV d (splitC l) = some (vs ++ xs)
 | none => ∀ us, seqV d (splitC l) = some us → 8 < us.length
theorem step_last {d : Bool} {l rest : List UInt8} {vs : List Nat} (hs : splitC rest = [rest]) (hrel : seqV d (splitC l) = (seqV d (splitC rest)).map fun us => vs ++ us) (hn : vs.length ≤ 8) : LastPost d l vs (stepV d true rest vs.length) := by
 rw [hs, seqV] at hrel
 unfold lastV at hrel
 unfold stepV
 by_cases h4 : d = true ∧ (parse4 rest).2 = 0
 ·rw [if_pos h4] at hrel
  by_cases h6 : vs.length + 2 ≤ 8
  ·rw [if_pos ⟨h4.1, rfl, h4.2, h6⟩]
   exact ⟨by simp; omega, hrel⟩
  ·rw [if_neg (fun h => h6 h.2.2.2), grpV_dot h4.2]
   have : (if vs.length < 8 then Option.map (fun v => [v]) (none : Option Nat) else none) = none := by simp
   rw [this]
   intro us h; rw [hrel] at h; simp at h; rw [← h]; simp; omega
 ·rw [if_neg h4] at hrel
  rw [if_neg (fun h => h4 ⟨h.1, h.2.2.1⟩)]
  cases hg : grpV rest with
  | none =>
   rw [hg] at hrel
   have : (if vs.length < 8 then Option.map (fun v => [v]) (none : Option Nat) else none) = none := by simp
   rw [this]
   intro us h; rw [hrel] at h; cases h
  | some v =>
   rw [hg] at hrel
   by_cases h8 : vs.length < 8
   ·rw [if_pos h8]
    exact ⟨by simp; omega, hrel⟩
   ·rw [if_neg h8]
    intro us h; rw [hrel] at h; simp at h; rw [← h]; simp; omega
theorem seqR_none {d : Bool} {l : List UInt8} (h0 : l ≠ []) (h : ∀ us, seqV d (splitC l) = some us → 8 < us.length) : seqR d l = none := by
 unfold seqR readV
 rw [if_neg h0]
 cases hq : seqV d (splitC l) with
 | none => rfl
 | some us => have := h us hq; simp; omega
theorem seqR_some {d : Bool} {l : List UInt8} {vs : List Nat} (h0 : l ≠ []) (h : seqV d (splitC l) = some vs) (h8 : vs.length ≤ 8) : seqR d l = some vs := by
 unfold seqR readV
 rw [if_neg h0, h]
 simp [h8]
theorem cutb_t (l s : List UInt8) (hl : l.length ≤ 4000000000) (w : World) (hE : Env w) : Calls Tryz.prog 21 #[.string ⟨l.toArray⟩, .string ⟨s.toArray⟩] w fun e w' => e = .returned (.tuple #[.string ⟨(Lib.cut l s).1.toArray⟩, .string ⟨(Lib.cut l s).2.1.toArray⟩, .bool (Lib.cut l s).2.2]) ∧ Below w.heap.size w w' := by
 obtain ⟨m, hm⟩ := hE.m
 refine (Tryz.strings_Cut ⟨l.toArray⟩ ⟨s.toArray⟩ m w (by rw [bs_size4]; omega) hm).mono ?_
 rintro e w' ⟨rfl, n, rfl⟩
 exact ⟨rfl, below_drewN (Below.refl _ _) n⟩
def SeqPost (o : Option (List Nat)) (w : World) (e : Ending) (w' : World) : Prop := (match o with
 | some vs => e = .returned (.tuple #[arr8 (lf vs), .int .i64 (vs.length : Nat), .bool true])
 | none => e = .returned (.tuple #[arr8 (fun _ => 0), .int .i64 0, .bool false])) ∧ Below w.heap.size w w'
theorem lf_nil : lf [] = fun _ => 0 := by funext i; simp [lf]
def mLen6 (s m : Value) : Nat := match m, s with
 | .bool true, .string b => b.size + 1
 | _, _ => 0
theorem setV (f : Nat → Int) (a0 a1 a2 a3 a4 a5 a6 a7 : Value) : ((((((((#[Value.int .u16 (f 0), .int .u16 (f 1), .int .u16 (f 2), .int .u16 (f 3), .int .u16 (f 4), .int .u16 (f 5), .int .u16 (f 6), .int .u16 (f 7)] : Array Value).setIfInBounds 0 a0).setIfInBounds 1 a1).setIfInBounds 2 a2).setIfInBounds 3 a3).setIfInBounds 4 a4).setIfInBounds 5 a5).setIfInBounds 6 a6).setIfInBounds 7 a7 = #[a0, a1, a2, a3, a4, a5, a6, a7] := by simp
theorem Row.set8 {w : World} {g : Nat} {f : Nat → Int} {t : TypeId} (h : Row w g #[.int .u16 (f 0), .int .u16 (f 1), .int .u16 (f 2), .int .u16 (f 3), .int .u16 (f 4), .int .u16 (f 5), .int .u16 (f 6), .int .u16 (f 7)] t) (a0 a1 a2 a3 a4 a5 a6 a7 : Value) :
  Row ((((((((w.setCell ⟨g, 0, none⟩ a0).setCell ⟨g, 1, none⟩ a1).setCell ⟨g, 2, none⟩ a2).setCell ⟨g, 3, none⟩ a3).setCell ⟨g, 4, none⟩ a4).setCell ⟨g, 5, none⟩ a5).setCell ⟨g, 6, none⟩ a6).setCell ⟨g, 7, none⟩ a7) g #[a0, a1, a2, a3, a4, a5, a6, a7] t := by
 have := (((((((h.set 0 a0).set 1 a1).set 2 a2).set 3 a3).set 4 a4).set 5 a5).set 6 a6).set 7 a7
 rwa [setV] at this
theorem Row.far8 {w : World} {g k : Nat} {cs : Array Value} {t : TypeId} (h : Row w k cs t) (hne : k ≠ g) (a0 a1 a2 a3 a4 a5 a6 a7 : Value) :
  Row ((((((((w.setCell ⟨g, 0, none⟩ a0).setCell ⟨g, 1, none⟩ a1).setCell ⟨g, 2, none⟩ a2).setCell ⟨g, 3, none⟩ a3).setCell ⟨g, 4, none⟩ a4).setCell ⟨g, 5, none⟩ a5).setCell ⟨g, 6, none⟩ a6).setCell ⟨g, 7, none⟩ a7) k cs t :=
 (((((((h.set_far ⟨g, 0, none⟩ a0 hne).set_far ⟨g, 1, none⟩ a1 hne).set_far ⟨g, 2, none⟩ a2 hne).set_far ⟨g, 3, none⟩ a3 hne).set_far ⟨g, 4, none⟩ a4 hne).set_far ⟨g, 5, none⟩ a5 hne).set_far ⟨g, 6, none⟩ a6 hne).set_far ⟨g, 7, none⟩ a7 hne
theorem below8 {B : Nat} {u w : World} {g : Nat} (h : Below B u w) (hg : B ≤ g) (a0 a1 a2 a3 a4 a5 a6 a7 : Value) :
  Below B u ((((((((w.setCell ⟨g, 0, none⟩ a0).setCell ⟨g, 1, none⟩ a1).setCell ⟨g, 2, none⟩ a2).setCell ⟨g, 3, none⟩ a3).setCell ⟨g, 4, none⟩ a4).setCell ⟨g, 5, none⟩ a5).setCell ⟨g, 6, none⟩ a6).setCell ⟨g, 7, none⟩ a7) :=
 (((((((h.setCell (p := ⟨g, 0, none⟩) hg a0).setCell (p := ⟨g, 1, none⟩) hg a1).setCell (p := ⟨g, 2, none⟩) hg a2).setCell (p := ⟨g, 3, none⟩) hg a3).setCell (p := ⟨g, 4, none⟩) hg a4).setCell (p := ⟨g, 5, none⟩) hg a5).setCell (p := ⟨g, 6, none⟩) hg a6).setCell (p := ⟨g, 7, none⟩) hg a7
theorem seq_t (d : Bool) (l : List UInt8) (hl : l.length ≤ 4000000000) (w : World) (hE : Env w) : Calls Tryz.prog 100 #[.string ⟨l.toArray⟩, .bool d] w (SeqPost (seqR d l) w) := by
 have hmf : ∀ (fn : Fn) (first cap : Array Value) (w : World), (Instr.makeFunc fn first cap).run Tryz.prog w = .ok (.func fn first cap) w := fun _ _ _ _ => rfl
 by_cases h0 : l = []
 ·subst h0
  have hsr : seqR d [] = some [] := by unfold seqR readV; simp
  rw [hsr]
  have HM := Lib.hid hmf
  clear hmf hsr
  go_enter Tryz.func100, Tryz.ntmps100
  go_wp2
  exact bodyPost_ret (v := .tuple #[arr8 (lf []), .int .i64 0, .bool true]) (by simp only [results, Tryz.results100]; simp [go_sem, arr8, lf_nil]) rfl ⟨rfl, (by repeat (first | exact Below.refl _ _ | assumption | (with_reducible refine Below.drew ?_) | ((with_reducible first | refine Below.setCell ?_ ?h _ | refine Below.alloc ?_ ?h _ | refine Below.trans ?_ (hb3.mono ?h) | refine Below.trans ?_ (hb2.mono ?h) | refine Below.trans ?_ (hb.mono ?h) | refine Below.trans ?_ (hb0.mono ?h)); case h => first | omega | (simp; done) | (simp; omega))))⟩
 ·obtain ⟨t, ht⟩ : ∃ t : ByteArray, t = ⟨l.toArray⟩ := ⟨_, rfl⟩
  have hemp : t.toList.isEmpty = false := by
   rw [← decide_eq_emptyBytes]
   exact decide_eq_false (fun h => h0 (by rw [ht] at h; have := congrArg (fun b : ByteArray => b.data.toList) h; simpa using this))
  rw [← ht]
  have HT := Lib.hid ht
  clear ht
  go_enter Tryz.func100, Tryz.ntmps100
  go_wp2_with fail
  have Rd0 : Row (((w.alloc (.cells #[.bool d] 4)).alloc (.cells zero8 107)).alloc (.cells #[.int .i64 0] 3)) w.heap.size #[.bool d] 4 := ((Row.new w _ _).alloc _).alloc _
  have Rg0 : Row (((w.alloc (.cells #[.bool d] 4)).alloc (.cells zero8 107)).alloc (.cells #[.int .i64 0] 3)) (w.heap.size + 1) (cellsV []) 107 := by simpa [cellsV, lf, zero8] using (Row.new (w.alloc (.cells #[.bool d] 4)) zero8 107).alloc (.cells #[.int .i64 0] 3)
  have Rn0 : Row (((w.alloc (.cells #[.bool d] 4)).alloc (.cells zero8 107)).alloc (.cells #[.int .i64 0] 3)) (w.heap.size + 2) #[.int .i64 (([] : List Nat).length : Nat)] 3 := by
   have h := Row.new ((w.alloc (.cells #[.bool d] 4)).alloc (.cells zero8 107)) #[.int .i64 0] 3
   rw [show ((w.alloc (.cells #[.bool d] 4)).alloc (.cells zero8 107)).heap.size = w.heap.size + 2 by simp] at h
   exact h
  have hb0 : Below w.heap.size w (((w.alloc (.cells #[.bool d] 4)).alloc (.cells zero8 107)).alloc (.cells #[.int .i64 0] 3)) := (by repeat (first | exact Below.refl _ _ | assumption | (with_reducible refine Below.drew ?_) | ((with_reducible first | refine Below.setCell ?_ ?h _ | refine Below.alloc ?_ ?h _ | refine Below.trans ?_ (hb3.mono ?h) | refine Below.trans ?_ (hb2.mono ?h) | refine Below.trans ?_ (hb.mono ?h) | refine Below.trans ?_ (hb0.mono ?h)); case h => first | omega | (simp; done) | (simp; omega))))
  unfold zero8 at Rd0 Rg0 Rn0 hb0
  generalize ((w.alloc (.cells #[.bool d] 4)).alloc (.cells #[.int .u16 0, .int .u16 0, .int .u16 0, .int .u16 0, .int .u16 0, .int .u16 0, .int .u16 0, .int .u16 0] 107)).alloc (.cells #[.int .i64 0] 3) = w0 at *
  go_loopw [0, 8] (fun s m wr => ∃ (b : Bool) (rest : List UInt8) (vs : List Nat), s = .string ⟨rest.toArray⟩ ∧ m = .bool b ∧ rest.length ≤ 4000000000 ∧ vs.length ≤ 8 ∧ Row wr w.heap.size #[.bool d] 4 ∧ Row wr (w.heap.size + 2) #[.int .i64 (vs.length : Nat)] 3 ∧ Row wr (w.heap.size + 1) (cellsV vs) 107 ∧ Below w.heap.size w wr ∧ Hid (if b = true then seqV d (splitC l) = (seqV d (splitC rest)).map fun us => vs ++ us else seqV d (splitC l) = some vs)) (fun s m _ => mLen6 s m)
  case atStart => exact ⟨true, l, [], by rw [HT.out], rfl, hl, by simp, Rd0, Rn0, Rg0, hb0, Lib.hid (by rw [if_pos rfl]; simp)⟩
  case round =>
   clear Rd0 Rg0 Rn0 hb0 HT hemp
   obtain ⟨b, rest, vs, rfl, rfl, hrl, hv8, Rd, Rn, Rg, hb, hr⟩ := hrel
   have HRd := Lib.hid Rd
   have HRn := Lib.hid Rn
   have HRg := Lib.hid Rg
   have HB := Lib.hid hb
   clear Rd Rn Rg hb
   cases b with
   | true =>
    have hcut := cutb_t rest [58] hrl wr (hE.later HB.out)
    rcases split_cut rest with ⟨p, r, hp, hre, hcu, hsp⟩ | ⟨hp, hcu, hsp⟩
    ·rw [hcu] at hcut
     have hplen : p.length ≤ 4000000000 := by rw [hre] at hrl; simp at hrl; omega
     have hrlen : r.length ≤ 4000000000 := by rw [hre] at hrl; simp at hrl; omega
     have hdec : r.length + 1 < rest.length + 1 := by rw [hre]; simp; omega
     have HSM := Lib.hid (step_more hsp hr.out hv8)
     have HC := Lib.hid hcut
     have HDEC := Lib.hid hdec
     clear hcut hcu hre hsp hr hp hdec
     go_wp2_with fail
     refine HC.out.mono ?_
     rintro e w1 ⟨rfl, hb1⟩
     have HRd1 := Lib.hid (HRd.out.later hb1)
     have HRn1 := Lib.hid (HRn.out.later hb1)
     have HRg1 := Lib.hid (HRg.out.later hb1)
     have HB1 := Lib.hid (below_step HB.out hb1)
     clear HRd HRn HRg HB hb1 HC
     go_wp2_with fail
     refine (seq1_t d false p hplen vs hv8 w.heap.size w.heap.size (w.heap.size + 2) (w.heap.size + 1) (by omega) (by omega) (by omega) (by omega) (by omega) w1 (hE.later HB1.out) HRd1.out HRn1.out HRg1.out).mono ?_
     rintro e w2 hP
     have hM := HSM.out
     clear HSM
     cases hq : stepV d false p vs.length with
     | some xs =>
      rw [hq] at hP hM
      obtain ⟨rfl, Rd2, Rn2, Rg2, hb2⟩ := hP
      obtain ⟨h8, hs⟩ := hM
      have HR2 := Lib.hid (And.intro Rd2 (And.intro Rn2 (And.intro Rg2 (HB1.out.trans hb2))))
      have HS2 := Lib.hid hs
      clear Rd2 Rn2 Rg2 hb2 hs HB1 hq
      go_wp2
      exact ⟨⟨true, r, vs ++ xs, rfl, rfl, hrlen, h8, HR2.out.1, HR2.out.2.1, HR2.out.2.2.1, HR2.out.2.2.2, Lib.hid (by rw [if_pos rfl]; exact HS2.out)⟩, by have := HDEC.out; simpa [mLen6, bs_size4] using this⟩
     | none =>
      rw [hq] at hP hM
      obtain ⟨rfl, Rd2, Rn2, Rg2, hb2⟩ := hP
      have HSR := Lib.hid (seqR_none h0 hM)
      have hb3 := HB1.out.trans hb2
      have c0 := (Rg2.cell 0).trans (show _ = some (Value.int .u16 (lf vs 0)) from rfl)
      have f0 := Rg2.frozen 0
      have c1 := (Rg2.cell 1).trans (show _ = some (Value.int .u16 (lf vs 1)) from rfl)
      have f1 := Rg2.frozen 1
      have c2 := (Rg2.cell 2).trans (show _ = some (Value.int .u16 (lf vs 2)) from rfl)
      have f2 := Rg2.frozen 2
      have c3 := (Rg2.cell 3).trans (show _ = some (Value.int .u16 (lf vs 3)) from rfl)
      have f3 := Rg2.frozen 3
      have c4 := (Rg2.cell 4).trans (show _ = some (Value.int .u16 (lf vs 4)) from rfl)
      have f4 := Rg2.frozen 4
      have c5 := (Rg2.cell 5).trans (show _ = some (Value.int .u16 (lf vs 5)) from rfl)
      have f5 := Rg2.frozen 5
      have c6 := (Rg2.cell 6).trans (show _ = some (Value.int .u16 (lf vs 6)) from rfl)
      have f6 := Rg2.frozen 6
      have c7 := (Rg2.cell 7).trans (show _ = some (Value.int .u16 (lf vs 7)) from rfl)
      have f7 := Rg2.frozen 7
      have n0 := (Rn2.cell 0).trans (show _ = some (Value.int .i64 (vs.length : Nat)) from rfl)
      have nf := Rn2.frozen 0
      have HRg2 := Lib.hid Rg2
      have HRn2 := Lib.hid Rn2
      have HB3 := Lib.hid hb3
      clear Rd2 Rn2 Rg2 hb2 hb3 HB1 hq hM
      go_wp2
      have Q := (Row.set8 HRg2.out (.int .u16 0) (.int .u16 0) (.int .u16 0) (.int .u16 0) (.int .u16 0) (.int .u16 0) (.int .u16 0) (.int .u16 0)).set_far ⟨w.heap.size + 2, 0, none⟩ (.int .i64 0) (by dsimp only; omega)
      have N := (Row.far8 (g := w.heap.size + 1) HRn2.out (by omega) (.int .u16 0) (.int .u16 0) (.int .u16 0) (.int .u16 0) (.int .u16 0) (.int .u16 0) (.int .u16 0) (.int .u16 0)).set 0 (.int .i64 0)
      have hbf := (below8 (g := w.heap.size + 1) HB3.out (by omega) (.int .u16 0) (.int .u16 0) (.int .u16 0) (.int .u16 0) (.int .u16 0) (.int .u16 0) (.int .u16 0) (.int .u16 0)).setCell (p := ⟨w.heap.size + 2, 0, none⟩) (by dsimp only; omega) (.int .i64 0)
      clear c0 f0 c1 f1 c2 f2 c3 f3 c4 f4 c5 f5 c6 f6 c7 f7 n0 nf
      have sc0 := (Q.cell 0).trans (show _ = some (Value.int .u16 0) from rfl)
      have sf0 := Q.frozen 0
      have sc1 := (Q.cell 1).trans (show _ = some (Value.int .u16 0) from rfl)
      have sf1 := Q.frozen 1
      have sc2 := (Q.cell 2).trans (show _ = some (Value.int .u16 0) from rfl)
      have sf2 := Q.frozen 2
      have sc3 := (Q.cell 3).trans (show _ = some (Value.int .u16 0) from rfl)
      have sf3 := Q.frozen 3
      have sc4 := (Q.cell 4).trans (show _ = some (Value.int .u16 0) from rfl)
      have sf4 := Q.frozen 4
      have sc5 := (Q.cell 5).trans (show _ = some (Value.int .u16 0) from rfl)
      have sf5 := Q.frozen 5
      have sc6 := (Q.cell 6).trans (show _ = some (Value.int .u16 0) from rfl)
      have sf6 := Q.frozen 6
      have sc7 := (Q.cell 7).trans (show _ = some (Value.int .u16 0) from rfl)
      have sf7 := Q.frozen 7
      have m0 := (N.cell 0).trans (show _ = some (Value.int .i64 0) from rfl)
      exact bodyPost_ret (v := .tuple #[arr8 (fun _ => 0), .int .i64 0, .bool false]) (by simp only [results, Tryz.results100]; simp [go_sem, sc0, sc1, sc2, sc3, sc4, sc5, sc6, sc7, m0, arr8]) rfl (by rw [HSR.out]; exact ⟨rfl, hbf⟩)
    ·rw [hcu] at hcut
     have HSM := Lib.hid (step_last hsp hr.out hv8)
     have HC := Lib.hid hcut
     clear hcut hcu hsp hr hp
     go_wp2_with fail
     refine HC.out.mono ?_
     rintro e w1 ⟨rfl, hb1⟩
     have HRd1 := Lib.hid (HRd.out.later hb1)
     have HRn1 := Lib.hid (HRn.out.later hb1)
     have HRg1 := Lib.hid (HRg.out.later hb1)
     have HB1 := Lib.hid (below_step HB.out hb1)
     clear HRd HRn HRg HB hb1 HC
     go_wp2_with fail
     refine (seq1_t d true rest hrl vs hv8 w.heap.size w.heap.size (w.heap.size + 2) (w.heap.size + 1) (by omega) (by omega) (by omega) (by omega) (by omega) w1 (hE.later HB1.out) HRd1.out HRn1.out HRg1.out).mono ?_
     rintro e w2 hP
     have hM := HSM.out
     clear HSM
     cases hq : stepV d true rest vs.length with
     | some xs =>
      rw [hq] at hP hM
      obtain ⟨rfl, Rd2, Rn2, Rg2, hb2⟩ := hP
      obtain ⟨h8, hs⟩ := hM
      have HR2 := Lib.hid (And.intro Rd2 (And.intro Rn2 (And.intro Rg2 (HB1.out.trans hb2))))
      have HS2 := Lib.hid hs
      clear Rd2 Rn2 Rg2 hb2 hs HB1 hq
      go_wp2
      exact ⟨⟨false, [], vs ++ xs, rfl, rfl, by simp, h8, HR2.out.1, HR2.out.2.1, HR2.out.2.2.1, HR2.out.2.2.2, Lib.hid (by rw [if_neg (by simp)]; exact HS2.out)⟩, by simp [mLen6]⟩
     | none =>
      rw [hq] at hP hM
      obtain ⟨rfl, Rd2, Rn2, Rg2, hb2⟩ := hP
      have HSR := Lib.hid (seqR_none h0 hM)
      have hb3 := HB1.out.trans hb2
      have c0 := (Rg2.cell 0).trans (show _ = some (Value.int .u16 (lf vs 0)) from rfl)
      have f0 := Rg2.frozen 0
      have c1 := (Rg2.cell 1).trans (show _ = some (Value.int .u16 (lf vs 1)) from rfl)
      have f1 := Rg2.frozen 1
      have c2 := (Rg2.cell 2).trans (show _ = some (Value.int .u16 (lf vs 2)) from rfl)
      have f2 := Rg2.frozen 2
      have c3 := (Rg2.cell 3).trans (show _ = some (Value.int .u16 (lf vs 3)) from rfl)
      have f3 := Rg2.frozen 3
      have c4 := (Rg2.cell 4).trans (show _ = some (Value.int .u16 (lf vs 4)) from rfl)
      have f4 := Rg2.frozen 4
      have c5 := (Rg2.cell 5).trans (show _ = some (Value.int .u16 (lf vs 5)) from rfl)
      have f5 := Rg2.frozen 5
      have c6 := (Rg2.cell 6).trans (show _ = some (Value.int .u16 (lf vs 6)) from rfl)
      have f6 := Rg2.frozen 6
      have c7 := (Rg2.cell 7).trans (show _ = some (Value.int .u16 (lf vs 7)) from rfl)
      have f7 := Rg2.frozen 7
      have n0 := (Rn2.cell 0).trans (show _ = some (Value.int .i64 (vs.length : Nat)) from rfl)
      have nf := Rn2.frozen 0
      have HRg2 := Lib.hid Rg2
      have HRn2 := Lib.hid Rn2
      have HB3 := Lib.hid hb3
      clear Rd2 Rn2 Rg2 hb2 hb3 HB1 hq hM
      go_wp2
      have Q := (Row.set8 HRg2.out (.int .u16 0) (.int .u16 0) (.int .u16 0) (.int .u16 0) (.int .u16 0) (.int .u16 0) (.int .u16 0) (.int .u16 0)).set_far ⟨w.heap.size + 2, 0, none⟩ (.int .i64 0) (by dsimp only; omega)
      have N := (Row.far8 (g := w.heap.size + 1) HRn2.out (by omega) (.int .u16 0) (.int .u16 0) (.int .u16 0) (.int .u16 0) (.int .u16 0) (.int .u16 0) (.int .u16 0) (.int .u16 0)).set 0 (.int .i64 0)
      have hbf := (below8 (g := w.heap.size + 1) HB3.out (by omega) (.int .u16 0) (.int .u16 0) (.int .u16 0) (.int .u16 0) (.int .u16 0) (.int .u16 0) (.int .u16 0) (.int .u16 0)).setCell (p := ⟨w.heap.size + 2, 0, none⟩) (by dsimp only; omega) (.int .i64 0)
      clear c0 f0 c1 f1 c2 f2 c3 f3 c4 f4 c5 f5 c6 f6 c7 f7 n0 nf
      have sc0 := (Q.cell 0).trans (show _ = some (Value.int .u16 0) from rfl)
      have sf0 := Q.frozen 0
      have sc1 := (Q.cell 1).trans (show _ = some (Value.int .u16 0) from rfl)
      have sf1 := Q.frozen 1
      have sc2 := (Q.cell 2).trans (show _ = some (Value.int .u16 0) from rfl)
      have sf2 := Q.frozen 2
      have sc3 := (Q.cell 3).trans (show _ = some (Value.int .u16 0) from rfl)
      have sf3 := Q.frozen 3
      have sc4 := (Q.cell 4).trans (show _ = some (Value.int .u16 0) from rfl)
      have sf4 := Q.frozen 4
      have sc5 := (Q.cell 5).trans (show _ = some (Value.int .u16 0) from rfl)
      have sf5 := Q.frozen 5
      have sc6 := (Q.cell 6).trans (show _ = some (Value.int .u16 0) from rfl)
      have sf6 := Q.frozen 6
      have sc7 := (Q.cell 7).trans (show _ = some (Value.int .u16 0) from rfl)
      have sf7 := Q.frozen 7
      have m0 := (N.cell 0).trans (show _ = some (Value.int .i64 0) from rfl)
      exact bodyPost_ret (v := .tuple #[arr8 (fun _ => 0), .int .i64 0, .bool false]) (by simp only [results, Tryz.results100]; simp [go_sem, sc0, sc1, sc2, sc3, sc4, sc5, sc6, sc7, m0, arr8]) rfl (by rw [HSR.out]; exact ⟨rfl, hbf⟩)
   | false =>
    have hs : seqV d (splitC l) = some vs := by have := hr.out; rwa [if_neg (by simp)] at this
    have HSR := Lib.hid (seqR_some h0 hs hv8)
    clear hs hr
    have Rg2 := HRg.out
    have Rn2 := HRn.out
    have c0 := (Rg2.cell 0).trans (show _ = some (Value.int .u16 (lf vs 0)) from rfl)
    have f0 := Rg2.frozen 0
    have c1 := (Rg2.cell 1).trans (show _ = some (Value.int .u16 (lf vs 1)) from rfl)
    have f1 := Rg2.frozen 1
    have c2 := (Rg2.cell 2).trans (show _ = some (Value.int .u16 (lf vs 2)) from rfl)
    have f2 := Rg2.frozen 2
    have c3 := (Rg2.cell 3).trans (show _ = some (Value.int .u16 (lf vs 3)) from rfl)
    have f3 := Rg2.frozen 3
    have c4 := (Rg2.cell 4).trans (show _ = some (Value.int .u16 (lf vs 4)) from rfl)
    have f4 := Rg2.frozen 4
    have c5 := (Rg2.cell 5).trans (show _ = some (Value.int .u16 (lf vs 5)) from rfl)
    have f5 := Rg2.frozen 5
    have c6 := (Rg2.cell 6).trans (show _ = some (Value.int .u16 (lf vs 6)) from rfl)
    have f6 := Rg2.frozen 6
    have c7 := (Rg2.cell 7).trans (show _ = some (Value.int .u16 (lf vs 7)) from rfl)
    have f7 := Rg2.frozen 7
    have n0 := (Rn2.cell 0).trans (show _ = some (Value.int .i64 (vs.length : Nat)) from rfl)
    have nf := Rn2.frozen 0
    clear Rg2 Rn2
    go_wp2_with fail
    go_region
    go_wp2
    have Q := ((Row.set8 HRg.out (.int .u16 (lf vs 0)) (.int .u16 (lf vs 1)) (.int .u16 (lf vs 2)) (.int .u16 (lf vs 3)) (.int .u16 (lf vs 4)) (.int .u16 (lf vs 5)) (.int .u16 (lf vs 6)) (.int .u16 (lf vs 7))).set_far ⟨w.heap.size + 2, 0, none⟩ (.int .i64 (vs.length : Nat)) (by dsimp only; omega)).drew
    have N := ((Row.far8 (g := w.heap.size + 1) HRn.out (by omega) (.int .u16 (lf vs 0)) (.int .u16 (lf vs 1)) (.int .u16 (lf vs 2)) (.int .u16 (lf vs 3)) (.int .u16 (lf vs 4)) (.int .u16 (lf vs 5)) (.int .u16 (lf vs 6)) (.int .u16 (lf vs 7))).set 0 (.int .i64 (vs.length : Nat))).drew
    have hbf := ((below8 (g := w.heap.size + 1) HB.out (by omega) (.int .u16 (lf vs 0)) (.int .u16 (lf vs 1)) (.int .u16 (lf vs 2)) (.int .u16 (lf vs 3)) (.int .u16 (lf vs 4)) (.int .u16 (lf vs 5)) (.int .u16 (lf vs 6)) (.int .u16 (lf vs 7))).setCell (p := ⟨w.heap.size + 2, 0, none⟩) (by dsimp only; omega) (.int .i64 (vs.length : Nat))).drew
    clear c0 f0 c1 f1 c2 f2 c3 f3 c4 f4 c5 f5 c6 f6 c7 f7 n0 nf
    have sc0 := (Q.cell 0).trans (show _ = some (Value.int .u16 (lf vs 0)) from rfl)
    have sf0 := Q.frozen 0
    have sc1 := (Q.cell 1).trans (show _ = some (Value.int .u16 (lf vs 1)) from rfl)
    have sf1 := Q.frozen 1
    have sc2 := (Q.cell 2).trans (show _ = some (Value.int .u16 (lf vs 2)) from rfl)
    have sf2 := Q.frozen 2
    have sc3 := (Q.cell 3).trans (show _ = some (Value.int .u16 (lf vs 3)) from rfl)
    have sf3 := Q.frozen 3
    have sc4 := (Q.cell 4).trans (show _ = some (Value.int .u16 (lf vs 4)) from rfl)
    have sf4 := Q.frozen 4
    have sc5 := (Q.cell 5).trans (show _ = some (Value.int .u16 (lf vs 5)) from rfl)
    have sf5 := Q.frozen 5
    have sc6 := (Q.cell 6).trans (show _ = some (Value.int .u16 (lf vs 6)) from rfl)
    have sf6 := Q.frozen 6
    have sc7 := (Q.cell 7).trans (show _ = some (Value.int .u16 (lf vs 7)) from rfl)
    have sf7 := Q.frozen 7
    have m0 := (N.cell 0).trans (show _ = some (Value.int .i64 (vs.length : Nat)) from rfl)
    exact bodyPost_ret (v := .tuple #[arr8 (lf vs), .int .i64 (vs.length : Nat), .bool true]) (by simp only [results, Tryz.results100]; simp [go_sem, sc0, sc1, sc2, sc3, sc4, sc5, sc6, sc7, m0, arr8]) rfl (by rw [HSR.out]; exact ⟨rfl, hbf⟩)
end Go.Proofs.YtboinifeemghaaaGreatDoor
